/-
  Part.
-/
import Derived.Test.YtefephchbjfdfaaGreatDoorLME
import Derived.Test.YtefephchbjfdfaaGreatDoorLMJ
set_option maxRecDepth 20000
set_option maxHeartbeats 8000000
namespace Go.Proofs.YtefephchbjfdfaaGreatDoor
open Go.RowKit Go.Proofs.Tryz
open _root_.Nat renaming le_refl->AA,zero_le->AZ,zero_add->BK
open Go.RowKit.Below renaming refl->AB
open _root_.Array renaming getElem?_eq_some_iff->AL
open _root_.List renaming getElem?_eq_getElem->AO,length_append->AP,take_length->DX,length_take->FB
open Go.Value.slice renaming injEq->AQ
open Go.World renaming cell?->AX,frozen?->FC
open _root_.Option.some renaming injEq->BF,inj->BQ
open Go.Addr.mk renaming injEq->EW
open Go.Region renaming wanted->FP
open Go.Value renaming slice->FV
open Go.Obj renaming cells->FW
open Go renaming World->FX,Value->FZ,Calls->G5
open _root_.Option renaming none->G6,some->G8
variable{W V:FX}{b:Nat}{n:Nd}{F:Nat->Prop}{z:Int}{vn vs ve:FZ}{ns:List Nd}{ss:List Int}{es:List Ev}
theorem O8(s:List UInt8)(w:FX)(hs:s.length<=281474976710656):
  G5 prog 63 #[S0 s] w (R0 w (S0 s)):=WV ⟨s.toArray⟩ w hs
theorem JU.JO(h:JU W b n)(j:Nat)(v:FZ)(hj:(MI n)[j]?=G8 v):W.cell? ⟨b,j,G6⟩=G8 v:=by
 have:=h.row j v hj;rwa[BK]at this
theorem JU.JA(h:JU W b n)(j:Nat):W.frozen? ⟨b,j,G6⟩=false:=by
 unfold JU at h;simp[FC,h]
theorem JU.BK4(h:JU W b n)(hb:B0 W V):JU V b n:=by
 unfold JU at h⊢;exact(hb.block _ (AL.1 h).1).trans h
def WH:Nd:=⟨[],[],0,0,0,0,0,0,0⟩
theorem ZM(n:Nd)(w:FX)(hp:n.p.length<=140737488355328)(hd:n.d.length<=140737488355328):
  G5 prog 86 #[U8 n] w (R0 w (U8 n)):=by
 have C1:=fun W=>O8 n.p W (by omega);have C2:=fun W=>O8 n.d W (by omega);have X0:∀W,W=(w.alloc (FW (MI n).toArray 61)).alloc (FW (MI WH).toArray 61)->JU W w.heap.size n/\JU W (w.heap.size+1) WH/\B0 w W:=by
  rintro W rfl;refine⟨?_,?_,((AB _ _).alloc (AA _) _).alloc (by simp) _⟩
  .unfold JU;exact(((AB (w.heap.size+1) (w.alloc (FW (MI n).toArray 61))).alloc (by simp) (FW (MI WH).toArray 61)).block _ (by omega)).trans (heap_alloc_new w _)
  .have:=heap_alloc_new (w.alloc (FW (MI n).toArray 61)) (FW (MI WH).toArray 61);rw[show (w.alloc (FW (MI n).toArray 61)).heap.size=w.heap.size+1 by simp]at this;exact this
 have X:=GH X0;clear X0;unfold U8;go_enter func86,ntmps86;go_wp2_with fail;generalize hW0:(w.alloc _).alloc _=W0;obtain⟨x1,x2,x3⟩:=G9 X W0 hW0.symm;clear hW0 X;refine(C1 _).mono ?_;rintro e w1 ⟨rfl,hb1⟩;have y1:=x1.BK4 hb1;have e0:=y1.JO 0 _ rfl;have e1:=y1.JO 1 _ rfl;have f0:=y1.JA 0;have hs0:=IE e0;have Y1:=GH y1;have Y2:=GH (x2.BK4 hb1);have B1:=GH (GK x3 hb1);clear y1 x1 x2 x3 hb1 C1;go_wp2_with fail;refine(C2 _).mono ?_;rintro e w2 ⟨rfl,hb2⟩;have y1:=(G9 Y1).BK4 hb2;have y2:=(G9 Y2).BK4 hb2;have B2:=GH (GK (G9 B1) hb2);clear e0 e1 f0 hs0 C2 hb2 Y1 Y2;have c0:=y1.JO 0 _ rfl;have c1:=y1.JO 1 _ rfl;have c2:=y1.JO 2 _ rfl;have c3:=y1.JO 3 _ rfl;have c4:=y1.JO 4 _ rfl;have c5:=y1.JO 5 _ rfl;have c6:=y1.JO 6 _ rfl;have c7:=y1.JO 7 _ rfl;have c8:=y1.JO 8 _ rfl;have d0:=y2.JO 0 _ rfl;have d1:=y2.JO 1 _ rfl;have d2:=y2.JO 2 _ rfl;have d3:=y2.JO 3 _ rfl;have d4:=y2.JO 4 _ rfl;have d5:=y2.JO 5 _ rfl;have d6:=y2.JO 6 _ rfl;have d7:=y2.JO 7 _ rfl;have d8:=y2.JO 8 _ rfl;have f1:=y1.JA 1;have g0:=y2.JA 0;have g1:=y2.JA 1;have g2:=y2.JA 2;have g3:=y2.JA 3;have g4:=y2.JA 4;have g5:=y2.JA 5;have g6:=y2.JA 6;have g7:=y2.JA 7;have g8:=y2.JA 8;have hs1:=IE c1;have hne:w.heap.size≠w.heap.size+1:=by omega
 clear y1 y2;go_wp2_with fail;have BB:=G9 B2;exact bodyPost_ret (v:=U8 n) (by simp[results,results86,go_sem,U8,d0,d1,d2,d3,d4,d5,d6,d7,d8]) rfl
  ⟨rfl,((((((((BB.setCell (by simp) _).setCell (by simp) _).setCell (by simp) _).setCell (by simp) _).setCell (by simp) _).setCell (by simp) _).setCell (by simp) _).setCell (by simp) _).setCell (by simp) _⟩
structure Grow(W:FX)(F:Nat->Prop)(b:Nat)(z:Int)(vn vs ve:FZ)(ns:List Nd)(ss:List Int)(es:List Ev):Prop where
 blk:W.heap[b]?=G8 (FW #[I0 z,vn,vs,ve] 243 (0,0))
 fb:F b
 n:I5 W 0 vn ns
 s:I5 W 0 vs ss
 e:I5 W 0 ve es
 fn:∀k,vn.ownBlock=G8 k->F k/\k≠b
 fs:∀k,vs.ownBlock=G8 k->F k/\k≠b
 fe:∀k,ve.ownBlock=G8 k->F k/\k≠b
 an:∀k,vn.ownBlock=G8 k->vs.ownBlock≠G8 k/\ve.ownBlock≠G8 k
 asn:∀k,vs.ownBlock=G8 k->ve.ownBlock≠G8 k
theorem Grow.lt(h:Grow W F b z vn vs ve ns ss es):b<W.heap.size:=(AL.1 h.blk).1
theorem Grow.next(h:Grow W F b z vn vs ve ns ss es)(hb:B0 W V):Grow V F b z vn vs ve ns ss es:=
 ⟨(hb.block _ h.lt).trans h.blk,h.fb,h.n.next hb,h.s.next hb,h.e.next hb,h.fn,h.fs,h.fe,h.an,h.asn⟩
theorem Grow.cut{G:Nat->Prop}(h:Grow W F b z vn vs ve ns ss es)(hg:∀k,k<W.heap.size->F k->G k):Grow W G b z vn vs ve ns ss es:=
 ⟨h.blk,hg b h.lt h.fb,h.n,h.s,h.e,fun k hk=>⟨hg k (h.n.low k hk) (h.fn k hk).1,(h.fn k hk).2⟩,fun k hk=>⟨hg k (h.s.low k hk) (h.fs k hk).1,(h.fs k hk).2⟩,fun k hk=>⟨hg k (h.e.low k hk) (h.fe k hk).1,(h.fe k hk).2⟩,h.an,h.asn⟩
theorem Grow.c0(h:Grow W F b z vn vs ve ns ss es):W.cell? ⟨b,0,G6⟩=G8 (I0 z):=by simp[AX,h.blk]
theorem Grow.c1(h:Grow W F b z vn vs ve ns ss es):W.cell? ⟨b,1,G6⟩=G8 vn:=by simp[AX,h.blk]
theorem Grow.c2(h:Grow W F b z vn vs ve ns ss es):W.cell? ⟨b,2,G6⟩=G8 vs:=by simp[AX,h.blk]
theorem Grow.c3(h:Grow W F b z vn vs ve ns ss es):W.cell? ⟨b,3,G6⟩=G8 ve:=by simp[AX,h.blk]
theorem Grow.fz(h:Grow W F b z vn vs ve ns ss es)(j:Nat):W.frozen? ⟨b,j,G6⟩=false:=by simp[FC,h.blk]
theorem Grow.ev{ve':FZ}{es':List Ev}(h:Grow W F b z vn vs ve ns ss es)(hF:∀k,W.heap.size<=k->F k)(hg:W.grownBy V ve.ownBlock)(he:I5 V 0 ve' es')(hl:ve'.ownBlock=ve.ownBlock\/ve'.ownBlock=G8 W.heap.size):
  Grow (V.setCell ⟨b,3,G6⟩ ve') F b z vn vs ve' ns ss es':=by
 have hbe:G8 b≠ve.ownBlock:=fun e=>(h.fe b e.symm).2 rfl;have hb:=h.lt;have hne:∀k,ve'.ownBlock=G8 k->F k/\k≠b/\vn.ownBlock≠G8 k/\vs.ownBlock≠G8 k:=by
  intro k hk;rcases hl with e|e
  .rw[e]at hk;exact⟨(h.fe k hk).1,(h.fe k hk).2,fun hn=>(h.an k hn).2 hk,fun hs=>h.asn k hs hk⟩
  .rw[e]at hk
   cases hk
   exact⟨hF _ (AA _),by omega,fun hn=>by have:=h.n.low _ hn;omega,fun hs=>by have:=h.s.low _ hs;omega⟩
 refine⟨?_,h.fb,?_,?_,?_,h.fn,h.fs,fun k hk=>⟨(hne k hk).1,(hne k hk).2.1⟩,fun k hk=>⟨(h.an k hk).1,fun e=>(hne k e).2.2.1 hk⟩,fun k hk e=>(hne k e).2.2.2 hk⟩
 .rw[GY ve' ((hg.block b hb hbe).trans h.blk)];rfl
 .exact(h.n.grown hg (fun k hk e=>(h.an k hk).2 e.symm)).other (fun e=>(h.fn b e).2 rfl) _
 .exact(h.s.grown hg (fun k hk e=>h.asn k hk e.symm)).other (fun e=>(h.fs b e).2 rfl) _
 .exact he.other (fun e=>(hne b e).2.1 rfl) _
theorem Grow.nd{vn':FZ}{ns':List Nd}(h:Grow W F b z vn vs ve ns ss es)(hF:∀k,W.heap.size<=k->F k)(hg:W.grownBy V vn.ownBlock)(hn':I5 V 0 vn' ns')(hl:vn'.ownBlock=vn.ownBlock\/∃k,W.heap.size<=k/\vn'.ownBlock=G8 k):
  Grow (V.setCell ⟨b,1,G6⟩ vn') F b z vn' vs ve ns' ss es:=by
 have hbn:G8 b≠vn.ownBlock:=fun e=>(h.fn b e.symm).2 rfl;have hb:=h.lt;have hne:∀k,vn'.ownBlock=G8 k->F k/\k≠b/\vs.ownBlock≠G8 k/\ve.ownBlock≠G8 k:=by
  intro k hk;rcases hl with e|⟨j,hj,e⟩
  .rw[e]at hk;exact⟨(h.fn k hk).1,(h.fn k hk).2,(h.an k hk).1,(h.an k hk).2⟩
  .rw[e]at hk
   cases hk
   exact⟨hF _ hj,by omega,fun hs=>by have:=h.s.low _ hs;omega,fun hs=>by have:=h.e.low _ hs;omega⟩
 refine⟨?_,h.fb,?_,?_,?_,fun k hk=>⟨(hne k hk).1,(hne k hk).2.1⟩,h.fs,h.fe,fun k hk=>(hne k hk).2.2,h.asn⟩
 .rw[GY vn' ((hg.block b hb hbn).trans h.blk)];rfl
 .exact hn'.other (fun e=>(hne b e).2.1 rfl) _
 .exact(h.s.grown hg (fun k hk e=>(h.an k e.symm).1 hk)).other (fun e=>(h.fs b e).2 rfl) _
 .exact(h.e.grown hg (fun k hk e=>(h.an k e.symm).2 hk)).other (fun e=>(h.fe b e).2 rfl) _
theorem Grow.se{vs':FZ}{ss':List Int}(h:Grow W F b z vn vs ve ns ss es)(hF:∀k,W.heap.size<=k->F k)(hg:W.grownBy V vs.ownBlock)(hn':I5 V 0 vs' ss')(hl:vs'.ownBlock=vs.ownBlock\/∃k,W.heap.size<=k/\vs'.ownBlock=G8 k):
  Grow (V.setCell ⟨b,2,G6⟩ vs') F b z vn vs' ve ns ss' es:=by
 have hbn:G8 b≠vs.ownBlock:=fun e=>(h.fs b e.symm).2 rfl;have hb:=h.lt;have hne:∀k,vs'.ownBlock=G8 k->F k/\k≠b/\vn.ownBlock≠G8 k/\ve.ownBlock≠G8 k:=by
  intro k hk;rcases hl with e|⟨j,hj,e⟩
  .rw[e]at hk;exact⟨(h.fs k hk).1,(h.fs k hk).2,fun hn=>(h.an k hn).1 hk,h.asn k hk⟩
  .rw[e]at hk
   cases hk
   exact⟨hF _ hj,by omega,fun hs=>by have:=h.n.low _ hs;omega,fun hs=>by have:=h.e.low _ hs;omega⟩
 refine⟨?_,h.fb,?_,?_,?_,h.fn,fun k hk=>⟨(hne k hk).1,(hne k hk).2.1⟩,h.fe,fun k hk=>⟨fun e=>(hne k e).2.2.1 hk,(h.an k hk).2⟩,fun k hk=>(hne k hk).2.2.2⟩
 .rw[GY vs' ((hg.block b hb hbn).trans h.blk)];rfl
 .exact(h.n.grown hg (fun k hk e=>(h.an k hk).1 e.symm)).other (fun e=>(h.fn b e).2 rfl) _
 .exact hn'.other (fun e=>(hne b e).2.1 rfl) _
 .exact(h.e.grown hg (fun k hk e=>h.asn k e.symm hk)).other (fun e=>(h.fe b e).2 rfl) _
theorem Grow.put{g cap:Nat}{A B:List Nd}{m:Nd}{l:Nat}(h:Grow W F b z (FV (G8 ⟨g,0,G6⟩) l cap) vs ve (A++n::B) ss es){c:Nat}(hc:c<9){v:FZ}(hm:MI m=(MI n).set c v):
  Grow (W.setCell ⟨g,A.length*9+c,G6⟩ v) F b z (FV (G8 ⟨g,0,G6⟩) l cap) vs ve (A++m::B) ss es:=by
 have hgb:=(h.fn g rfl).2;refine⟨(Below.heap_setCell W ⟨g,_,G6⟩ v b (fun e=>hgb e.symm)).trans h.blk,h.fb,?_,?_,?_,h.fn,h.fs,h.fe,h.an,h.asn⟩
 .rcases h.n with⟨h1,_⟩|⟨g',cap',h1,h2,h3⟩
  .cases h1
  .simp only[AQ,BF,EW,and_true]at h1;obtain⟨rfl,rfl,rfl⟩:=h1;refine .inr ⟨g,cap,by simp,h2,?_⟩;exact h3.set (c:=c) (by exact hc) hm
 .exact h.s.other (fun e=>(h.an g rfl).1 e) _
 .exact h.e.other (fun e=>(h.an g rfl).2 e) _
theorem Grow.iG(h:Grow W F b z vn vs ve ns ss es)(h0:ns≠[]):∃g cap,vn=FV (G8 ⟨g,0,G6⟩) ns.length cap/\JD W g cap ns/\g≠b/\F g:=by
 rcases h.n with⟨_,h1⟩|⟨g,cap,rfl,_,h3⟩
 .exact absurd h1 h0
 .exact⟨g,cap,rfl,h3,(h.fn g rfl).2,(h.fn g rfl).1⟩
theorem A18{w:FX}{ops:Array Oper}{o:Oper}{a:Act}{K:Act->FX->Prop}{Q:Exit->Act->FX->Prop}{E:Prop}(hgd:FP o (yielded ops a.tmps)=true)(s x:Operand)
  (ho:o.op=.call {callee:=.builtin .append,args:=#[s,x],argTypes:=#[196,196]})
  (v:FZ) (es:List Ev) (hs:a.eval s=v) (hown:I5 w 0 v es)
  (q:Nat) (hx:a.eval x=FV (G8 ⟨q,0,G6⟩) 1 1) (t:Ev) (hnews:JU w q t) (hl:es.length<=100000)
  (h:∀a' c' w',I5 w' 0 (FV a' (es.length+1) c') (es++[t])->w.grownBy w' v.ownBlock->((Value.slice a' (es.length+1) c').ownBlock=v.ownBlock\/(Value.slice a' (es.length+1) c').ownBlock=G8 w.heap.size)->K (a.put o.dst (FV a' (es.length+1) c')) w'):
  if FP o (yielded ops a.tmps)=true then Oper.wp prog o a w K Q else E:=by
 rw[if_pos hgd];obtain⟨i0,hi0,hz0,hz1,hz2⟩:=CU1;obtain⟨v',w',hr,h2,h3,_,h5⟩:=run_append_own_at (P:=prog) w 0 196 o.type 40 i0 _ 2 24 underlying196 hi0 hz0 hz1 hz2 rfl (by decide) v es.length (GL es) hown.row ⟨q,0,G6⟩ 1 1 (AX4 t) rfl (RZ hnews) (Lay.one t) (by simp only[maxLen];omega) (by omega) (AZ _);have h2':I5 w' 0 v' (es++[t]):=I5.LD (by rw[AP,JJ];exact h2);obtain⟨a',c',rfl,_⟩:=h2'.slice;have hlen:(es++[t]).length=es.length+1:=by simp
 rw[hlen]at h2' hr h5;unfold Oper.wp execOp;simp only[ho,resolve,invoke,builtin,Sem.run_bind,Sem.run_pure,Result.andThen_ok,List.map_toArray,List.map_cons,List.map_nil,hs,hx,hr];exact h a' c' w' h2' h3 h5
theorem iH(F:Nat->Prop)(b:Nat)(z:Int)(vn vs ve:FZ)(ns:List Nd)(ss:List Int)(es:List Ev)(kind:Int)(p:List UInt8)(w:FX)
  (h:Grow w F b z vn vs ve ns ss es) (hF:∀k,w.heap.size<=k->F k) (hp:p.length<=140737488355328) (hl:es.length<=100000):
  G5 prog 225 #[P0 b,I0 kind,S0 p] w fun e w'=>
   e=.returned (.tuple #[])/\∃ve',Grow w' F b z vn vs ve' ns ss (es++[⟨kind,p⟩])/\Touch F w w':=by
 have C:=fun W=>O8 p W (by omega);have c3:=h.c3;have f3:=h.fz 3;have HG:=GH h;have HF:=GH hF;obtain⟨ea,ec,rfl,_⟩:=h.e.slice;have K1:=GH (fun w1 (hb1:B0 w w1)=>(⟨(h.next hb1).c3,(h.next hb1).fz 3,(h.next hb1).lt,((h.next hb1).next (GI _ _)).c3⟩:w1.cell? ⟨b,3,G6⟩=G8 (FV ea es.length ec)/\w1.frozen? ⟨b,3,G6⟩=false/\b<w1.heap.size/\(w1.alloc (FW #[I0 kind,S0 p] 40)).cell? ⟨b,3,G6⟩=G8 (FV ea es.length ec)));have KE:=GH (fun w1 (hb1:B0 w w1)=>(h.next hb1).e.next (GI w1 (FW #[I0 kind,S0 p] 40)));have K2:∀ (w1 w2:FX) (a2:Option Addr) (c2:Nat),B0 w w1->I5 w2 0 (FV a2 (es.length+1) c2) (es++[⟨kind,p⟩])->(w1.alloc (FW #[I0 kind,S0 p] 40)).grownBy w2 (Value.slice ea es.length ec).ownBlock->
   ((Value.slice a2 (es.length+1) c2).ownBlock=(Value.slice ea es.length ec).ownBlock\/(Value.slice a2 (es.length+1) c2).ownBlock=G8 (w1.alloc (FW #[I0 kind,S0 p] 40)).heap.size)->
   w2.cell? ⟨b,3,G6⟩=G8 (FV ea es.length ec)/\w2.frozen? ⟨b,3,G6⟩=false/\Grow (w2.setCell ⟨b,3,G6⟩ (FV a2 (es.length+1) c2)) F b z vn vs (FV a2 (es.length+1) c2) ns ss (es++[⟨kind,p⟩])/\Touch F w (w2.setCell ⟨b,3,G6⟩ (FV a2 (es.length+1) c2)):=by
  intro w1 w2 a2 c2 hb1 ho2 hg2 hl2;have g1:=(h.next hb1).next (GI w1 (FW #[I0 kind,S0 p] 40));have n3:¬ (Value.slice ea es.length ec).ownBlock=G8 b:=fun e=>(h.fe b e).2 rfl;refine⟨hg2.cell g1.c3 (fun e=>n3 e.symm),(World.frozen?_of_block (hg2.block b g1.lt (fun e=>n3 e.symm))).trans (g1.fz 3),g1.ev (fun k hk=>hF k (by have:=hb1.size;simp at hk;omega)) hg2 ho2 hl2,?_⟩;exact(((Touch.of_below hb1).trans (Touch.of_below (GI _ _))).trans (Touch.VI hg2 (fun k e=>(h.fe k e).1))).trans (Touch.set h.fb _)
 have HK2:=GH K2;clear h hF hp K2;go_enter func225,ntmps225;go_wp2_with fail
 go_region_law (first
  |(refine A18 (by kernel_rfl) _ _ (by rfl) (FV ea es.length ec) es (by rfl) (G9 KE w1 (G9 HB1)) w1.heap.size (by rfl) ⟨kind,p⟩ (zY w1 kind p) hl ?_;intro a2 c2 w2 ho2 hg2 hl2;obtain⟨m3,l3,g2,t2⟩:=G9 HK2 w1 w2 a2 c2 (G9 HB1) ho2 hg2 hl2;have HG2:=GH g2;have HT2:=GH t2;clear ho2 hg2 hl2 g2 t2)
  |(go_simp;refine(C _).mono ?_;rintro e w1 ⟨rfl,hb1⟩;have HB1:Hid (B0 w w1):=(by first|exact hb1|exact IG hb1);obtain⟨d3,k3,hbn,d3a⟩:=G9 K1 w1 (G9 HB1);clear hb1))
 all_goals go_wp2_with fail
 all_goals go_end0
 all_goals exact⟨rfl,_,G9 HG2,G9 HT2⟩
theorem kC(a:Addr)(cap:Nat)(ss:List Int)(w:FX)(hl:ss.length<=2147483647)(hc:∀j u,(GL ss)[j]?=G8 u->w.cell? (a.add j)=G8 u):
  G5 prog 26 #[FV (G8 a) ss.length cap] w fun e w'=>∃v',e=.returned v'/\I5 w' w.heap.size v' ss/\B0 w w':=by
 have q22:∀ (w:FX) (a:Option Addr) (n c n' c':Nat),(binOp .eql 50 (FV a n c) (FV G6 n' c')).run prog w=.ok (.bool a.isNone) w:=fun w a n c n' c'=>Lib.run_eql_slice_nil w _ _ a n c n' c' underlying50;have H:Hid (∀j u,(GL ss)[j]?=G8 u->w.cell? (a.add j)=G8 u):=hc;clear hc;obtain⟨i0,hi0,hz0,hz1,hz2⟩:=A13;go_enter func26,ntmps26;go_wp2_with (at_builtin;refine wpList_append_own _ rfl _ _ 50 rfl w.heap.size 3 i0 _ 1 8 underlying50 hi0 hz0 hz1 hz2 rfl (by decide) _ _ _ rfl (World.ownsRow_made w #[] 0 (AA _) (AZ _) (by simp)) a ss.length cap (GL ss) rfl ?qc1 ?qc2 ?qc3 ?qc4 ?qc5 ?qc6 ?_)
 case qc1=>exact(J9 ss).trans (Nat.mul_one _).symm
 case qc2=>
  intro j u hj;exact Lib.cell?_alloc_some _ (H.out j u hj)
 case qc3=>exact JK ss
 case qc4=>simp only[maxLen];omega
 case qc5=>omega
 case qc6=>simp
 intro v' w1 hown hgrow hnil
 go_wp2
 go_ret;refine⟨v',rfl,I5.LD hown,?_⟩;exact((AB _ w).alloc (AA _) _).grown hgrow (by simp) (by intro k hk;simp[Value.ownBlock]at hk;omega)
theorem AK9(n c:Nat)(w:FX):
  G5 prog 26 #[FV G6 n c] w fun e w'=>e=.returned (N0)/\w'=w:=by
 have q22:∀ (w:FX) (a:Option Addr) (n c n' c':Nat),(binOp .eql 50 (FV a n c) (FV G6 n' c')).run prog w=.ok (.bool a.isNone) w:=fun w a n c n' c'=>Lib.run_eql_slice_nil w _ _ a n c n' c' underlying50;go_enter func26,ntmps26
 go_wp2
 go_ret;exact⟨rfl,rfl⟩
theorem dX(v:FZ)(ss:List Int)(w:FX)(hv:IV w v ss)(hl:ss.length<=2147483647):
  G5 prog 26 #[v] w fun e w'=>∃v',e=.returned v'/\I5 w' w.heap.size v' ss/\B0 w w':=by
 rcases hv with⟨a,cap,rfl,rfl,_⟩|⟨b,off,cap,rfl,_,_,hb,_,hr⟩
 .cases a with
  |none=>exact(AK9 0 cap w).mono fun e w' ⟨he,hw⟩=>⟨_,he,.inl ⟨rfl,rfl⟩,by rw[hw];exact AB _ _⟩
  |some a=>exact kC a cap [] w (by simp) (fun j u h=>by simp[SX]at h)
 .exact kC ⟨b,off,G6⟩ cap ss w hl (fun j u h=>by rw[Addr.add_lit];exact hr j u h)
theorem A19{w:FX}{ops:Array Oper}{o:Oper}{a:Act}{K:Act->FX->Prop}{Q:Exit->Act->FX->Prop}{E:Prop}(hgd:FP o (yielded ops a.tmps)=true)(s x:Operand)
  (ho:o.op=.call {callee:=.builtin .append,args:=#[s,x],argTypes:=#[49,49]})
  (v:FZ) (ns:List Nd) (hs:a.eval s=v) (hown:I5 w 0 v ns)
  (q:Nat) (hx:a.eval x=FV (G8 ⟨q,0,G6⟩) 1 1) (t:Nd) (hnews:JU w q t) (hl:ns.length<=100000)
  (h:∀a' c' w',I5 w' 0 (FV a' (ns.length+1) c') (ns++[t])->w.grownBy w' v.ownBlock->((Value.slice a' (ns.length+1) c').ownBlock=v.ownBlock\/(Value.slice a' (ns.length+1) c').ownBlock=G8 w.heap.size)->K (a.put o.dst (FV a' (ns.length+1) c')) w'):
  if FP o (yielded ops a.tmps)=true then Oper.wp prog o a w K Q else E:=by
 rw[if_pos hgd];obtain⟨i0,hi0,hz0,hz1,hz2⟩:=AK7;obtain⟨v',w',hr,h2,h3,_,h5⟩:=run_append_own_at (P:=prog) w 0 49 o.type 61 i0 _ 9 88 underlying49 hi0 hz0 hz1 hz2 rfl (by decide) v ns.length (GL ns) hown.row ⟨q,0,G6⟩ 1 1 (MI t) rfl (RZ hnews) (Lay.one t) (by simp only[maxLen];omega) (by omega) (AZ _);have h2':I5 w' 0 v' (ns++[t]):=I5.LD (by rw[AP,JJ];exact h2);obtain⟨a',c',rfl,_⟩:=h2'.slice;have hlen:(ns++[t]).length=ns.length+1:=by simp
 rw[hlen]at h2' hr h5;unfold Oper.wp execOp;simp only[ho,resolve,invoke,builtin,Sem.run_bind,Sem.run_pure,Result.andThen_ok,List.map_toArray,List.map_cons,List.map_nil,hs,hx,hr];exact h a' c' w' h2' h3 h5
theorem rG(w:FX)(n:Nd):JU (w.alloc (FW #[S0 n.p,S0 n.d,I0 n.c,I0 n.m,I0 n.q,I0 n.v,I0 n.k,I0 n.o,I0 n.n] 61)) w.heap.size n:=heap_alloc_new w _
theorem B07(t:Tr)(vn vs:FZ)(z:Int)(w:FX)(hn:IV w vn t.ns)(hs:IV w vs t.ss)(hl:t.ns.length<=400)(hls:t.ss.length<=2147483647)(C37:∀n∈t.ns,n.p.length<=140737488355328/\n.d.length<=140737488355328):
  G5 prog 166 #[.agg #[I0 t.z,vn,vs],I0 z] w fun e w'=>
   ∃b vn' vs',e=.returned (P0 b)/\Grow w' (fun k=>w.heap.size<=k) b z vn' vs' (N0) t.ns t.ss []/\B0 w w':=by
 have CC:=GH (fun n (hn:n∈t.ns) W=>ZM n W (C37 n hn).1 (C37 n hn).2);have CI:=GH (fun W (hW:B0 w W)=>dX vs t.ss W (hs.next hW) hls);have KR:∀W,B0 w W->∀k x,t.ns[k]?=G8 x->∃b off cap,vn=FV (G8 ⟨b,off,G6⟩) t.ns.length cap/\b<w.heap.size/\II W b off (GL t.ns):=fun W hW k x hx=>by
  obtain⟨b,off,cap,e,hb,hr,_,_⟩:=N8 hn (fun h0=>by obtain⟨h1,_⟩:=List.getElem?_eq_some_iff.1 hx;rw[h0]at h1;simp at h1);exact⟨b,off,cap,e,hb,hr.kept hW hb⟩
 have HKR:=GH KR;obtain⟨na,nc,rfl⟩:=GU hn;obtain⟨sa,sc,rfl⟩:=GU hs;clear hn hs C37 KR;unfold U8 at CC;have S0:∀W,W=(w.alloc (FW #[I0 t.z,FV na t.ns.length nc,FV sa t.ss.length sc] 52)).alloc (FW #[I0 z,N0,N0,N0] 243)->
   Grow W (fun k=>w.heap.size+1<=k) (w.heap.size+1) z (N0) (N0) (N0) [] [] []/\Touch (fun k=>w.heap.size+1<=k) (w.alloc (FW #[I0 t.z,FV na t.ns.length nc,FV sa t.ss.length sc] 52)) W:=by
  rintro W rfl;refine⟨⟨?_,AA _,.inl ⟨rfl,rfl⟩,.inl ⟨rfl,rfl⟩,.inl ⟨rfl,rfl⟩,(by intro k hk;cases hk),(by intro k hk;cases hk),(by intro k hk;cases hk),(by intro k hk;cases hk),(by intro k hk;cases hk)⟩,?_⟩
  .have:=heap_alloc_new (w.alloc (FW #[I0 t.z,FV na t.ns.length nc,FV sa t.ss.length sc] 52)) (FW #[I0 z,N0,N0,N0] 243);rw[show (w.alloc (FW #[I0 t.z,FV na t.ns.length nc,FV sa t.ss.length sc] 52)).heap.size=w.heap.size+1 by simp]at this;exact this
  .exact Touch.of_below (GI _ _)
 have HS0:=GH S0;have BX:∀W,Touch (fun k=>w.heap.size+1<=k) (w.alloc (FW #[I0 t.z,FV na t.ns.length nc,FV sa t.ss.length sc] 52)) W->B0 w W/\W.cell? ⟨w.heap.size,2,G6⟩=G8 (FV sa t.ss.length sc)/\w.heap.size+1<=W.heap.size:=by
  intro W h;have hb:W.heap[w.heap.size]?=_:=(h.block w.heap.size (by simp) (by omega)).trans (heap_alloc_new w _);refine⟨(GI w _).trans (h.below (by simp) (fun k hk=>by omega)),by simp[AX,hb],by have:=h.size;simpa using this⟩
 have HBX:=GH BX;clear S0 BX;go_enter func166,ntmps166;go_wp2_with fail
 go_loopg [18] t.ns.length (fun kx s18 wr=>∃ (k:Nat) (vn':FZ),s18=I0 k/\k<=t.ns.length/\t.ns.length-k<=kx/\Hid (Grow wr (fun k=>w.heap.size+1<=k) (w.heap.size+1) z vn' (N0) (N0) (t.ns.take k) [] [])/\Hid (Touch (fun k=>w.heap.size+1<=k) (w.alloc (FW #[I0 t.z,FV na t.ns.length nc,FV sa t.ss.length sc] 52)) wr))
 case atStart=>
  obtain⟨g0,t0⟩:=G9 HS0 _ rfl;exact⟨0,_,rfl,AZ _,AA _,GH g0,GH t0⟩
 case round=>
  obtain⟨k,vn',rfl,hk,hg,hG,hT⟩:=hrel;obtain⟨hBw,hc2,hsz⟩:=G9 HBX wr (G9 hT);have HBw:=GH hBw;by_cases hlt:k<t.ns.length
  .obtain⟨x,hx⟩:∃x,t.ns[k]?=G8 x:=⟨_,AO hlt⟩;obtain⟨b,off,cap,he,hb,q⟩:=G9 HKR wr hBw k x hx;simp only[AQ]at he;obtain⟨rfl,_,rfl⟩:=he;have d0:=q.n0 hx;have d1:=q.n1 hx;have d2:=q.n2 hx;have d3:=q.n3 hx;have d4:=q.n4 hx;have d5:=q.n5 hx;have d6:=q.n6 hx;have d7:=q.n7 hx;have d8:=q.n8 hx;have hbw:b<wr.heap.size:=by omega
   have CX:=fun W=>G9 CC x (List.mem_of_getElem? hx) W;have HT1:=GH (show t.ns.take (k+1)=t.ns.take k++[x] by rw[List.take_add_one,hx];rfl);have hlk:(t.ns.take k).length<=400:=by simp;omega
   obtain⟨P,hP⟩:∃P,t.ns.take k=P:=⟨_,rfl⟩;rw[hP]at hG hlk HT1;clear q hx hP;obtain⟨va,vc,rfl,_⟩:=(G9 hG).n.slice;have h:=G9 hG;have c1:=h.c1;have f1:=h.fz 1;have K1:=GH (fun w1 (hb1:B0 wr w1)=>(⟨(h.next hb1).c1,(h.next hb1).fz 1,(h.next hb1).lt,((h.next hb1).next (GI _ _)).c1⟩:w1.cell? ⟨w.heap.size+1,1,G6⟩=G8 (FV va P.length vc)/\w1.frozen? ⟨w.heap.size+1,1,G6⟩=false/\w.heap.size+1<w1.heap.size/\(w1.alloc (FW #[S0 x.p,S0 x.d,I0 x.c,I0 x.m,I0 x.q,I0 x.v,I0 x.k,I0 x.o,I0 x.n] 61)).cell? ⟨w.heap.size+1,1,G6⟩=G8 (FV va P.length vc)));have KE:=GH (fun w1 (hb1:B0 wr w1)=>(h.next hb1).n.next (GI w1 (FW #[S0 x.p,S0 x.d,I0 x.c,I0 x.m,I0 x.q,I0 x.v,I0 x.k,I0 x.o,I0 x.n] 61)));have K2:∀ (w1 w2:FX) (a2:Option Addr) (c2:Nat),B0 wr w1->I5 w2 0 (FV a2 (P.length+1) c2) (P++[x])->(w1.alloc (FW #[S0 x.p,S0 x.d,I0 x.c,I0 x.m,I0 x.q,I0 x.v,I0 x.k,I0 x.o,I0 x.n] 61)).grownBy w2 (Value.slice va P.length vc).ownBlock->
     ((Value.slice a2 (P.length+1) c2).ownBlock=(Value.slice va P.length vc).ownBlock\/(Value.slice a2 (P.length+1) c2).ownBlock=G8 (w1.alloc (FW #[S0 x.p,S0 x.d,I0 x.c,I0 x.m,I0 x.q,I0 x.v,I0 x.k,I0 x.o,I0 x.n] 61)).heap.size)->
     w2.cell? ⟨w.heap.size+1,1,G6⟩=G8 (FV va P.length vc)/\w2.frozen? ⟨w.heap.size+1,1,G6⟩=false/\Grow (w2.setCell ⟨w.heap.size+1,1,G6⟩ (FV a2 (P.length+1) c2)) (fun k=>w.heap.size+1<=k) (w.heap.size+1) z (FV a2 (P.length+1) c2) (N0) (N0) (P++[x]) [] []/\Touch (fun k=>w.heap.size+1<=k) wr (w2.setCell ⟨w.heap.size+1,1,G6⟩ (FV a2 (P.length+1) c2)):=by
    intro w1 w2 a2 c2 hb1 ho2 hg2 hl2;have g1:=(h.next hb1).next (GI w1 (FW #[S0 x.p,S0 x.d,I0 x.c,I0 x.m,I0 x.q,I0 x.v,I0 x.k,I0 x.o,I0 x.n] 61));have n3:¬ (Value.slice va P.length vc).ownBlock=G8 (w.heap.size+1):=fun e=>(h.fn _ e).2 rfl;refine⟨hg2.cell g1.c1 (fun e=>n3 e.symm),(World.frozen?_of_block (hg2.block _ g1.lt (fun e=>n3 e.symm))).trans (g1.fz 1),g1.nd (fun k hk=>by have:=hb1.size;simp at hk;omega) hg2 ho2 ?_,?_⟩
    .rcases hl2 with e|e
     .exact .inl e
     .exact .inr ⟨_,AA _,e⟩
    .exact(((Touch.of_below hb1).trans (Touch.of_below (GI _ _))).trans (Touch.VI hg2 (fun k e=>(h.fn k e).1))).trans (Touch.set h.fb _)
   have HK2:=GH K2;have hbn:w.heap.size+1≠wr.heap.size:=by have:=h.lt;omega
   have hbl:=h.lt;clear h K2;go_wp2_with fail
   go_region_law (first
    |(refine A19 (by kernel_rfl) _ _ (by rfl) (FV va P.length vc) P (by rfl) (G9 KE w1 (G9 HB1)) w1.heap.size (by rfl) x (rG w1 x) (by omega) ?_;intro a2 c2 w2 ho2 hg2 hl2;obtain⟨m3,l3,g2,t2⟩:=G9 HK2 w1 w2 a2 c2 (G9 HB1) ho2 hg2 hl2;have HG2:=GH g2;have HT2:=GH ((G9 hT).trans t2);clear ho2 hg2 hl2 g2 t2)
    |(go_simp;refine(CX _).mono ?_;rintro e w1 ⟨rfl,hb1⟩;have HB1:Hid (B0 wr w1):=(by first|exact H7 (IG hb1)|exact H7 hb1);obtain⟨e3,k3,hbn2,d3a⟩:=G9 K1 w1 (G9 HB1);clear hb1))
   all_goals
    go_wp2_with fail
    go_roundg (t.ns.length-(k+1))
    case measure=>omega
    case rel=>exact⟨k+1,_,rfl,by omega,AA _,(by rw[G9 HT1];exact HG2),HT2⟩
  .obtain rfl:k=t.ns.length:=by omega
   clear hBw;go_wp2_with fail;refine(G9 CI wr (G9 HBw)).mono ?_;rintro e w1 ⟨vs',rfl,ho,hb1⟩;have h:=(G9 hG).next hb1;have c2:=h.c2;have f2:=h.fz 2;have g2:=(G9 hG).se (V:=w1) (vs':=vs') (ss':=t.ss) (fun k hk=>by omega) ⟨hb1.os,hb1.tape,hb1.output,hb1.size,fun k hk _=>hb1.block k hk⟩ (ho.lower (AZ _)) (by
    rcases ho with⟨rfl,_⟩|⟨g,cap,rfl,hB,_⟩
    .exact .inl rfl
    .exact .inr ⟨g,hB,rfl⟩)
   have hne:w.heap.size+1≠w.heap.size:=by omega
   rw[DX]at g2;have HG2:=GH (g2.cut (G:=fun k=>w.heap.size<=k) (fun k _ hk=>by omega));have HB2:=GH (GK (G9 HBw) hb1);obtain⟨sa',sc',rfl,_⟩:=ho.slice;clear h g2 ho hb1;go_wp2_with fail;go_ret;exact⟨w.heap.size+1,_,_,rfl,G9 HG2,(G9 HB2).setCell (by simp) _⟩
theorem UQ(A:List Nd)(x:Nd)(B:List Nd):(A++x::B)[A.length]?=G8 x:=by simp
theorem kD(F:Nat->Prop)(b:Nat)(z:Int)(vn vs ve:FZ)(ns A B:List Nd)(u:Nd)(ss:List Int)(es:List Ev)(p:List UInt8)(more:Int)(w:FX)
  (h:Grow w F b z vn vs ve ns ss es) (T:KL ns A u B p) (hl:ns.length<=400) (hk:u.k=2147483647):
  G5 prog 226 #[P0 b,S0 p,I0 more] w fun e w'=>e=.returned (I0 6)/\Touch F w w':=by
 have CF:=fun W (hW:B0 w W)=>JY vn ns A B u p W (h.n.next hW).seq (by omega) T;obtain⟨g,cap,rfl,hr,hgb,hFg⟩:=h.iG (by rw[T.eq];simp);have c1:=h.c1;have HG:=GH h;have HE:=GH T.eq;have hlt:A.length<ns.length:=by rw[T.eq];simp
 clear h hr T;go_enter func226,ntmps226;go_wp2_with fail;refine(CF _ (AB _ _)).mono ?_;rintro e w1 ⟨rfl,hb1⟩;have g1:=(G9 HG).next hb1;have d1:=g1.c1;obtain⟨g',cap',he,hr,_,_⟩:=g1.iG (by rw[G9 HE];simp);simp only[AQ,BF,EW,and_true]at he;obtain⟨rfl,_,rfl⟩:=he;have r6:=hr.row.n6 (i:=A.length) (x:=u) (by rw[G9 HE];exact UQ A u B);rw[hk,BK]at r6;have HB:=GH hb1;clear CF c1 g1 hr hb1;go_wp2_with fail;go_ret;exact⟨rfl,Touch.of_below (G9 HB)⟩
theorem wM(F:Nat->Prop)(b:Nat)(z:Int)(vn vs ve:FZ)(ns A B:List Nd)(u:Nd)(ss:List Int)(es:List Ev)(p:List UInt8)(more:Int)(w:FX)
  (h:Grow w F b z vn vs ve ns ss es) (hF:∀k,w.heap.size<=k->F k) (T:KL ns A u B p) (hl:ns.length<=400) (hk:0<=u.k/\u.k<2147483647) (hn:0<=u.n/\u.n<=1000) (hm: -1<=more/\more<=1) (hp:p.length<=140737488355328) (hes:es.length<=99999):
  G5 prog 226 #[P0 b,S0 p,I0 more] w fun e w'=>e=.returned (I0 0)/\∃ve',Grow w' F b z vn vs ve' (A++bump z more u::B) ss (es++[⟨4,p⟩])/\Touch F w w':=by
 have CF:=fun W (hW:B0 w W)=>JY vn ns A B u p W (h.n.next hW).seq (by omega) T;obtain⟨g,cap,rfl,hr,hgb,hFg⟩:=h.iG (by rw[T.eq];simp);have c1:=h.c1;have HG:=GH h;have HE:=GH T.eq;have HF:=GH hF;have hlt:A.length<ns.length:=by rw[T.eq];simp
 clear h hr T hF;go_enter func226,ntmps226;go_wp2_with fail;refine(CF _ (AB _ _)).mono ?_;rintro e w1 ⟨rfl,hb1⟩;have g1:=(G9 HG).next hb1;have d1:=g1.c1;have d0:=g1.c0;obtain⟨g',cap',he,hr,_,_⟩:=g1.iG (by rw[G9 HE];simp);simp only[AQ,BF,EW,and_true]at he;obtain⟨rfl,_,rfl⟩:=he;have at':ns[A.length]?=G8 u:=by rw[G9 HE];exact UQ A u B
 have r4:=hr.row.n4 at';have r6:=hr.row.n6 at';have r8:=hr.row.n8 at';have z4:=hr.frozen (A.length*9+4);have z6:=hr.frozen (A.length*9+6);have z8:=hr.frozen (A.length*9+8);rw[BK]at r4 r6 r8;have hne:g≠b:=hgb;have hne':b≠g:=Ne.symm hgb;have hk1:=hk.1;have hk2:=hk.2;have hkn:¬u.k=2147483647:=by omega
 have g4:Grow (((w1.setCell ⟨g,A.length*9+8,G6⟩ (I0 (u.n+more))).setCell ⟨g,A.length*9+6,G6⟩ (I0 (u.k+1))).setCell ⟨g,A.length*9+4,G6⟩ (I0 z)) F b z (FV (G8 ⟨g,0,G6⟩) ns.length cap) vs ve (A++bump z more u::B) ss es:=by
  have e0:=g1;rw[G9 HE]at e0;have e1:=e0.put (m:=⟨u.p,u.d,u.c,u.m,u.q,u.v,u.k,u.o,u.n+more⟩) (c:=8) (by omega) (v:=I0 (u.n+more)) rfl;have e2:=e1.put (m:=⟨u.p,u.d,u.c,u.m,u.q,u.v,u.k+1,u.o,u.n+more⟩) (c:=6) (by omega) (v:=I0 (u.k+1)) rfl;have e3:=e2.put (m:=bump z more u) (c:=4) (by omega) (v:=I0 z) rfl;rw[G9 HE];exact e3
 have T4:Touch F w (((w1.setCell ⟨g,A.length*9+8,G6⟩ (I0 (u.n+more))).setCell ⟨g,A.length*9+6,G6⟩ (I0 (u.k+1))).setCell ⟨g,A.length*9+4,G6⟩ (I0 z)):=
  (((Touch.of_below hb1).trans (Touch.set hFg _)).trans (Touch.set hFg _)).trans (Touch.set hFg _)
 have CT:=fun W (hW:Grow W F b z (FV (G8 ⟨g,0,G6⟩) ns.length cap) vs ve (A++bump z more u::B) ss es) (hs:w.heap.size<=W.heap.size)=>iH F b z _ vs ve _ ss es 4 p W hW (fun k hk=>G9 HF k (by omega)) hp (by omega);have HG4:=GH g4;have HT4:=GH T4;have HCT:=GH CT;clear CF c1 g1 hr hb1 at' g4 T4 CT;go_wp2_with fail;refine(G9 HCT _ (G9 HG4) (G9 HT4).size).mono ?_;rintro e w5 ⟨rfl,ve',g5,t5⟩;have HG5:=GH g5;have HT5:=GH ((G9 HT4).trans t5);clear g5 t5;go_wp2_with fail;go_ret;exact⟨rfl,ve',G9 HG5,G9 HT5⟩
theorem AL0(F:Nat->Prop)(b:Nat)(z:Int)(vn vs ve:FZ)(ns A B:List Nd)(ss:List Int)(es:List Ev)(p:List UInt8)(w:FX)
  (h:Grow w F b z vn vs ve ns ss es) (G:nJ ns A B p) (hl:ns.length<=400):
  G5 prog 200 #[P0 b,S0 p] w fun e w'=>e=.returned (I0 7)/\Touch F w w':=by
 have CF:=fun W (hW:B0 w W)=>NV vn ns A B p W (h.n.next hW).seq (by omega) G;have c1:=h.c1;obtain⟨na,nc,rfl,_⟩:=h.n.slice;clear h G;go_enter func200,ntmps200;go_wp2_with fail;refine(CF _ (AB _ _)).mono ?_;rintro e w1 ⟨rfl,hb1⟩;clear CF;go_wp2_with fail;go_ret;exact⟨rfl,Touch.of_below hb1⟩
theorem A20(F:Nat->Prop)(b:Nat)(z:Int)(vn vs ve:FZ)(ns A B:List Nd)(u:Nd)(ss:List Int)(es:List Ev)(p:List UInt8)(w:FX)
  (h:Grow w F b z vn vs ve ns ss es) (T:KL ns A u B p) (hl:ns.length<=400) (hk:u.n≠0):
  G5 prog 200 #[P0 b,S0 p] w fun e w'=>e=.returned (I0 10)/\Touch F w w':=by
 have CF:=fun W (hW:B0 w W)=>JY vn ns A B u p W (h.n.next hW).seq (by omega) T;obtain⟨g,cap,rfl,hr,hgb,hFg⟩:=h.iG (by rw[T.eq];simp);have c1:=h.c1;have HG:=GH h;have HE:=GH T.eq;have hlt:A.length<ns.length:=by rw[T.eq];simp
 clear h hr T;go_enter func200,ntmps200;go_wp2_with fail;refine(CF _ (AB _ _)).mono ?_;rintro e w1 ⟨rfl,hb1⟩;have g1:=(G9 HG).next hb1;have d1:=g1.c1;obtain⟨g',cap',he,hr,_,_⟩:=g1.iG (by rw[G9 HE];simp);simp only[AQ,BF,EW,and_true]at he;obtain⟨rfl,_,rfl⟩:=he;have r8:=hr.row.n8 (i:=A.length) (x:=u) (by rw[G9 HE];exact UQ A u B);rw[BK]at r8;have hk':(u.n !=0)=true:=by simpa using hk
 have HB:=GH hb1;clear CF c1 g1 hr hb1 hk;go_wp2_with fail;go_ret;exact⟨rfl,Touch.of_below (G9 HB)⟩
theorem kE(F:Nat->Prop)(b:Nat)(z:Int)(vn vs ve:FZ)(ns A B:List Nd)(n:Nd)(ss:List Int)(es:List Ev)(p:List UInt8)(w:FX)(E:Int)(Post:FX->Prop)
  (h:Grow w F b z vn vs ve ns ss es) (hF:∀k,w.heap.size<=k->F k) (T:KL ns A n B p) (hl:ns.length<=400) (hk:n.n=0) (hp:p.length<=140737488355328) (hes:es.length<=99998)
  (hpar:∀W vn' ve',Grow W F b z vn' vs ve' (A++B) ss (es++[⟨2,p⟩])->w.heap.size<=W.heap.size->Touch F w W->G5 prog 226 #[P0 b,S0 (IL p),I0 (-1)] W fun e w'=>e=.returned (I0 E)/\Post w'):
  G5 prog 200 #[P0 b,S0 p] w fun e w'=>e=.returned (I0 E)/\Post w':=by
 have CF:=fun W (hW:B0 w W)=>JY vn ns A B n p W (h.n.next hW).seq (by omega) T;obtain⟨g,cap,rfl,hr,hgb,hFg⟩:=h.iG (by rw[T.eq];simp);have c1:=h.c1;have HG:=GH h;have HE:=GH T.eq;have HF:=GH hF;have HP:=GH hpar;have hlen:ns.length=A.length+B.length+1:=by rw[T.eq];simp;omega
 have hlt:A.length<ns.length:=by omega
 have HL:=GH hlen;have CD:=fun W (ho:JD W g cap (A++n::B))=>A10 g cap A B n ns.length W ho (G9 HL) hl;have CS:=fun W=>NU p W;have HCD:=GH CD;have HCS:=GH CS;clear h hr T hF hpar CD CS hlen;go_enter func200,ntmps200;go_wp2_with fail;refine(CF _ (AB _ _)).mono ?_;rintro e w1 ⟨rfl,hb1⟩;have g1:=(G9 HG).next hb1;have d1:=g1.c1;obtain⟨g',cap',he,hr,_,_⟩:=g1.iG (by rw[G9 HE];simp);simp only[AQ,BF,EW,and_true]at he;obtain⟨rfl,_,rfl⟩:=he;have r8:=hr.row.n8 (i:=A.length) (x:=n) (by rw[G9 HE];exact UQ A n B);rw[BK,hk]at r8;have HB:=GH hb1;have HG1:=GH g1;have HR:=GH (show JD w1 g cap (A++n::B) by rw[<-G9 HE];exact hr);clear CF c1 g1 hr hb1;go_wp2_with fail;rw[show ((A.length:Int)+1)=((A.length+1:Nat):Int)from by omega];refine(G9 HCD _ (G9 HR)).mono ?_;rintro e w2 ⟨rfl,ho2,hg2⟩;have m1:w2.cell? ⟨b,1,G6⟩=G8 (FV (G8 ⟨g,0,G6⟩) ns.length cap):=hg2.cell d1 (fun e=>hgb (BQ e).symm);have l1:w2.frozen? ⟨b,1,G6⟩=false:=(World.frozen?_of_block (hg2.block b (G9 HG1).lt (fun e=>hgb (BQ e).symm))).trans ((G9 HG1).fz 1);have g2:=(G9 HG1).nd (vn':=FV (G8 ⟨g,0,G6⟩) (A.length+B.length) cap) (ns':=A++B) (fun k hk=>G9 HF k (by have:=(G9 HB).size;omega)) hg2 (.inr ⟨g,cap,by rw[AP],AZ _,ho2⟩) (.inl rfl);have t2:Touch F w (w2.setCell ⟨b,1,G6⟩ (FV (G8 ⟨g,0,G6⟩) (A.length+B.length) cap)):=((Touch.of_below (G9 HB)).trans (Touch.VI hg2 (fun k e=>by cases e;exact hFg))).trans (Touch.set g2.fb _);have HG2:=GH g2;have HT2:=GH t2;clear g2 t2 ho2 hg2 d1 r8 HR;go_wp2_with fail;refine(iH F b z _ vs ve _ ss es 2 p _ (G9 HG2) (fun k hk=>G9 HF k (by have:=(G9 HT2).size;omega)) hp (by omega)).mono ?_;rintro e w3 ⟨rfl,ve',g3,t3⟩;have HG3:=GH g3;have HT3:=GH ((G9 HT2).trans t3);clear g3 t3 m1 l1;go_wp2_with fail;refine(G9 HCS _).mono ?_;rintro e w4 ⟨rfl,hb4⟩;have HG4:=GH ((G9 HG3).next hb4);have HT4:=GH ((G9 HT3).trans (Touch.of_below hb4));clear hb4;go_wp2_with fail;refine(G9 HP _ _ _ (G9 HG4) (G9 HT4).size (G9 HT4)).mono ?_;rintro e w5 ⟨rfl,hp5⟩;have HP5:=GH hp5;clear hp5;go_wp2_with fail;go_ret;exact⟨rfl,G9 HP5⟩
theorem wO(F:Nat->Prop)(b:Nat)(z:Int)(vn vs ve:FZ)(ns A B A' B':List Nd)(n u:Nd)(ss:List Int)(es:List Ev)(p:List UInt8)(w:FX)
  (h:Grow w F b z vn vs ve ns ss es) (hF:∀k,w.heap.size<=k->F k) (T:KL ns A n B p) (T':KL (A++B) A' u B' (IL p)) (hl:ns.length<=400) (hk:n.n=0) (hu:0<=u.k/\u.k<2147483647) (hn:0<=u.n/\u.n<=1000) (hp:p.length<=140737488355328) (hd:(IL p).length<=140737488355328) (hes:es.length<=99998):
  G5 prog 200 #[P0 b,S0 p] w fun e w'=>e=.returned (I0 0)/\∃vn' ve',Grow w' F b z vn' vs ve' (rmN z ns p) ss (es++[⟨2,p⟩,⟨4,IL p⟩])/\Touch F w w':=by
 refine kE F b z vn vs ve ns A B n ss es p w 0 _ h hF T hl hk hp hes (fun W vn' ve' hG hs ht=>?_);have hlen:(A++B).length<=400:=by have:=congrArg List.length T.eq;simp at this⊢;omega
 refine(wM F b z vn' vs ve' (A++B) A' B' u ss _ (IL p) (-1) W hG (fun k hk=>hF k (by omega)) T' hlen hu hn (by omega) hd (by simp;omega)).mono ?_;rintro e w' ⟨rfl,ve2,g,t⟩;refine⟨rfl,vn',ve2,?_,ht.trans t⟩;rw[rmN,T.drop,T'.bump];simpa using g
theorem kF(F:Nat->Prop)(b:Nat)(z:Int)(vn vs ve:FZ)(ns A B A' B':List Nd)(n u:Nd)(ss:List Int)(es:List Ev)(p:List UInt8)(w:FX)
  (h:Grow w F b z vn vs ve ns ss es) (hF:∀k,w.heap.size<=k->F k) (T:KL ns A n B p) (T':KL (A++B) A' u B' (IL p)) (hl:ns.length<=400) (hk:n.n=0) (hu:u.k=2147483647) (hp:p.length<=140737488355328) (hes:es.length<=99998):
  G5 prog 200 #[P0 b,S0 p] w fun e w'=>e=.returned (I0 6)/\Touch F w w':=by
 refine kE F b z vn vs ve ns A B n ss es p w 6 _ h hF T hl hk hp hes (fun W vn' ve' hG hs ht=>?_);have hlen:(A++B).length<=400:=by have:=congrArg List.length T.eq;simp at this⊢;omega
 refine(kD F b z vn' vs ve' (A++B) A' B' u ss _ (IL p) (-1) W hG T' hlen hu).mono ?_;rintro e w' ⟨rfl,t⟩;exact⟨rfl,ht.trans t⟩
theorem C38(F:Nat->Prop)(b:Nat)(z:Int)(vn vs ve:FZ)(ns A B:List Nd)(ss:List Int)(es:List Ev)(x:GV)(w:FX)
  (h:Grow w F b z vn vs ve ns ss es) (G:nJ ns A B x.p) (hl:ns.length<=400):
  G5 prog 201 #[P0 b,JC x] w fun e w'=>e=.returned (I0 7)/\Touch F w w':=by
 obtain⟨xz,xo,xs,xp,xd,xv,xw⟩:=x;simp only at G;have CF:=fun W (hW:B0 w W)=>NV vn ns A B xp W (h.n.next hW).seq (by omega) G;have c1:=h.c1;have hbl:=h.lt;obtain⟨na,nc,rfl,_⟩:=h.n.slice;clear h G;unfold JC;go_enter func201,ntmps201;go_wp2_with fail
 go_region_law (first
  |(go_simp;refine(CF _ (by first|exact((AB w.heap.size w).alloc (AA _) _).drew|exact(AB w.heap.size w).alloc (AA _) _)).mono ?_;rintro e w1 ⟨rfl,hb1⟩;have HB1:Hid (B0 w w1):=(by first|exact H7 (IG hb1)|exact H7 hb1);clear hb1))
 all_goals go_wp2_with fail
 all_goals go_ret
 all_goals exact⟨rfl,Touch.of_below (G9 HB1)⟩
theorem CJ3(F:Nat->Prop)(b:Nat)(z:Int)(vn vs ve:FZ)(ns A B:List Nd)(n:Nd)(ss:List Int)(es:List Ev)(x:GV)(w:FX)
  (h:Grow w F b z vn vs ve ns ss es) (hF:∀k,w.heap.size<=k->F k) (T:KL ns A n B x.p) (hl:ns.length<=400) (hv:0<=n.v/\n.v<=2147483647) (hp:x.p.length<=140737488355328) (hd:x.d.length<=140737488355328) (hes:es.length<=99999) (hx:x.v=n.v+1):
  G5 prog 201 #[P0 b,JC x] w fun e w'=>
   e=.returned (I0 0)/\∃ve',Grow w' F b z vn vs ve' (A++⟨n.p,x.d,n.c,x.z,n.q,x.v,n.k,n.o,n.n⟩::B) ss (es++[⟨3,x.p⟩])/\Touch F w w':=by
 obtain⟨xz,xo,xs,xp,xd,xv,xw⟩:=x;simp only at T hp hd hx⊢;have hxb:(xv !=n.v+1)=false:=by simpa using hx
 clear hx;have CF:=fun W (hW:B0 w W)=>JY vn ns A B n xp W (h.n.next hW).seq (by omega) T;have CC:=fun W=>O8 xd W (by omega);obtain⟨g,cap,rfl,hr,hgb,hFg⟩:=h.iG (by rw[T.eq];simp);have hgl:=hr.lt;have c1:=h.c1;have hbl:=h.lt;have HG:=GH h;have HE:=GH T.eq;have HF:=GH hF;have hlt:A.length<ns.length:=by rw[T.eq];simp
 have hv1:=hv.1;have hv2:=hv.2;have KX:∀w1,Below (w.alloc (FW #[I0 xz,I0 xo,I0 xs,S0 xp,S0 xd,I0 xv,I0 xw] 59)).heap.size (w.alloc (FW #[I0 xz,I0 xo,I0 xs,S0 xp,S0 xd,I0 xv,I0 xw] 59)) w1->TAt w1 w.heap.size ⟨xz,xo,xs,xp,xd,xv,xw⟩:=fun w1 h1=>(TAt.new w ⟨xz,xo,xs,xp,xd,xv,xw⟩).next h1;have HKX:=GH KX;clear h hr T hF KX;unfold JC;go_enter func201,ntmps201;go_wp2_with fail
 go_region_law (first
  |(go_simp;refine(CF _ (by first|exact((AB w.heap.size w).alloc (AA _) _).drew|exact(AB w.heap.size w).alloc (AA _) _)).mono ?_;rintro e w1 ⟨rfl,hb1⟩;have HBd:=GH hb1;clear hb1))
 all_goals
  have HB0:=GH (IG (G9 HBd));clear CF;have HB1:=GH (H7 (G9 HB0));have tx:=G9 HKX w1 (G9 HB0);have t0:=tx.c0;have t3:=tx.c3;have t4:=tx.c4;have t5:=tx.c5;have HTX:=GH tx;have g1:=(G9 HG).next (G9 HB1);have d1:=g1.c1;have hsz1:=(G9 HB1).size;have hszx:=tx.lt;obtain⟨g',cap',he,hr,_,_⟩:=g1.iG (by rw[G9 HE];simp);simp only[AQ,BF,EW,and_true]at he;obtain⟨rfl,_,rfl⟩:=he;have at':ns[A.length]?=G8 n:=by rw[G9 HE];exact UQ A n B
  have r5:=hr.row.n5 at';rw[BK]at r5;have HG1:=GH g1;clear g1 hr at' tx;go_wp2_with fail;go_region;go_wp2_with fail;refine(CC _).mono ?_;rintro e w2 ⟨rfl,hb2⟩;have hb2':=IG hb2;have g2:=(G9 HG1).next hb2';obtain⟨g',cap',he,hr,_,_⟩:=g2.iG (by rw[G9 HE];simp);simp only[AQ,BF,EW,and_true]at he;obtain⟨rfl,_,rfl⟩:=he;have at':ns[A.length]?=G8 n:=by rw[G9 HE];exact UQ A n B
  have r1:=hr.row.n1 at';have r3:=hr.row.n3 at';have r5':=hr.row.n5 at';have z1:=hr.frozen (A.length*9+1);have z3:=hr.frozen (A.length*9+3);have z5:=hr.frozen (A.length*9+5);rw[BK]at r1 r3 r5';have tx2:=(G9 HTX).next hb2';have y0:=tx2.c0;have y3:=tx2.c3;have y5:=tx2.c5;have hne:g≠w.heap.size:=by omega
  have hne':w.heap.size≠g:=by omega
  have g4:Grow (((w2.setCell ⟨g,A.length*9+1,G6⟩ (S0 xd)).setCell ⟨g,A.length*9+5,G6⟩ (I0 xv)).setCell ⟨g,A.length*9+3,G6⟩ (I0 xz)) F b z (FV (G8 ⟨g,0,G6⟩) ns.length cap) vs ve (A++⟨n.p,xd,n.c,xz,n.q,xv,n.k,n.o,n.n⟩::B) ss es:=by
   have e0:=g2;rw[G9 HE]at e0;have e1:=e0.put (m:=⟨n.p,xd,n.c,n.m,n.q,n.v,n.k,n.o,n.n⟩) (c:=1) (by omega) (v:=S0 xd) rfl;have e2:=e1.put (m:=⟨n.p,xd,n.c,n.m,n.q,xv,n.k,n.o,n.n⟩) (c:=5) (by omega) (v:=I0 xv) rfl;have e3:=e2.put (m:=⟨n.p,xd,n.c,xz,n.q,xv,n.k,n.o,n.n⟩) (c:=3) (by omega) (v:=I0 xz) rfl;rw[G9 HE];exact e3
  have T4:Touch F w (((w2.setCell ⟨g,A.length*9+1,G6⟩ (S0 xd)).setCell ⟨g,A.length*9+5,G6⟩ (I0 xv)).setCell ⟨g,A.length*9+3,G6⟩ (I0 xz)):=
   ((((Touch.of_below (G9 HB1)).trans (Touch.of_below hb2')).trans (Touch.set hFg _)).trans (Touch.set hFg _)).trans (Touch.set hFg _)
  have HG4:=GH g4;have HT4:=GH T4;have CT:=fun W (hW:Grow W F b z (FV (G8 ⟨g,0,G6⟩) ns.length cap) vs ve (A++⟨n.p,xd,n.c,xz,n.q,xv,n.k,n.o,n.n⟩::B) ss es) (hs:w.heap.size<=W.heap.size)=>iH F b z _ vs ve _ ss es 3 xp W hW (fun k hk=>G9 HF k (by omega)) hp (by omega);have HCT:=GH CT;clear CC g2 hr hb2 hb2' at' g4 T4 CT tx2 t0 t3 t4 t5 d1 r5;go_wp2_with fail;refine(G9 HCT _ (G9 HG4) (G9 HT4).size).mono ?_;rintro e w5 ⟨rfl,ve',g5,t5⟩;have HG5:=GH g5;have HT5:=GH ((G9 HT4).trans t5);clear g5 t5;go_wp2_with fail;go_ret;exact⟨rfl,ve',G9 HG5,G9 HT5⟩
theorem C39(F:Nat->Prop)(b:Nat)(z:Int)(vn vs ve:FZ)(ns A B:List Nd)(n:Nd)(ss:List Int)(es:List Ev)(x:GV)(w:FX)
  (h:Grow w F b z vn vs ve ns ss es) (hF:∀k,w.heap.size<=k->F k) (T:KL ns A n B x.p) (hl:ns.length<=400) (hv:0<=n.v/\n.v<=2147483647) (hp:x.p.length<=140737488355328) (hd:x.d.length<=140737488355328) (_hes:es.length<=99999) (hx:x.v≠n.v+1):
  G5 prog 201 #[P0 b,JC x] w fun e w'=>
   e=.returned (I0 9)/\Touch F w w':=by
 obtain⟨xz,xo,xs,xp,xd,xv,xw⟩:=x;simp only at T hp hd hx⊢;have hxb:(xv !=n.v+1)=true:=by simpa using hx
 clear hx;have CF:=fun W (hW:B0 w W)=>JY vn ns A B n xp W (h.n.next hW).seq (by omega) T;have CC:=fun W=>O8 xd W (by omega);obtain⟨g,cap,rfl,hr,hgb,hFg⟩:=h.iG (by rw[T.eq];simp);have hgl:=hr.lt;have c1:=h.c1;have hbl:=h.lt;have HG:=GH h;have HE:=GH T.eq;have HF:=GH hF;have hlt:A.length<ns.length:=by rw[T.eq];simp
 have hv1:=hv.1;have hv2:=hv.2;have KX:∀w1,Below (w.alloc (FW #[I0 xz,I0 xo,I0 xs,S0 xp,S0 xd,I0 xv,I0 xw] 59)).heap.size (w.alloc (FW #[I0 xz,I0 xo,I0 xs,S0 xp,S0 xd,I0 xv,I0 xw] 59)) w1->TAt w1 w.heap.size ⟨xz,xo,xs,xp,xd,xv,xw⟩:=fun w1 h1=>(TAt.new w ⟨xz,xo,xs,xp,xd,xv,xw⟩).next h1;have HKX:=GH KX;clear h hr T hF KX;unfold JC;go_enter func201,ntmps201;go_wp2_with fail
 go_region_law (first
  |(go_simp;refine(CF _ (by first|exact((AB w.heap.size w).alloc (AA _) _).drew|exact(AB w.heap.size w).alloc (AA _) _)).mono ?_;rintro e w1 ⟨rfl,hb1⟩;have HBd:=GH hb1;clear hb1))
 all_goals
  have HB0:=GH (IG (G9 HBd));clear CF;have HB1:=GH (H7 (G9 HB0));have tx:=G9 HKX w1 (G9 HB0);have t0:=tx.c0;have t3:=tx.c3;have t4:=tx.c4;have t5:=tx.c5;have HTX:=GH tx;have g1:=(G9 HG).next (G9 HB1);have d1:=g1.c1;have hsz1:=(G9 HB1).size;have hszx:=tx.lt;obtain⟨g',cap',he,hr,_,_⟩:=g1.iG (by rw[G9 HE];simp);simp only[AQ,BF,EW,and_true]at he;obtain⟨rfl,_,rfl⟩:=he;have at':ns[A.length]?=G8 n:=by rw[G9 HE];exact UQ A n B
  have r5:=hr.row.n5 at';rw[BK]at r5;have HG1:=GH g1;clear g1 hr at' tx;go_wp2_with fail;go_region;go_wp2_with fail;go_ret;exact⟨rfl,(Touch.of_below (G9 HB1)).drew⟩
theorem B08(F:Nat->Prop)(b:Nat)(z:Int)(vn vs ve:FZ)(ns:List Nd)(A B:List Nd)(n:Nd)(ss:List Int)(es:List Ev)(x:GV)(w:FX)
  (h:Grow w F b z vn vs ve ns ss es) (T:KL ns A n B x.p) (hl:ns.length<=400) (ha:uD ns):
  G5 prog 199 #[P0 b,JC x] w fun e w'=>e=.returned (I0 8)/\Touch F w w':=by
 obtain⟨xz,xo,xs,xp,xd,xv,xw⟩:=x;simp only at T;have CF:=fun W (hW:B0 w W)=>JY vn ns A B n xp W (h.n.next hW).seq (by omega) T;have HCS:=GH (fun W=>NU xp W);have HCG:=GH (fun W (hW:B0 w W)=>wB vn ns (IL xp) W (h.n.next hW).seq (by omega) ha);have KX:∀w1,Below (w.alloc (FW #[I0 xz,I0 xo,I0 xs,S0 xp,S0 xd,I0 xv,I0 xw] 59)).heap.size (w.alloc (FW #[I0 xz,I0 xo,I0 xs,S0 xp,S0 xd,I0 xv,I0 xw] 59)) w1->TAt w1 w.heap.size ⟨xz,xo,xs,xp,xd,xv,xw⟩:=fun w1 h1=>(TAt.new w ⟨xz,xo,xs,xp,xd,xv,xw⟩).next h1;have HKX:=GH KX;have c1:=h.c1;have hbl:=h.lt;obtain⟨na,nc,rfl,_⟩:=h.n.slice;have HG:=GH h;clear h T ha KX;unfold JC;go_enter func199,ntmps199;go_wp2_with fail
 go_region_law (first
  |(go_simp;refine(CF _ (by first|exact((AB w.heap.size w).alloc (AA _) _).drew|exact(AB w.heap.size w).alloc (AA _) _)).mono ?_;rintro e w1 ⟨rfl,hb1⟩;have HBd:=GH hb1;clear hb1))
 all_goals
  have HB0:=GH (IG (G9 HBd));clear CF;have HB1:=GH (H7 (G9 HB0));have tx:=G9 HKX w1 (G9 HB0);have t3:=tx.c3;have HTX:=GH tx;have g1:=(G9 HG).next (G9 HB1);have HG1:=GH g1;clear g1 tx c1;go_wp2_with fail;refine(G9 HCS _).mono ?_;rintro e w2 ⟨rfl,hb2⟩;have HB2:=GH (GK (G9 HB1) hb2);have tx2:=(G9 HTX).next hb2;have g2:=(G9 HG1).next hb2;have e1:=g2.c1;have A21:=GH tx2;have HG2:=GH g2;clear tx2 g2 hb2 t3;go_wp2_with fail;obtain⟨j,_,C2⟩:=G9 HCG _ (G9 HB2);refine C2.mono ?_;rintro e w3 ⟨rfl,hb3⟩;have HB3:=GH (GK (G9 HB2) hb3);go_wp2_with fail;go_ret;exact⟨rfl,Touch.of_below (G9 HB3)⟩
theorem BK5(F:Nat->Prop)(b:Nat)(z:Int)(vn vs ve:FZ)(ns:List Nd)(A B A' B':List Nd)(ss:List Int)(es:List Ev)(x:GV)(w:FX)
  (h:Grow w F b z vn vs ve ns ss es) (G:nJ ns A B x.p) (U:nJ ns A' B' (IL x.p)) (hl:ns.length<=400):
  G5 prog 199 #[P0 b,JC x] w fun e w'=>e=.returned (I0 7)/\Touch F w w':=by
 obtain⟨xz,xo,xs,xp,xd,xv,xw⟩:=x;simp only at G U;have CF:=fun W (hW:B0 w W)=>NV vn ns A B xp W (h.n.next hW).seq (by omega) G;have HCS:=GH (fun W=>NU xp W);have HCG:=GH (fun W (hW:B0 w W)=>NV vn ns A' B' (IL xp) W (h.n.next hW).seq (by omega) U);have KX:∀w1,Below (w.alloc (FW #[I0 xz,I0 xo,I0 xs,S0 xp,S0 xd,I0 xv,I0 xw] 59)).heap.size (w.alloc (FW #[I0 xz,I0 xo,I0 xs,S0 xp,S0 xd,I0 xv,I0 xw] 59)) w1->TAt w1 w.heap.size ⟨xz,xo,xs,xp,xd,xv,xw⟩:=fun w1 h1=>(TAt.new w ⟨xz,xo,xs,xp,xd,xv,xw⟩).next h1;have HKX:=GH KX;have c1:=h.c1;have hbl:=h.lt;obtain⟨na,nc,rfl,_⟩:=h.n.slice;have HG:=GH h;clear h G U KX;unfold JC;go_enter func199,ntmps199;go_wp2_with fail
 go_region_law (first
  |(go_simp;refine(CF _ (by first|exact((AB w.heap.size w).alloc (AA _) _).drew|exact(AB w.heap.size w).alloc (AA _) _)).mono ?_;rintro e w1 ⟨rfl,hb1⟩;have HBd:=GH hb1;clear hb1))
 all_goals
  have HB0:=GH (IG (G9 HBd));clear CF;have HB1:=GH (H7 (G9 HB0));have tx:=G9 HKX w1 (G9 HB0);have t3:=tx.c3;have HTX:=GH tx;have g1:=(G9 HG).next (G9 HB1);have HG1:=GH g1;clear g1 tx c1;go_wp2_with fail;refine(G9 HCS _).mono ?_;rintro e w2 ⟨rfl,hb2⟩;have HB2:=GH (GK (G9 HB1) hb2);have tx2:=(G9 HTX).next hb2;have g2:=(G9 HG1).next hb2;have e1:=g2.c1;have A21:=GH tx2;have HG2:=GH g2;clear tx2 g2 hb2 t3;go_wp2_with fail;refine(G9 HCG _ (G9 HB2)).mono ?_;rintro e w3 ⟨rfl,hb3⟩;have HB3:=GH (GK (G9 HB2) hb3);go_wp2_with fail;go_ret;exact⟨rfl,Touch.of_below (G9 HB3)⟩
theorem B09(F:Nat->Prop)(b:Nat)(z:Int)(vn vs ve:FZ)(ns:List Nd)(A B A' B':List Nd)(u:Nd)(ss:List Int)(es:List Ev)(x:GV)(w:FX)
  (h:Grow w F b z vn vs ve ns ss es) (G:nJ ns A B x.p) (U:KL ns A' u B' (IL x.p)) (hl:ns.length<=400) (ho:u.o≠0):
  G5 prog 199 #[P0 b,JC x] w fun e w'=>e=.returned (I0 11)/\Touch F w w':=by
 obtain⟨xz,xo,xs,xp,xd,xv,xw⟩:=x;simp only at G U;have CF:=fun W (hW:B0 w W)=>NV vn ns A B xp W (h.n.next hW).seq (by omega) G;have HCS:=GH (fun W=>NU xp W);have HCG:=GH (fun W (hW:B0 w W)=>JY vn ns A' B' u (IL xp) W (h.n.next hW).seq (by omega) U);have KX:∀w1,Below (w.alloc (FW #[I0 xz,I0 xo,I0 xs,S0 xp,S0 xd,I0 xv,I0 xw] 59)).heap.size (w.alloc (FW #[I0 xz,I0 xo,I0 xs,S0 xp,S0 xd,I0 xv,I0 xw] 59)) w1->TAt w1 w.heap.size ⟨xz,xo,xs,xp,xd,xv,xw⟩:=fun w1 h1=>(TAt.new w ⟨xz,xo,xs,xp,xd,xv,xw⟩).next h1;have HKX:=GH KX;have c1:=h.c1;have hbl:=h.lt;obtain⟨g,cap,rfl,hr,hgb,hFg⟩:=h.iG (by rw[U.eq];simp);have HG:=GH h;have HE:=GH U.eq;have hlt:A'.length<ns.length:=by rw[U.eq];simp
 have hob:(u.o !=0)=true:=by simpa using ho
 clear h G U KX ho hr;unfold JC;go_enter func199,ntmps199;go_wp2_with fail
 go_region_law (first
  |(go_simp;refine(CF _ (by first|exact((AB w.heap.size w).alloc (AA _) _).drew|exact(AB w.heap.size w).alloc (AA _) _)).mono ?_;rintro e w1 ⟨rfl,hb1⟩;have HBd:=GH hb1;clear hb1))
 all_goals
  have HB0:=GH (IG (G9 HBd));clear CF;have HB1:=GH (H7 (G9 HB0));have tx:=G9 HKX w1 (G9 HB0);have t3:=tx.c3;have HTX:=GH tx;have g1:=(G9 HG).next (G9 HB1);have HG1:=GH g1;clear g1 tx c1;go_wp2_with fail;refine(G9 HCS _).mono ?_;rintro e w2 ⟨rfl,hb2⟩;have HB2:=GH (GK (G9 HB1) hb2);have tx2:=(G9 HTX).next hb2;have g2:=(G9 HG1).next hb2;have e1:=g2.c1;have A21:=GH tx2;have HG2:=GH g2;clear tx2 g2 hb2 t3;go_wp2_with fail;refine(G9 HCG _ (G9 HB2)).mono ?_;rintro e w3 ⟨rfl,hb3⟩;have HB3:=GH (GK (G9 HB2) hb3);have tx3:=(G9 A21).next hb3;have g3:=(G9 HG2).next hb3;have f1:=g3.c1;have y0:=tx3.c0;have y2:=tx3.c2;have y3:=tx3.c3;have y4:=tx3.c4;have y6:=tx3.c6;obtain⟨g',cap',he,hr,_,_⟩:=g3.iG (by rw[G9 HE];simp);simp only[AQ,BF,EW,and_true]at he;obtain⟨rfl,_,rfl⟩:=he;have r7:=hr.row.n7 (i:=A'.length) (x:=u) (by rw[G9 HE];exact UQ A' u B');rw[BK]at r7;have CF4:=GH tx3;have HG3:=GH g3;clear g3 tx3 hr e1 hb3;go_wp2_with fail;go_ret;exact⟨rfl,Touch.of_below (G9 HB3)⟩
theorem C40(F:Nat->Prop)(b:Nat)(z:Int)(vn vs ve:FZ)(ns:List Nd)(A B A' B':List Nd)(u:Nd)(ss:List Int)(es:List Ev)(x:GV)(w:FX)
  (h:Grow w F b z vn vs ve ns ss es) (G:nJ ns A B x.p) (U:KL ns A' u B' (IL x.p)) (hl:ns.length<=400) (ho:u.o=0) (hw1:x.w≠0) (hw2:x.w≠x.s):
  G5 prog 199 #[P0 b,JC x] w fun e w'=>e=.returned (I0 12)/\Touch F w w':=by
 obtain⟨xz,xo,xs,xp,xd,xv,xw⟩:=x;simp only at G U hw1 hw2;have CF:=fun W (hW:B0 w W)=>NV vn ns A B xp W (h.n.next hW).seq (by omega) G;have HCS:=GH (fun W=>NU xp W);have HCG:=GH (fun W (hW:B0 w W)=>JY vn ns A' B' u (IL xp) W (h.n.next hW).seq (by omega) U);have KX:∀w1,Below (w.alloc (FW #[I0 xz,I0 xo,I0 xs,S0 xp,S0 xd,I0 xv,I0 xw] 59)).heap.size (w.alloc (FW #[I0 xz,I0 xo,I0 xs,S0 xp,S0 xd,I0 xv,I0 xw] 59)) w1->TAt w1 w.heap.size ⟨xz,xo,xs,xp,xd,xv,xw⟩:=fun w1 h1=>(TAt.new w ⟨xz,xo,xs,xp,xd,xv,xw⟩).next h1;have HKX:=GH KX;have c1:=h.c1;have hbl:=h.lt;obtain⟨g,cap,rfl,hr,hgb,hFg⟩:=h.iG (by rw[U.eq];simp);have HG:=GH h;have HE:=GH U.eq;have hlt:A'.length<ns.length:=by rw[U.eq];simp
 have hb1:(xw !=0)=true:=by simpa using hw1
 have hb2:(xw !=xs)=true:=by simpa using hw2
 have HO:=GH ho;clear h G U KX ho hr hw1 hw2;unfold JC;go_enter func199,ntmps199;go_wp2_with fail
 go_region_law (first
  |(go_simp;refine(CF _ (by first|exact((AB w.heap.size w).alloc (AA _) _).drew|exact(AB w.heap.size w).alloc (AA _) _)).mono ?_;rintro e w1 ⟨rfl,hb1⟩;have HBd:=GH hb1;clear hb1))
 all_goals
  have HB0:=GH (IG (G9 HBd));clear CF;have HB1:=GH (H7 (G9 HB0));have tx:=G9 HKX w1 (G9 HB0);have t3:=tx.c3;have HTX:=GH tx;have g1:=(G9 HG).next (G9 HB1);have HG1:=GH g1;clear g1 tx c1;go_wp2_with fail;refine(G9 HCS _).mono ?_;rintro e w2 ⟨rfl,hb2⟩;have HB2:=GH (GK (G9 HB1) hb2);have tx2:=(G9 HTX).next hb2;have g2:=(G9 HG1).next hb2;have e1:=g2.c1;have A21:=GH tx2;have HG2:=GH g2;clear tx2 g2 hb2 t3;go_wp2_with fail;refine(G9 HCG _ (G9 HB2)).mono ?_;rintro e w3 ⟨rfl,hb3⟩;have HB3:=GH (GK (G9 HB2) hb3);have tx3:=(G9 A21).next hb3;have g3:=(G9 HG2).next hb3;have f1:=g3.c1;have y0:=tx3.c0;have y2:=tx3.c2;have y3:=tx3.c3;have y4:=tx3.c4;have y6:=tx3.c6;obtain⟨g',cap',he,hr,_,_⟩:=g3.iG (by rw[G9 HE];simp);simp only[AQ,BF,EW,and_true]at he;obtain⟨rfl,_,rfl⟩:=he;have r7:=hr.row.n7 (i:=A'.length) (x:=u) (by rw[G9 HE];exact UQ A' u B');rw[BK]at r7;have CF4:=GH tx3;have HG3:=GH g3;clear g3 tx3 hr e1 hb3;rw[G9 HO]at r7;go_wp2_with fail;go_ret;exact⟨rfl,Touch.of_below (G9 HB3)⟩
theorem B12(F:Nat->Prop)(b:Nat)(z:Int)(vn vs ve:FZ)(ns:List Nd)(A B A' B':List Nd)(u:Nd)(ss:List Int)(es:List Ev)(x:GV)(w:FX)
  (h:Grow w F b z vn vs ve ns ss es) (G:nJ ns A B x.p) (U:KL ns A' u B' (IL x.p)) (ho:u.o=0) (hw1:x.w=0) (hf:ns.length=400):
  G5 prog 199 #[P0 b,JC x] w fun e w'=>e=.returned (I0 6)/\Touch F w w':=by
 obtain⟨xz,xo,xs,xp,xd,xv,xw⟩:=x;simp only at G U hw1;have CF:=fun W (hW:B0 w W)=>NV vn ns A B xp W (h.n.next hW).seq (by omega) G;have HCS:=GH (fun W=>NU xp W);have HCG:=GH (fun W (hW:B0 w W)=>JY vn ns A' B' u (IL xp) W (h.n.next hW).seq (by omega) U);have KX:∀w1,Below (w.alloc (FW #[I0 xz,I0 xo,I0 xs,S0 xp,S0 xd,I0 xv,I0 xw] 59)).heap.size (w.alloc (FW #[I0 xz,I0 xo,I0 xs,S0 xp,S0 xd,I0 xv,I0 xw] 59)) w1->TAt w1 w.heap.size ⟨xz,xo,xs,xp,xd,xv,xw⟩:=fun w1 h1=>(TAt.new w ⟨xz,xo,xs,xp,xd,xv,xw⟩).next h1;have HKX:=GH KX;have c1:=h.c1;have hbl:=h.lt;obtain⟨g,cap,rfl,hr,hgb,hFg⟩:=h.iG (by rw[U.eq];simp);have HG:=GH h;have HE:=GH U.eq;have hlt:A'.length<ns.length:=by rw[U.eq];simp
 have hb1:(xw !=0)=false:=by simpa using hw1
 have hfb:((ns.length:Int)==400)=true:=by rw[hf];rfl
 have HO:=GH ho;clear h G U KX ho hr hf hw1;unfold JC;go_enter func199,ntmps199;go_wp2_with fail
 go_region_law (first
  |(go_simp;refine(CF _ (by first|exact((AB w.heap.size w).alloc (AA _) _).drew|exact(AB w.heap.size w).alloc (AA _) _)).mono ?_;rintro e w1 ⟨rfl,hb1⟩;have HBd:=GH hb1;clear hb1))
 all_goals
  have HB0:=GH (IG (G9 HBd));clear CF;have HB1:=GH (H7 (G9 HB0));have tx:=G9 HKX w1 (G9 HB0);have t3:=tx.c3;have HTX:=GH tx;have g1:=(G9 HG).next (G9 HB1);have HG1:=GH g1;clear g1 tx c1;go_wp2_with fail;refine(G9 HCS _).mono ?_;rintro e w2 ⟨rfl,hb2⟩;have HB2:=GH (GK (G9 HB1) hb2);have tx2:=(G9 HTX).next hb2;have g2:=(G9 HG1).next hb2;have e1:=g2.c1;have A21:=GH tx2;have HG2:=GH g2;clear tx2 g2 hb2 t3;go_wp2_with fail;refine(G9 HCG _ (G9 HB2)).mono ?_;rintro e w3 ⟨rfl,hb3⟩;have HB3:=GH (GK (G9 HB2) hb3);have tx3:=(G9 A21).next hb3;have g3:=(G9 HG2).next hb3;have f1:=g3.c1;have y0:=tx3.c0;have y2:=tx3.c2;have y3:=tx3.c3;have y4:=tx3.c4;have y6:=tx3.c6;obtain⟨g',cap',he,hr,_,_⟩:=g3.iG (by rw[G9 HE];simp);simp only[AQ,BF,EW,and_true]at he;obtain⟨rfl,_,rfl⟩:=he;have r7:=hr.row.n7 (i:=A'.length) (x:=u) (by rw[G9 HE];exact UQ A' u B');rw[BK]at r7;have CF4:=GH tx3;have HG3:=GH g3;clear g3 tx3 hr e1 hb3;rw[G9 HO]at r7;go_wp2_with fail;go_ret;exact⟨rfl,Touch.of_below (G9 HB3)⟩
theorem B13(F:Nat->Prop)(b:Nat)(z:Int)(vn vs ve:FZ)(ns:List Nd)(A B A' B':List Nd)(u:Nd)(ss:List Int)(es:List Ev)(x:GV)(w:FX)
  (h:Grow w F b z vn vs ve ns ss es) (G:nJ ns A B x.p) (U:KL ns A' u B' (IL x.p)) (ho:u.o=0) (hw1:x.w≠0) (hw2:x.w=x.s) (hf:ns.length=400):
  G5 prog 199 #[P0 b,JC x] w fun e w'=>e=.returned (I0 6)/\Touch F w w':=by
 obtain⟨xz,xo,xs,xp,xd,xv,xw⟩:=x;simp only at G U hw1 hw2;have CF:=fun W (hW:B0 w W)=>NV vn ns A B xp W (h.n.next hW).seq (by omega) G;have HCS:=GH (fun W=>NU xp W);have HCG:=GH (fun W (hW:B0 w W)=>JY vn ns A' B' u (IL xp) W (h.n.next hW).seq (by omega) U);have KX:∀w1,Below (w.alloc (FW #[I0 xz,I0 xo,I0 xs,S0 xp,S0 xd,I0 xv,I0 xw] 59)).heap.size (w.alloc (FW #[I0 xz,I0 xo,I0 xs,S0 xp,S0 xd,I0 xv,I0 xw] 59)) w1->TAt w1 w.heap.size ⟨xz,xo,xs,xp,xd,xv,xw⟩:=fun w1 h1=>(TAt.new w ⟨xz,xo,xs,xp,xd,xv,xw⟩).next h1;have HKX:=GH KX;have c1:=h.c1;have hbl:=h.lt;obtain⟨g,cap,rfl,hr,hgb,hFg⟩:=h.iG (by rw[U.eq];simp);have HG:=GH h;have HE:=GH U.eq;have hlt:A'.length<ns.length:=by rw[U.eq];simp
 have hb1:(xw !=0)=true:=by simpa using hw1
 have hb2:(xw !=xs)=false:=by simpa using hw2
 have hfb:((ns.length:Int)==400)=true:=by rw[hf];rfl
 have HO:=GH ho;clear h G U KX ho hr hf hw1 hw2;unfold JC;go_enter func199,ntmps199;go_wp2_with fail
 go_region_law (first
  |(go_simp;refine(CF _ (by first|exact((AB w.heap.size w).alloc (AA _) _).drew|exact(AB w.heap.size w).alloc (AA _) _)).mono ?_;rintro e w1 ⟨rfl,hb1⟩;have HBd:=GH hb1;clear hb1))
 all_goals
  have HB0:=GH (IG (G9 HBd));clear CF;have HB1:=GH (H7 (G9 HB0));have tx:=G9 HKX w1 (G9 HB0);have t3:=tx.c3;have HTX:=GH tx;have g1:=(G9 HG).next (G9 HB1);have HG1:=GH g1;clear g1 tx c1;go_wp2_with fail;refine(G9 HCS _).mono ?_;rintro e w2 ⟨rfl,hb2⟩;have HB2:=GH (GK (G9 HB1) hb2);have tx2:=(G9 HTX).next hb2;have g2:=(G9 HG1).next hb2;have e1:=g2.c1;have A21:=GH tx2;have HG2:=GH g2;clear tx2 g2 hb2 t3;go_wp2_with fail;refine(G9 HCG _ (G9 HB2)).mono ?_;rintro e w3 ⟨rfl,hb3⟩;have HB3:=GH (GK (G9 HB2) hb3);have tx3:=(G9 A21).next hb3;have g3:=(G9 HG2).next hb3;have f1:=g3.c1;have y0:=tx3.c0;have y2:=tx3.c2;have y3:=tx3.c3;have y4:=tx3.c4;have y6:=tx3.c6;obtain⟨g',cap',he,hr,_,_⟩:=g3.iG (by rw[G9 HE];simp);simp only[AQ,BF,EW,and_true]at he;obtain⟨rfl,_,rfl⟩:=he;have r7:=hr.row.n7 (i:=A'.length) (x:=u) (by rw[G9 HE];exact UQ A' u B');rw[BK]at r7;have CF4:=GH tx3;have HG3:=GH g3;clear g3 tx3 hr e1 hb3;rw[G9 HO]at r7;go_wp2_with fail;go_ret;exact⟨rfl,Touch.of_below (G9 HB3)⟩
theorem rH(w:FX)(x:Int):JU (w.alloc (FW #[I0 x] 3)) w.heap.size x:=heap_alloc_new w _
theorem BK6(w:FX)(x:List UInt8):JU (w.alloc (FW #[S0 x] 9)) w.heap.size x:=heap_alloc_new w _
theorem BK7(F:Nat->Prop)(b:Nat)(z:Int)(vn vs ve:FZ)(ns:List Nd)(ss A B:List Int)(es:List Ev)(s:Int)(w:FX)
  (h:Grow w F b z vn vs ve ns ss es) (hF:∀k,w.heap.size<=k->F k) (G:C11 ss A B s) (hl:ss.length<=2147483646):
  G5 prog 197 #[P0 b,I0 s] w fun e w'=>e=.returned (.tuple #[])/\∃vs',Grow w' F b z vn vs' ve ns (A++s::B) es/\Touch F w w':=by
 have CF:=AZ9 vs ss A B s w h.s.seq (by omega) G;have h0:=(h.next (GI w (FW #[I0 s] 3)));have CI:=A16 vs A B s w.heap.size _ (by rw[<-G.eq];exact h0.s) (by rw[<-G.eq];omega) (rH w s) (fun e=>by have:=h.s.low _ e;omega);have c2:=h.c2;have HG0:=GH h0;have HF:=GH hF;have hbl:=h.lt;obtain⟨sa,sc,rfl,_⟩:=h.s.slice;have HCI:=GH CI;clear h h0 hF G CI;go_enter func197,ntmps197;go_wp2_with fail;refine CF.mono ?_;rintro e w1 ⟨rfl,rfl⟩;go_wp2_with fail;refine(G9 HCI).mono ?_;rintro e w2 ⟨v',rfl,ho,hg,hloc⟩;have n2:¬ (Value.slice sa ss.length sc).ownBlock=G8 b:=fun e=>((G9 HG0).fs b e).2 rfl;have m2:w2.cell? ⟨b,2,G6⟩=G8 (FV sa ss.length sc):=hg.cell (G9 HG0).c2 (fun e=>n2 e.symm);have l2:w2.frozen? ⟨b,2,G6⟩=false:=(World.frozen?_of_block (hg.block b (G9 HG0).lt (fun e=>n2 e.symm))).trans ((G9 HG0).fz 2);have g2:=(G9 HG0).se (vs':=v') (ss':=A++s::B) (fun k hk=>G9 HF k (by simp at hk;omega)) hg ho hloc;have t2:Touch F w1 (w2.setCell ⟨b,2,G6⟩ v'):=((Touch.of_below (GI w1 _)).trans (Touch.VI hg (fun k e=>((G9 HG0).fs k e).1))).trans (Touch.set (G9 HG0).fb _);obtain⟨va,L,vc,rfl⟩:∃va L vc,v'=FV va L vc:=by obtain⟨va,vc,h,_⟩:=ho.slice;exact⟨_,_,_,h⟩
 have HG2:=GH g2;have HT2:=GH t2;clear g2 t2 ho hg hloc n2;go_wp2_with fail
 go_end0
 exact⟨rfl,_,G9 HG2,G9 HT2⟩
theorem CJ4:(prog.info? 9).map (fun i=>(i.zero,i.size,i.bytes))=G8 (G8 (.string ⟨#[]⟩),1,16):=by kernel_rfl
theorem CU6:∃i0,prog.info? 9=G8 i0/\i0.zero=G8 (.string ⟨#[]⟩)/\i0.size=1/\i0.bytes=16:=by
 obtain⟨i0,h,e⟩:=Option.map_eq_some_iff.1 CJ4;simp only[Prod.mk.injEq]at e;exact⟨i0,h,e⟩
theorem AL1{k:Nat}{x:Nd}(hx:ns[k]?=G8 x)(s:Int):P6 (ns.take (k+1)) s=P6 (ns.take k) s++(if x.o=s then [x.p]else []):=by
 rw[List.take_add_one,hx];simp only[P6,Option.toList_some,List.filter_append,List.map_append,List.filter_cons,List.filter_nil,decide_eq_true_eq]
 split<;>simp
theorem wR(ns:List Nd)(s:Int):(P6 ns s).length<=ns.length:=by
 rw[P6,List.length_map];exact List.length_filter_le _ _
theorem B15(F:Nat->Prop)(b:Nat)(z:Int)(vn vs ve:FZ)(ns:List Nd)(ss:List Int)(es:List Ev)(s:Int)(w:FX)
  (h:Grow w F b z vn vs ve ns ss es) (hl:ns.length<=400) (h0:ns≠[]):
  G5 prog 223 #[P0 b,I0 s] w fun e w'=>∃v',e=.returned v'/\I5 w' w.heap.size v' (P6 ns s)/\B0 w w':=by
 obtain⟨i0,hi0,hz0,hz1,hz2⟩:=CU6;obtain⟨g,cap,rfl,hr,hgb,hFg⟩:=h.iG h0;have hgl:=hr.lt;have c1:=h.c1;have H:=GH hr.row;clear h hr;go_enter func223,ntmps223;go_wp2_with fail
 go_loopg [5,14] ns.length (fun kx s5 s14 wr=>∃k:Nat,s14=I0 k/\k<=ns.length/\ns.length-k<=kx/\Hid (I5 wr w.heap.size s5 (P6 (ns.take k) s))/\Hid (B0 w wr))
 case atStart=>exact⟨0,rfl,AZ _,AA _,GH (.inl ⟨rfl,rfl⟩),GH (AB _ _)⟩
 case round=>
  obtain⟨k,rfl,hk,hg,hO,hB⟩:=hrel;by_cases hlt:k<ns.length
  .obtain⟨x,hx⟩:∃x,ns[k]?=G8 x:=⟨_,AO hlt⟩;have q:=(G9 H).kept (G9 hB) hgl;have d0:=q.n0 hx;have d1:=q.n1 hx;have d2:=q.n2 hx;have d3:=q.n3 hx;have d4:=q.n4 hx;have d5:=q.n5 hx;have d6:=q.n6 hx;have d7:=q.n7 hx;have d8:=q.n8 hx;rw[BK]at d0 d1 d2 d3 d4 d5 d6 d7 d8;have hbw:g<wr.heap.size:=Nat.lt_of_lt_of_le hgl (G9 hB).size;have HT:=GH (AL1 hx s);have hln:=wR (ns.take k) s;simp only[FB]at hln;clear q hx;obtain⟨va,vc,rfl,_⟩:=(G9 hO).slice;have hrow:=(G9 hO).row;by_cases hs:x.o=s
   .have hsb:(x.o==s)=true:=by simpa using hs
    have HS:=GH hs;clear hs;obtain⟨P,hP⟩:∃P,P6 (ns.take k) s=P:=⟨_,rfl⟩;rw[hP]at hO hln HT hrow;rw[hP];clear hP;have HRW:=GH hrow;clear hrow;go_wp2_with (at_builtin;refine wpList_append_own _ rfl _ _ 203 rfl w.heap.size 9 i0 _ 1 16 underlying203 hi0 hz0 hz1 hz2 rfl (by decide) _ P.length (GL P) rfl ((((G9 hO).next (GI wr (FW #[S0 x.p,S0 x.d,I0 x.c,I0 x.m,I0 x.q,I0 x.v,I0 x.k,I0 x.o,I0 x.n] 61))).next (GI _ _)).row) ⟨wr.heap.size+1,0,G6⟩ 1 1 [S0 x.p] rfl (by rfl) ?qc2 (by intro u hu;simp at hu;subst hu;rfl) ?qc4 ?qc5 ?qc6 ?_)
    case qc2=>
     intro j u hj;have:=RZ (BK6 (wr.alloc (FW #[S0 x.p,S0 x.d,I0 x.c,I0 x.m,I0 x.q,I0 x.v,I0 x.k,I0 x.o,I0 x.n] 61)) x.p) j u hj;simpa using this
    case qc4=>simp only[maxLen];omega
    case qc5=>omega
    case qc6=>have:=(G9 hB).size;simp;omega
    intro v' w1 hown hgrow _;have O1:I5 w1 w.heap.size v' (P++[x.p]):=I5.LD (by rw[AP,JJ];exact hown);have hB0:B0 w ((wr.alloc (FW #[S0 x.p,S0 x.d,I0 x.c,I0 x.m,I0 x.q,I0 x.v,I0 x.k,I0 x.o,I0 x.n] 61)).alloc (FW #[S0 x.p] 9)):=GK (G9 hB) (GK (GI _ _) (GI _ _));have B1:B0 w w1:=hB0.grown hgrow hB0.size (fun j hj=>by
     rcases G9 hO with⟨e,_⟩|⟨q,c,e,hq,_⟩
     .rw[e]at hj;cases hj
     .rw[e]at hj;cases hj;exact hq)
    have HO1:=GH O1;have HB1:=GH B1;obtain⟨wa,wc,rfl,_⟩:=O1.slice;clear O1 B1 hB0 hown hgrow;go_wp2_with fail
    go_roundg (ns.length-(k+1))
    case measure=>omega
    case rel=>exact⟨k+1,rfl,by omega,AA _,(by rw[G9 HT,if_pos (G9 HS)];exact HO1),HB1⟩
   .have hsb:(x.o==s)=false:=by simpa using hs
    have HS:=GH hs;have HO1:=GH ((G9 hO).next (GI wr (FW #[S0 x.p,S0 x.d,I0 x.c,I0 x.m,I0 x.q,I0 x.v,I0 x.k,I0 x.o,I0 x.n] 61)));clear hs hrow;go_wp2_with fail
    go_roundg (ns.length-(k+1))
    case measure=>omega
    case rel=>exact⟨k+1,rfl,by omega,AA _,(by rw[G9 HT,if_neg (G9 HS),List.append_nil];exact HO1),GH (GK (G9 hB) (GI _ _))⟩
  .obtain rfl:k=ns.length:=by omega
   have O1:=G9 hO;rw[DX]at O1;have HO1:=GH O1;obtain⟨wa,wc,rfl,_⟩:=O1.slice;clear O1;go_wp2_with fail;go_ret;exact⟨_,rfl,G9 HO1,G9 hB⟩
theorem I5.touched{α:Type}[Lay α]{B:Nat}{v:FZ}{xs:List α}(h:I5 W B v xs)(ht:Touch F W V)(hf:∀k,v.ownBlock=G8 k->¬F k):I5 V B v xs:=by
 rcases h with h|⟨g,cap,rfl,hB,h⟩
 .exact .inl h
 .obtain⟨rest,h1,h2⟩:=h;have hlt:=(AL.1 h1).1;exact .inr ⟨g,cap,rfl,hB,rest,(ht.block g hlt (hf g rfl)).trans h1,h2⟩
def CJ5(F:Nat->Prop)(b:Nat)(z:Int)(ns:List Nd)(ss':List Int)(ps:List (List UInt8))(w:FX)(e:Ending)(w':FX):Prop:=
 (YQ (RJ z ns ps)=true/\e=.returned (I0 6)/\Touch F w w')\/
 (YQ (RJ z ns ps)=false/\e=.returned (I0 0)/\∃vn' vs' ve',Grow w' F b z vn' vs' ve' (RJ z ns ps) ss' (AV6 ps)/\Touch F w w')
structure Clo(z s:Int)(ss0:List Int)(cur:List Nd)(ps:List (List UInt8)):Prop where
 g:PZ z cur ss0
 r:CH0 s cur ps
 c:∀n∈cur,n.k<=2147483647
theorem BK8(F:Nat->Prop)(b:Nat)(z s:Int)(vn vs ve:FZ)(cur:List Nd)(ss ss0:List Int)(es:List Ev)(p:List UInt8)(ps:List (List UInt8))(w:FX)
  (h:Grow w F b z vn vs ve cur ss es) (hF:∀k,w.heap.size<=k->F k) (hes:es.length<=99998) (C:Clo z s ss0 cur (p::ps)):
  (YQ (RJ z cur (p::ps))=true/\G5 prog 200 #[P0 b,S0 p] w fun e w'=>e=.returned (I0 6)/\Touch F w w')\/
  (Clo z s ss0 (rmN z cur p) ps/\G5 prog 200 #[P0 b,S0 p] w fun e w'=>e=.returned (I0 0)/\∃vn' ve',Grow w' F b z vn' vs ve' (rmN z cur p) ss (es++[⟨2,p⟩,⟨4,IL p⟩])/\Touch F w w'):=by
 obtain⟨A,n,B,u,T,ho,hk,hr,hgd,hu1,hu2,hu3,hu4,hu5,hu6,g',R'⟩:=uV C.g C.r;obtain⟨A',B',T'⟩:=nR C.g.asc T hu2 hu3 hu4;have hp:=MV hgd;have hd:=WZ p;have hkk:=C.c u hu2;have h0:=(C.g.ok u hu2).k0;have hn:=(C.g.ok u hu2).kids;have hn2:OG cur u.p<=cur.length:=List.countP_le_length;have hl:=C.g.few;by_cases hf:u.k=2147483647
 .refine .inl ⟨AV9 hu2 hu3 hu4 hf ps hu6,?_⟩;exact kF F b z vn vs ve cur A B A' B' n u ss es p w h hF T T' hl hk hf (by omega) (by omega)
 .refine .inr ⟨⟨g',R',BW8 C.g.asc hu2 hu3 (by omega) C.c⟩,?_⟩;exact wO F b z vn vs ve cur A B A' B' n u ss es p w h hF T T' hl hk ⟨h0,by omega⟩ (by omega) (by omega) (by omega) (by omega)
theorem B16(F:Nat->Prop)(b:Nat)(z:Int)(vn vs ve:FZ)(ns:List Nd)(ss A B ss0:List Int)(s:Int)(w:FX)
  (h:Grow w F b z vn vs ve ns ss []) (hF:∀k,w.heap.size<=k->F k) (T:jG ss A B s) (hl:ss.length<=2147483647) (C:Clo z s ss0 ns (P6 ns s)):
  G5 prog 198 #[P0 b,I0 s] w fun e w'=>CJ5 F b z ns (A++B) (P6 ns s) w e w':=by
 have CF:=wF vs ss A B s w h.s.seq hl T;have hne:ns≠[]:=by obtain⟨r,rest,e,_⟩:=C.g.root;rw[e];simp
 have hfew:=C.g.few;obtain⟨g,cap,hsv,hr⟩:∃g cap,vs=FV (G8 ⟨g,0,G6⟩) ss.length cap/\JD w g cap (A++s::B):=by
  rcases h.s with⟨_,e⟩|⟨g,cap,e,_,h3⟩
  .have:=T.eq;rw[e]at this;simp at this
  .exact⟨g,cap,e,by rw[<-T.eq];exact h3⟩
 subst hsv;have hlen:ss.length=A.length+B.length+1:=by rw[T.eq];simp;omega
 have CD:=A14 g cap A B s ss.length w hr hlen hl;have c2:=h.c2;have hgb:=(h.fs g rfl).2;have hFg:=(h.fs g rfl).1;have HG:=GH h;have HF:=GH hF;have HC:=GH C;have HCD:=GH CD;obtain⟨ps,hps⟩:∃ps,P6 ns s=ps:=⟨_,rfl⟩;have HPS:=GH hps;have hpl:ps.length<=400:=by rw[<-hps];exact Nat.le_trans (wR ns s) hfew
 rw[hps];have hAl:A.length<ss.length:=by omega
 clear h hF T hr CD C hps hlen;go_enter func198,ntmps198;go_wp2_with fail;refine CF.mono ?_;rintro e w1 ⟨rfl,rfl⟩;clear CF;go_wp2_with fail;rw[show ((A.length:Int)+1)=((A.length+1:Nat):Int)from by omega];refine(G9 HCD).mono ?_;rintro e w2 ⟨rfl,ho2,hg2⟩;have m2:w2.cell? ⟨b,2,G6⟩=G8 (FV (G8 ⟨g,0,G6⟩) ss.length cap):=hg2.cell c2 (fun e=>hgb (BQ e).symm);have l2:w2.frozen? ⟨b,2,G6⟩=false:=(World.frozen?_of_block (hg2.block b (G9 HG).lt (fun e=>hgb (BQ e).symm))).trans ((G9 HG).fz 2);have g2:=(G9 HG).se (vs':=FV (G8 ⟨g,0,G6⟩) (A.length+B.length) cap) (ss':=A++B) (G9 HF) hg2 (.inr ⟨g,cap,by rw[AP],AZ _,ho2⟩) (.inl rfl);have t2:Touch F w1 (w2.setCell ⟨b,2,G6⟩ (FV (G8 ⟨g,0,G6⟩) (A.length+B.length) cap)):=(Touch.VI hg2 (fun k e=>by cases e;exact hFg)).trans (Touch.set g2.fb _);have HG2:=GH g2;have HT2:=GH t2;clear g2 t2 ho2 hg2 HCD c2;go_wp2_with fail;refine(B15 F b z _ _ _ _ _ _ s _ (G9 HG2) hfew hne).mono ?_;rintro e w3 ⟨v3,rfl,ho3,hb3⟩;rw[G9 HPS]at ho3;have g3:=(G9 HG2).next hb3;have HG3:=GH g3;have HO3:=GH ho3;obtain⟨pa,pc,rfl,_⟩:=ho3.slice;have hlow:∀k,(Value.slice pa ps.length pc).ownBlock=G8 k->(w2.setCell ⟨b,2,G6⟩ (FV (G8 ⟨g,0,G6⟩) (A.length+B.length) cap)).heap.size<=k:=by
  intro k e;rcases G9 HO3 with⟨h1,_⟩|⟨q,c,h1,hq,_⟩
  .rw[h1]at e;cases e
  .rw[h1]at e;cases e;exact hq
 have F3:Hid (Grow w3 (fun k=>F k/\(Value.slice pa ps.length pc).ownBlock≠G8 k) b z vn (FV (G8 ⟨g,0,G6⟩) (A.length+B.length) cap) ve ns (A++B) []):=by
  have q:=G9 HG2;exact⟨g3.blk,⟨g3.fb,fun e=>by have:=hlow _ e;have:=q.lt;omega⟩,g3.n,g3.s,g3.e,fun k hk=>⟨⟨(g3.fn k hk).1,fun e=>by have:=hlow _ e;have:=q.n.low k hk;omega⟩,(g3.fn k hk).2⟩,fun k hk=>⟨⟨(g3.fs k hk).1,fun e=>by have:=hlow _ e;have:=q.s.low k hk;omega⟩,(g3.fs k hk).2⟩,fun k hk=>⟨⟨(g3.fe k hk).1,fun e=>by have:=hlow _ e;have:=q.e.low k hk;omega⟩,(g3.fe k hk).2⟩,g3.an,g3.asn⟩
 have T3:=GH ((G9 HT2).trans (Touch.of_below hb3));have hpb:∀k,(Value.slice pa ps.length pc).ownBlock=G8 k->k<w3.heap.size:=fun k e=>(G9 HO3).low k e;have HPB:=GH hpb;have HF3:Hid (∀W:FX,w3.heap.size<=W.heap.size->∀k,W.heap.size<=k->F k/\(Value.slice pa ps.length pc).ownBlock≠G8 k):=fun W hW k hk=>⟨G9 HF k (by have:=(G9 T3).size;omega),fun e=>by have:=G9 HPB k e;omega⟩;clear g3 ho3 hlow hpb hb3 m2 l2;go_wp2_with fail
 go_loopg [37] ps.length (fun kx s37 wr=>∃ (k:Nat) (vn' ve':FZ),s37=I0 k/\k<=ps.length/\ps.length-k<=kx/\Hid (Grow wr (fun k=>F k/\(Value.slice pa ps.length pc).ownBlock≠G8 k) b z vn' (FV (G8 ⟨g,0,G6⟩) (A.length+B.length) cap) ve' (RJ z ns (ps.take k)) (A++B) (AV6 (ps.take k)))/\Hid (Clo z s ss0 (RJ z ns (ps.take k)) (ps.drop k))/\Hid (Touch (fun k=>F k/\(Value.slice pa ps.length pc).ownBlock≠G8 k) w3 wr))
 case atStart=>exact⟨0,vn,ve,rfl,AZ _,AA _,F3,(by rw[List.drop_zero];have:=G9 HC;rw[G9 HPS]at this;exact GH this),GH (Touch.refl _ _)⟩
 case round=>
  obtain⟨k,vn',ve',rfl,hk,hg,hG,hCl,hT⟩:=hrel;have tF:Hid (Touch F w1 wr):=GH ((G9 T3).trans ((G9 hT).mono (fun k _ hk=>hk.1)));by_cases hlt:k<ps.length
  .obtain⟨p,hp⟩:∃p,ps[k]?=G8 p:=⟨_,AO hlt⟩;have hor:=(G9 HO3).touched (G9 hT) (fun q e h=>h.2 e);obtain⟨q,off,cq,he,_,hrow,_,_⟩:=N8 hor.seq (by intro e;rw[e]at hlt;simp at hlt);simp only[AQ]at he;obtain⟨rfl,_,rfl⟩:=he;have r0:=hrow.s0 hp;have hdr:ps.drop k=p::ps.drop (k+1):=by rw[List.drop_eq_getElem_cons hlt];congr 1;rw[AO hlt]at hp;exact BQ hp
   have hev:(AV6 (ps.take k)).length<=99998:=by rw[A85,FB];omega
   have CL:=G9 hCl;rw[hdr]at CL;have ST:=BK8 _ b z s vn' _ ve' _ (A++B) ss0 _ p (ps.drop (k+1)) wr (G9 hG) (G9 HF3 wr (G9 hT).size) hev CL;have HN:=GH (AH5 z ns hp);have HV:=GH (AW4 hp);have HSP:=GH (show RJ z ns ps=RJ z (RJ z ns (ps.take k)) (p::ps.drop (k+1)) by rw[<-hdr];exact zT z ns ps k);clear CL hdr hp hor hrow;rcases ST with⟨hfull,C6⟩|⟨C0,C00⟩
   .have HFU:=GH hfull;clear hfull;go_wp2_with fail;refine C6.mono ?_;rintro e w4 ⟨rfl,t4⟩;have HT4:=GH ((G9 tF).trans (t4.mono (fun k _ hk=>hk.1)));clear C6 t4;go_wp2_with fail;go_ret;exact .inl ⟨by rw[G9 HSP];exact G9 HFU,rfl,G9 HT4⟩
   .have HC0:=GH C0;clear C0;go_wp2_with fail;refine C00.mono ?_;rintro e w4 ⟨rfl,vn2,ve2,g4,t4⟩;have HG4:=GH g4;have HT4:=GH ((G9 hT).trans t4);clear C00 t4 g4;go_wp2_with fail
    go_roundg (ps.length-(k+1))
    case measure=>omega
    case rel=>exact⟨k+1,vn2,ve2,rfl,by omega,AA _,(by rw[G9 HN,G9 HV];exact HG4),(by rw[G9 HN];exact HC0),HT4⟩
  .obtain rfl:k=ps.length:=by omega
   have hGf:=(G9 hG).cut (G:=F) (fun k _ hk=>hk.1);have hcap:=(G9 hCl).c;rw[DX]at hGf hcap;have HGf:=GH hGf;have HCp:=GH (OW.2 hcap);clear hGf hcap;go_wp2_with fail;go_ret;exact .inr ⟨G9 HCp,rfl,vn',_,ve',G9 HGf,G9 tF⟩
