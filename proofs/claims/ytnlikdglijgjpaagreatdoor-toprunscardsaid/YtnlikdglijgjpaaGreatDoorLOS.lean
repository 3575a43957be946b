/-
  Part.
-/
import Derived.Test.YtnlikdglijgjpaaGreatDoorLOR
import Derived.Test.YtnlikdglijgjpaaGreatDoorLOO
import Derived.Test.YtnlikdglijgjpaaGreatDoorLON
import Derived.Deep.AppendLies
set_option maxRecDepth 20000
set_option maxHeartbeats 8000000
namespace Go.Proofs.YtnlikdglijgjpaaGreatDoor
open Go.RowKit Go.Proofs.Tryz
open _root_.Nat renaming le_refl->A8,zero_le->AY
open Go.RowKit.Below renaming refl->AA,heap_setCell->BF
open _root_.Array renaming getElem?_eq_some_iff->AB
open _root_.List renaming getElem?_eq_getElem->AL,length_append->AO,getElem?_eq_some_iff->AU,mem_cons->BP,append_nil->DN,take_append_drop->DU,mem_filter->EI
open Go.Value.slice renaming injEq->AP
open Go.World renaming cell?->AV,frozen?->F8
open _root_.Option.some renaming injEq->BD
open _root_.And renaming intro->D8
open Go.Value renaming ownBlock->DC,slice->FT
open Go.Obj renaming cells->FU
open Go renaming World->FV,Value->FW,Calls->FX
open _root_.Option renaming none->FZ,some->G5
variable{α:Type}{W w V:FV}{B k c ka kn kr i:Nat}{v vd vl vn vs vw vN vd0 vl0 vn0 vs0 vw0:FW}{up up0:Bool}{id ep dn z E id0 ep0 dn0 z0:Int}{s:Sv}{N:List Nt}{x:GK}{xs ts:List GK}{e:Ending}{a:Option Addr}
noncomputable def WS(s:Sv)(x:GK):List Wa:=if x.o=2 then lK (LC s.ws (YD s.tr x)) x.s else LC s.ws (YD s.tr x)
noncomputable def eH(s:Sv)(x:GK):Sv:=⟨s.up,s.fs,s.id,s.ep,s.ts,s.dn,iR s.tr x,WS s x⟩
theorem UY[Lay α]{xs:List α}{c:Array FW}{T:TypeId}{fz:Nat×Nat}(h:H7 W B v xs)(hk:W.heap[k]?=G5 (FU c T fz))(hne:T≠Lay.ty α):v.ownBlock≠G5 k:=by
 intro e;rcases h with⟨rfl,_⟩|⟨g,cap,rfl,_,rest,h1,_⟩
 .simp[DC]at e
 .simp only[DC,BD]at e;subst e;rw[h1]at hk;simp at hk;exact hne hk.2.1.symm
theorem B23{β:Type}[Lay α][Lay β]{C:Nat}{u:FW}{xs:List α}{ys:List β}(h:H7 W B u xs)(k:H7 W C v ys)(hne:Lay.ty α≠Lay.ty β):∀q,u.ownBlock=G5 q->G5 q≠v.ownBlock:=by
 intro q hq e;rcases h with⟨rfl,rfl⟩|⟨g,cap,rfl,_,rest,h1,_⟩
 .simp[DC]at hq
 .rcases k with⟨rfl,rfl⟩|⟨g',cap',rfl,_,rest',h1',_⟩
  .simp[DC]at e
  .simp only[DC,BD]at hq e;subst hq e;rw[h1]at h1';simp at h1';exact hne h1'.2
theorem aP[Lay α]{xs:List α}(h:H7 W B v xs)(hb:IJ W k up vd id ep vl dn z vn vs vw)(hne:61≠Lay.ty α):v.ownBlock≠G5 k:=by
 unfold IJ at hb;exact UY h hb hne
structure CI(w W:FV)(ka kn kr:Nat)(s:Sv)(N:List Nt)(vd vl vn vs vw vN:FW):Prop where
 box:IJ W ka s.up vd s.id s.ep vl s.dn s.tr.z vn vs vw
 nb:W.heap[kn]?=G5 (FU #[vN] 32 (0,0))
 d:H7 W w.heap.size vd s.fs
 l:H7 W w.heap.size vl s.ts
 n:H7 W w.heap.size vn s.tr.ns
 i:H7 W w.heap.size vs s.tr.ss
 o:H7 W w.heap.size vw s.ws
 t:H7 W w.heap.size vN N
 below:B0 w W
 ha:w.heap.size<=ka
 hn:w.heap.size<=kn
 ne:ka≠kn
 r:IJ W kr false (N0) 0 0 (N0) 0 0 (N0) (N0) (N0)
 r1:kr≠ka
 r2:kr≠kn
 hr:w.heap.size<=kr
theorem CI.next(h:CI w W ka kn kr s N vd vl vn vs vw vN)(hb:B0 W V):CI w V ka kn kr s N vd vl vn vs vw vN:=
 ⟨h.box.next hb,(hb.block kn (AB.1 h.nb).1).trans h.nb,h.d.next hb,h.l.next hb,h.n.next hb,h.i.next hb,h.o.next hb,h.t.next hb,G9 h.below hb,h.ha,h.hn,h.ne,h.r.next hb,h.r1,h.r2,h.hr⟩
theorem QC[Lay α]{j:Nat}{xs:List α}(h:H7 W B v xs)(hb:IJ W k up vd id ep vl dn z vn vs vw)(hne:61≠Lay.ty α)(u:FW):H7 (W.setCell ⟨k,j,FZ⟩ u) B v xs:=
 h.other (aP h hb hne) u
theorem CI.tree{vn' vs' vw':FW}{t':Tr}{ws':List Wa}(h:CI w W ka kn kr s N vd vl vn vs vw vN)(hn':H7 W w.heap.size vn' t'.ns)(hs':H7 W w.heap.size vs' t'.ss)(hw':H7 W w.heap.size vw' ws'):
  CI w ((((W.setCell ⟨ka,6,FZ⟩ (I0 t'.z)).setCell ⟨ka,7,FZ⟩ vn').setCell ⟨ka,8,FZ⟩ vs').setCell ⟨ka,9,FZ⟩ vw') ka kn kr ⟨s.up,s.fs,s.id,s.ep,s.ts,s.dn,t',ws'⟩ N vd vl vn' vs' vw' vN:=by
 have b1:IJ (W.setCell ⟨ka,6,FZ⟩ (I0 t'.z)) ka s.up vd s.id s.ep vl s.dn t'.z vn vs vw:=GU (j:=6) _ h.box;have b2:IJ ((W.setCell ⟨ka,6,FZ⟩ (I0 t'.z)).setCell ⟨ka,7,FZ⟩ vn') ka s.up vd s.id s.ep vl s.dn t'.z vn' vs vw:=GU (j:=7) _ b1;have b3:IJ (((W.setCell ⟨ka,6,FZ⟩ (I0 t'.z)).setCell ⟨ka,7,FZ⟩ vn').setCell ⟨ka,8,FZ⟩ vs') ka s.up vd s.id s.ep vl s.dn t'.z vn' vs' vw:=GU (j:=8) _ b2;have b4:IJ ((((W.setCell ⟨ka,6,FZ⟩ (I0 t'.z)).setCell ⟨ka,7,FZ⟩ vn').setCell ⟨ka,8,FZ⟩ vs').setCell ⟨ka,9,FZ⟩ vw') ka s.up vd s.id s.ep vl s.dn t'.z vn' vs' vw':=GU (j:=9) _ b3;have keep:∀ {α:Type} [Lay α] {v:FW} {xs:List α},H7 W w.heap.size v xs->61≠Lay.ty α->H7 ((((W.setCell ⟨ka,6,FZ⟩ (I0 t'.z)).setCell ⟨ka,7,FZ⟩ vn').setCell ⟨ka,8,FZ⟩ vs').setCell ⟨ka,9,FZ⟩ vw') w.heap.size v xs:=
  fun h0 hne=>QC (QC (QC (QC h0 h.box hne _) b1 hne _) b2 hne _) b3 hne _
 refine⟨b4,?_,keep h.d (by decide),keep h.l (by decide),keep hn' (by decide),keep hs' (by decide),keep hw' (by decide),keep h.t (by decide),(((h.below.setCell h.ha _).setCell h.ha _).setCell h.ha _).setCell h.ha _,h.ha,h.hn,h.ne,(((h.r.other h.r1).other h.r1).other h.r1).other h.r1,h.r1,h.r2,h.hr⟩;exact(BF _ _ _ _ (Ne.symm h.ne)).trans ((BF _ _ _ _ (Ne.symm h.ne)).trans ((BF _ _ _ _ (Ne.symm h.ne)).trans ((BF _ _ _ _ (Ne.symm h.ne)).trans h.nb)))
theorem CI.note{N':List Nt}{vN':FW}(h:CI w W ka kn kr s N vd vl vn vs vw vN)(hg:W.grownBy V vN.ownBlock)(ho:H7 V w.heap.size vN' N'):
  CI w (V.setCell ⟨kn,0,FZ⟩ vN') ka kn kr s N' vd vl vn vs vw vN':=by
 have na:G5 ka≠vN.ownBlock:=fun e=>aP h.t h.box (by decide) e.symm;have nn:G5 kn≠vN.ownBlock:=fun e=>UY h.t h.nb (by decide) e.symm;have bV:IJ V ka s.up vd s.id s.ep vl s.dn s.tr.z vn vs vw:=(hg.block ka h.box.lt na).trans h.box;have nV:V.heap[kn]?=G5 (FU #[vN] 32 (0,0)):=(hg.block kn (AB.1 h.nb).1 nn).trans h.nb;have keep:∀ {α:Type} [Lay α] {v:FW} {xs:List α},H7 W w.heap.size v xs->Lay.ty α≠48->32≠Lay.ty α->H7 (V.setCell ⟨kn,0,FZ⟩ vN') w.heap.size v xs:=fun h0 h1 h2=>by
  have k:=h0.grown hg (B23 h0 h.t h1);exact k.other (UY k nV h2) _
 refine⟨bV.other h.ne,?_,keep h.d (by decide) (by decide),keep h.l (by decide) (by decide),keep h.n (by decide) (by decide),keep h.i (by decide) (by decide),keep h.o (by decide) (by decide),ho.other (UY ho nV (by decide)) _,(h.below.grown hg h.below.size (fun g e=>?_)).setCell h.hn _,h.ha,h.hn,h.ne,IJ.other ((hg.block kr h.r.lt (fun e=>aP h.t h.r (by decide) e.symm)).trans h.r) h.r2,h.r1,h.r2,h.hr⟩
 .rw[GU _ nV];rfl
 .rcases h.t with⟨e1,_⟩|⟨g',cap,e1,hB,_⟩
  .rw[e1]at e;simp[DC]at e
  .rw[e1]at e;simp only[DC,BD]at e;omega
theorem IU[Lay α]{xs:List α}(h:H7 W B v xs):∃a c,v=FT a xs.length c:=by
 obtain⟨a,c,e,_⟩:=h.slice;exact⟨a,c,e⟩
theorem B24(W:FV)(ty:TypeId)(B C:Nat)(v u:FW)(N T:List Nt)(hv:H7 W B v N)(hu:H7 W C u T)(hl:(N.length+T.length)*32<=140737488355328)(hB:B<=W.heap.size):
  ∃v' w',(Builtin.append_ #[32,32] ty #[v,u]).run prog W=.ok v' w'/\H7 w' B v' (N++T)/\W.grownBy w' v.ownBlock:=by
 obtain⟨i0,hi0,hz0,hz1,hz2⟩:=AX6;rcases hu with⟨rfl,rfl⟩|⟨g,cap,rfl,_,hr⟩
 .refine⟨v,W,run_append_owned_none (P:=prog) (w:=W) B 32 ty 48 i0 3 underlying32 hi0 v N.length (GH N) hv.row,by rw[DN];exact hv,⟨rfl,rfl,rfl,A8 _,fun _ _ _=>rfl⟩⟩
 .obtain⟨v',w',h1,h2,h3,_⟩:=run_append_own (P:=prog) W B 32 ty 48 i0 _ 3 32 underlying32 hi0 hz0 hz1 hz2 rfl (by decide) v N.length (GH N) hv.row ⟨g,0,FZ⟩ T.length cap (GH T) (GN T) (fun j x hj=>by rw[Addr.add_lit];exact hr.row j x hj) (JF T) (by simp only[maxLen];omega) hl hB;exact⟨v',w',h1,H7.L9 (by rw[AO,H6];exact h2),h3⟩
theorem eP{w:FV}{ops:Array Oper}{rest:List Oper}{o:Oper}{a:Act}{Q:Exit->Act->FV->Prop}(hgd:o.guard=FZ)(s x:Operand)
  (ho:o.op=.call {callee:=.builtin .append,args:=#[s,x],argTypes:=#[32,32]})
  (B C:Nat) (v u:FW) (N T:List Nt) (hs:a.eval s=v) (hx:a.eval x=u) (hv:H7 w B v N) (hu:H7 w C u T) (hl:(N.length+T.length)*32<=140737488355328) (hB:B<=w.heap.size)
  (h:∀a' c' w',H7 w' B (FT a' (N++T).length c') (N++T)->w.grownBy w' v.ownBlock->wpList prog ops Q rest (a.put o.dst (FT a' (N++T).length c')) w'):wpList prog ops Q (o::rest) a w:=by
 refine wpList_plain hgd fun K hK=>?_;obtain⟨v',w',hr,h2,h3⟩:=B24 w o.type B C v u N T hv hu hl hB;obtain⟨a',c',rfl⟩:=IU h2;unfold Oper.wp execOp;simp only[ho,resolve,invoke,builtin,Sem.run_bind,Sem.run_pure,Result.andThen_ok,List.map_toArray,List.map_cons,List.map_nil,hs,hx,hr];exact hK _ _ (h a' c' w' h2 h3)
theorem nM{T:List Nt}(h:H7 W B v T)(hb:IJ W ka up vd id ep vl dn z vn vs vw)(x6 x7 x8 x9:FW):H7 ((((W.setCell ⟨ka,6,FZ⟩ x6).setCell ⟨ka,7,FZ⟩ x7).setCell ⟨ka,8,FZ⟩ x8).setCell ⟨ka,9,FZ⟩ x9) B v T:=by
 have hk:=aP h hb (by decide);exact(((h.other hk x6).other hk x7).other hk x8).other hk x9
structure CFit(s:Sv)(N:List Nt)(x:GK):Prop where
 wf:WfT s.tr
 xd:x.d.length<=140737488355328
 xp:x.p.length<=140737488355328
 sh:lN s.ws
 wl:s.ws.length*32<=140737488351232
 nl:(N.length+s.ws.length)*32<=140737488351232
def CT8(w W w':FV)(ka kn kr:Nat)(s:Sv)(N:List Nt)(x:GK)(E:Int)(T:Tr)(V:List Ev)(SW:List Wa):Prop:=
 B0 w w'/\(E≠0->B0 W w')/\
 (E=0->∃ad nd cd al cl an cn ai ci aw cw aN cN,CI w w' ka kn kr (eH s x) (N++OQ s.ws V) (FT ad nd cd) (FT al s.ts.length cl) (FT an T.ns.length cn) (FT ai T.ss.length ci) (FT aw SW.length cw) (FT aN (N.length+(OQ s.ws V).length) cN))
theorem Z4{ws:List Wa}(h:lN ws)(es:List Ev):lN (LC ws es):=fun x hx=>h x (AX0 ws es x hx)
theorem AM1{t:Tr}(hw:WfT t)(hp:x.p.length<=140737488355328):BV7 (YD t x):=by
 have hdl:∀p:List UInt8,(II p).length<=140737488355328:=fun p=>by have:=WC p;omega
 intro e he;by_cases h:Y7 t x=0
 .rw[YD,if_pos h,pI]at he;by_cases h2:x.o=2
  .rw[if_pos h2]at he;obtain⟨q,hq,he⟩:=List.mem_flatMap.1 he;obtain⟨n,hn,rfl⟩:=List.mem_map.1 hq;have hn':=hw.CI7 n (EI.1 hn).1;simp only[BP,List.not_mem_nil,or_false]at he;rcases he with rfl|rfl
   .exact hn'.1
   .exact hdl _
  .rw[if_neg h2]at he;by_cases h3:x.o=3
   .rw[if_pos h3]at he;simp only[BP,List.not_mem_nil,or_false]at he;rcases he with rfl|rfl
    .exact hp
    .exact hdl _
   .rw[if_neg h3]at he;by_cases h4:x.o=4
    .rw[if_pos h4]at he;simp only[BP,List.not_mem_nil,or_false]at he;rcases he with rfl|rfl
     .exact hp
     .exact hdl _
    .rw[if_neg h4]at he;by_cases h5:x.o=5
     .rw[if_pos h5]at he;simp only[BP,List.not_mem_nil,or_false]at he;subst he;exact hp
     .rw[if_neg h5]at he;simp at he
 .rw[YD,if_neg h]at he;simp at he
theorem A12(w W:FV)(ka kn kr:Nat)(s:Sv)(N:List Nt)(x:GK)(ad al an ai aw aN:Option Addr)(nd cd cl cn ci cw cN:Nat)
  (h:CI w W ka kn kr s N (FT ad nd cd) (FT al s.ts.length cl) (FT an s.tr.ns.length cn) (FT ai s.tr.ss.length ci) (FT aw s.ws.length cw) (FT aN N.length cN)) (hf:CFit s N x):
  FX prog 124 #[J7 x,P0 ka,P0 kn] W fun e w'=>e=.returned (I0 (Y7 s.tr x))/\CT8 w W w' ka kn kr s N x (Y7 s.tr x) (iR s.tr x) (YD s.tr x) (WS s x):=by
 have h1:=h.next (G8 W (FU #[I0 x.z,I0 x.o,I0 x.s,S0 x.p,S0 x.d,I0 x.v,I0 x.w] 65));have T1:=TAt.new W x;have CA:=G7 (fun vn vs V (h2:IE V vn s.tr.ns) (h3:IE V vs s.tr.ss)=>vP s.tr vn vs x V h2 h3 hf.wf hf.xd);have CFi:=G7 (fun v u V (h2:IE V v s.ws) (h3:IE V u (YD s.tr x))=>BL6 v u s.ws (YD s.tr x) V h2 h3 hf.sh (AM1 hf.wf hf.xp) hf.wl (B17 s.tr x).2.2);have hfl:=fV (YD s.tr x) s.ws;have CD:=G7 (fun v V (h2:IE V v (LC s.ws (YD s.tr x)))=>BL7 v x.s (LC s.ws (YD s.tr x)) V h2 (Z4 hf.sh _) (by have:=hf.wl;omega));have HNL:Hid ((N.length+(OQ s.ws (YD s.tr x)).length)*32<=140737488355328):=G7 (by have:=hf.nl;omega);have HSW:Hid ((x.o=2->WS s x=lK (LC s.ws (YD s.tr x)) x.s)/\(x.o≠2->WS s x=LC s.ws (YD s.tr x))):=G7 ⟨fun e=>by simp[WS,e],fun e=>by simp[WS,e]⟩;have HC1:=G7 h1;have HBA:=G7 (G8 W (FU #[I0 x.z,I0 x.o,I0 x.s,S0 x.p,S0 x.d,I0 x.v,I0 x.w] 65));have HT1:=G7 T1;have HSS:Hid (eH s x=⟨s.up,s.fs,s.id,s.ep,s.ts,s.dn,iR s.tr x,WS s x⟩):=G7 rfl;obtain⟨x0,x1,x2,x3,x4,x5,x6,x7,x8,x9⟩:=h1.box.cells;have t0:=T1.c0;have t1:=T1.c1;have t2:=T1.c2;have t3:=T1.c3;have t4:=T1.c4;have t5:=T1.c5;have t6:=T1.c6;unfold aK at CA;clear h h1 T1 hf hfl;obtain⟨z,o,u,p,d,y,v⟩:=x;generalize Y7 s.tr ⟨z,o,u,p,d,y,v⟩=E at*;generalize iR s.tr ⟨z,o,u,p,d,y,v⟩=T at*;generalize YD s.tr ⟨z,o,u,p,d,y,v⟩=V at*;generalize WS s ⟨z,o,u,p,d,y,v⟩=SW at*;unfold J7 at*;simp only at*;go_enter func124,ntmps124;go_upto_region 1 with fail;generalize W.alloc (FU #[I0 z,I0 o,I0 u,S0 p,S0 d,I0 y,I0 v] 65)=W1 at*;obtain⟨kx,hkx⟩:∃kx,W.heap.size=kx:=⟨_,rfl⟩;rw[hkx];rw[hkx]at t0 t1 t2 t3 t4 t5 t6 HT1;clear hkx;go_wp2_with fail;refine(G6 CA _ _ _ (G6 HC1).n.seq (G6 HC1).i.seq).mono ?_;rintro e w2 ⟨vn2,vs2,ve2,rfl,on2,oi2,oe2,hb2⟩;obtain⟨bn,fn,rfl⟩:=IU on2;obtain⟨bi,fi,rfl⟩:=IU oi2;obtain⟨be,fe,rfl⟩:=IU oe2;have hal:=G8 w2 (FU #[I0 T.z,FT bn T.ns.length fn,FT bi T.ss.length fi] 58);have HC2:=G7 (((G6 HC1).next hb2).next hal);have HT2:=G7 (((G6 HT1).next hb2).next hal);have HZ1:=(G6 HC1).below.size;have HBE:=G7 (G9 (G9 (G6 HBA) hb2) hal);have HON:=G7 ((on2.next hal).lower HZ1);have HOI:=G7 ((oi2.next hal).lower HZ1);have HOE:=G7 (oe2.next hal);have HTB:Hid ((w2.alloc (FU #[I0 T.z,FT bn T.ns.length fn,FT bi T.ss.length fi] 58)).heap[w2.heap.size]?=G5 (FU #[I0 T.z,FT bn T.ns.length fn,FT bi T.ss.length fi] 58 (0,0))):=G7 (heap_alloc_new w2 _);clear on2 oi2 oe2 hb2 hal HZ1 HC1 HT1 CA x0 x1 x2 x3 x4 x5 x6 x7 x8 x9 t0 t1 t2 t3 t4 t5 t6;go_upto_region 2 with fail;generalize w2.heap.size=kt at*;generalize w2.alloc (FU #[I0 T.z,FT bn T.ns.length fn,FT bi T.ss.length fi] 58)=W2 at*;by_cases hE:E=0
 .subst hE;obtain⟨x0,x1,x2,x3,x4,x5,x6,x7,x8,x9⟩:=(G6 HC2).box.cells;go_wp2_with fail;refine(G6 CFi _ _ _ (G6 HC2).o.seq (G6 HOE).seq).mono ?_;rintro e w3 ⟨vn3,vl3,rfl,on3,⟨g3,rfl,hg3,or3⟩,hb3⟩;obtain⟨bN,fN,rfl⟩:=IU on3;have HC3:=G7 ((G6 HC2).next hb3);have hz2:=(G6 HC2).below.size;have CR4:=G7 ((G6 HON).next hb3);have CR5:=G7 ((G6 HOI).next hb3);have HT3:=(G6 HT2).next hb3;have CI9:=G7 ((hb3.block kt (AB.1 (G6 HTB)).1).trans (G6 HTB));have CR6:=G7 (on3.lower hz2);have CR7:Hid (H7 w3 w.heap.size (FT (G5 ⟨g3,0,FZ⟩) (LC s.ws V).length (s.ws.length+1)) (LC s.ws V)):=G7 (.inr ⟨g3,_,rfl,by omega,or3⟩);have t1:=HT3.c1;have t2:=HT3.c2;simp only at t1 t2;clear on3 hg3 or3 hb3 hz2 HC2 HON HOI HT2 HTB HOE CFi x0 x1 x2 x3 x4 x5 x6 x7 x8 x9 HT3;by_cases ho:o=2
  .have hsw:=(G6 HSW).1 ho;subst hsw;subst ho;go_wp2_with fail;refine(G6 CD _ _ (G6 CR7).seq).mono ?_;rintro e w4 ⟨g4,rfl,hg4,or4,hb4⟩;have hz3:=(G6 HC3).below.size;have HCX:=G7 ((G6 HC3).next hb4);have CJ0:=G7 ((G6 CR4).next hb4);have CJ2:=G7 ((G6 CR5).next hb4);have BL8:=G7 ((hb4.block kt (AB.1 (G6 CI9)).1).trans (G6 CI9));have CJ3:=G7 ((G6 CR6).next hb4);have CJ4:Hid (H7 w4 w.heap.size (FT (G5 ⟨g4,0,FZ⟩) (lK (LC s.ws V) u).length ((LC s.ws V).length+1)) (lK (LC s.ws V) u)):=G7 (.inr ⟨g4,_,rfl,by omega,or4⟩);clear hg4 or4 hb4 hz3 HC3 CR4 CR5 CI9 CR6 CR7 CD t1 t2;have HTR:=G7 ((G6 HCX).tree (t':=T) (vn':=FT bn T.ns.length fn) (vs':=FT bi T.ss.length fi) (G6 CJ0) (G6 CJ2) (G6 CJ4));obtain⟨x0,x1,x2,x3,x4,x5,x6,x7,x8,x9⟩:=(G6 HCX).box.cells;have xf6:=(G6 HCX).box.GX 6;have xf7:=(G6 HCX).box.GX 7;have xf8:=(G6 HCX).box.GX 8;have xf9:=(G6 HCX).box.GX 9;have k0:w4.cell? ⟨kt,0,FZ⟩=G5 (I0 T.z):=by simp[AV,G6 BL8]
   have k1:w4.cell? ⟨kt,1,FZ⟩=G5 (FT bn T.ns.length fn):=by simp[AV,G6 BL8]
   have k2:w4.cell? ⟨kt,2,FZ⟩=G5 (FT bi T.ss.length fi):=by simp[AV,G6 BL8]
   go_upto_region 8 with fail;have CT9:=G7 (nM (G6 CJ3) (G6 HCX).box (I0 T.z) (FT bn T.ns.length fn) (FT bi T.ss.length fi) (FT (G5 ⟨g4,0,FZ⟩) (lK (LC s.ws V) u).length ((LC s.ws V).length+1)));generalize (((w4.setCell ⟨ka,6,FZ⟩ (I0 T.z)).setCell ⟨ka,7,FZ⟩ (FT bn T.ns.length fn)).setCell ⟨ka,8,FZ⟩ (FT bi T.ss.length fi)).setCell ⟨ka,9,FZ⟩ (FT (G5 ⟨g4,0,FZ⟩) (lK (LC s.ws V) u).length ((LC s.ws V).length+1))=W5 at*;clear x0 x1 x2 x3 x4 x5 x6 x7 x8 x9 xf6 xf7 xf8 xf9 k0 k1 k2 HCX CJ0 CJ2 CJ4 CJ3 BL8;have n0:W5.cell? ⟨kn,0,FZ⟩=G5 (FT aN N.length cN):=by simp[AV,(G6 HTR).nb]
   go_wp2_with (at_builtin;refine eP rfl _ _ rfl w.heap.size w.heap.size (FT aN N.length cN) _ N (OQ s.ws V) rfl rfl (G6 HTR).t (G6 CT9) (G6 HNL) (G6 HTR).below.size ?_);intro a6 c6 w6 ho6 hg6;have HFI:=G7 ((G6 HTR).note hg6 ho6);have m0:w6.cell? ⟨kn,0,FZ⟩=G5 (FT aN N.length cN):=hg6.cell n0 (fun e=>UY (G6 HTR).t (G6 HTR).nb (by decide) e.symm);have mf:w6.frozen? ⟨kn,0,FZ⟩=false:=by
    have:=(hg6.block kn (AB.1 (G6 HTR).nb).1 (fun e=>UY (G6 HTR).t (G6 HTR).nb (by decide) e.symm)).trans (G6 HTR).nb;simp[F8,this]
   clear ho6 hg6 n0;go_wp2_with fail;go_ret;exact⟨rfl,(G6 HFI).below,fun h=>absurd rfl h,fun _=>⟨ad,nd,cd,al,cl,bn,fn,bi,fi,(G5 ⟨g4,0,FZ⟩),((LC s.ws V).length+1),a6,c6,by rw[G6 HSS];exact G6 HFI⟩⟩
  .have hsw:=(G6 HSW).2 ho;subst hsw;have HCX:=HC3;have CJ0:=CR4;have CJ2:=CR5;have BL8:=CI9;have CJ3:=CR6;have CJ4:=CR7;clear HC3 CR4 CR5 CI9 CR6 CR7 CD;have HTR:=G7 ((G6 HCX).tree (t':=T) (vn':=FT bn T.ns.length fn) (vs':=FT bi T.ss.length fi) (G6 CJ0) (G6 CJ2) (G6 CJ4));obtain⟨x0,x1,x2,x3,x4,x5,x6,x7,x8,x9⟩:=(G6 HCX).box.cells;have xf6:=(G6 HCX).box.GX 6;have xf7:=(G6 HCX).box.GX 7;have xf8:=(G6 HCX).box.GX 8;have xf9:=(G6 HCX).box.GX 9;have k0:w3.cell? ⟨kt,0,FZ⟩=G5 (I0 T.z):=by simp[AV,G6 BL8]
   have k1:w3.cell? ⟨kt,1,FZ⟩=G5 (FT bn T.ns.length fn):=by simp[AV,G6 BL8]
   have k2:w3.cell? ⟨kt,2,FZ⟩=G5 (FT bi T.ss.length fi):=by simp[AV,G6 BL8]
   go_upto_region 8 with fail;have CT9:=G7 (nM (G6 CJ3) (G6 HCX).box (I0 T.z) (FT bn T.ns.length fn) (FT bi T.ss.length fi) (FT (G5 ⟨g3,0,FZ⟩) (LC s.ws V).length (s.ws.length+1)));generalize (((w3.setCell ⟨ka,6,FZ⟩ (I0 T.z)).setCell ⟨ka,7,FZ⟩ (FT bn T.ns.length fn)).setCell ⟨ka,8,FZ⟩ (FT bi T.ss.length fi)).setCell ⟨ka,9,FZ⟩ (FT (G5 ⟨g3,0,FZ⟩) (LC s.ws V).length (s.ws.length+1))=W5 at*;clear x0 x1 x2 x3 x4 x5 x6 x7 x8 x9 xf6 xf7 xf8 xf9 k0 k1 k2 HCX CJ0 CJ2 CJ4 CJ3 BL8;have n0:W5.cell? ⟨kn,0,FZ⟩=G5 (FT aN N.length cN):=by simp[AV,(G6 HTR).nb]
   go_wp2_with (at_builtin;refine eP rfl _ _ rfl w.heap.size w.heap.size (FT aN N.length cN) _ N (OQ s.ws V) rfl rfl (G6 HTR).t (G6 CT9) (G6 HNL) (G6 HTR).below.size ?_);intro a6 c6 w6 ho6 hg6;have HFI:=G7 ((G6 HTR).note hg6 ho6);have m0:w6.cell? ⟨kn,0,FZ⟩=G5 (FT aN N.length cN):=hg6.cell n0 (fun e=>UY (G6 HTR).t (G6 HTR).nb (by decide) e.symm);have mf:w6.frozen? ⟨kn,0,FZ⟩=false:=by
    have:=(hg6.block kn (AB.1 (G6 HTR).nb).1 (fun e=>UY (G6 HTR).t (G6 HTR).nb (by decide) e.symm)).trans (G6 HTR).nb;simp[F8,this]
   clear ho6 hg6 n0;go_wp2_with fail;go_ret;exact⟨rfl,(G6 HFI).below,fun h=>absurd rfl h,fun _=>⟨ad,nd,cd,al,cl,bn,fn,bi,fi,(G5 ⟨g3,0,FZ⟩),(s.ws.length+1),a6,c6,by rw[G6 HSS];exact G6 HFI⟩⟩
 .go_wp2_with fail;go_ret;exact⟨rfl,(G6 HC2).below,fun _=>G6 HBE,fun h=>absurd h hE⟩
noncomputable def stP(p:Sv×List Nt)(x:GK):Sv×List Nt:=(eH p.1 x,p.2++OQ p.1.ws (YD p.1.tr x))
noncomputable def csP(s:Sv)(xs:List GK)(i:Nat):Sv×List Nt:=(xs.take i).foldl stP (s,[])
theorem qL(s:Sv)(xs:List GK):csP s xs 0=(s,[]):=by simp[csP]
theorem AA9(h:xs[i]?=G5 x):csP s xs (i+1)=stP (csP s xs i) x:=by
 unfold csP;rw[PO h,List.foldl_append];rfl
structure Chn(s:Sv)(xs:List GK)(k:Nat):Prop where
 le:k<=xs.length
 ok:∀i x,i<k->xs[i]?=G5 x->Y7 (csP s xs i).1.tr x=0
 stop:∀x,xs[k]?=G5 x->Y7 (csP s xs k).1.tr x≠0
structure BL9(s:Sv)(xs:List GK):Prop where
 wf:WfT s.tr
 sh:lN s.ws
 wl:s.ws.length*32<=140737488351232
 xd:∀x∈xs,x.d.length<=140737488355328
 xp:∀x∈xs,x.p.length<=140737488355328
theorem vU(ws:List Wa)(s:Int):(lK ws s).length<=ws.length:=List.length_filter_le _ _
theorem BW1(hB:BL9 s xs)(h:Chn s xs k):∀i,i<=k->
  (WfT (csP s xs i).1.tr/\lN (csP s xs i).1.ws/\(csP s xs i).2.length+(csP s xs i).1.ws.length<=s.ws.length)/\
  ((csP s xs i).1.up=s.up/\(csP s xs i).1.fs=s.fs/\(csP s xs i).1.id=s.id/\(csP s xs i).1.ep=s.ep/\(csP s xs i).1.ts=s.ts/\(csP s xs i).1.dn=s.dn):=by
 intro i
 induction i with
 |zero=>
  intro _;rw[qL];exact⟨⟨hB.wf,hB.sh,by simp⟩,rfl,rfl,rfl,rfl,rfl,rfl⟩
 |succ i ih=>
  intro hi;obtain⟨⟨a1,a2,a3⟩,b1,b2,b3,b4,b5,b6⟩:=ih (by omega);obtain⟨x,hx⟩:∃x,xs[i]?=G5 x:=⟨_,AL (by have:=h.le;omega)⟩;have h0:=h.ok i x (by omega) hx;rw[AA9 hx];generalize csP s xs i=c at*;have hl:=fV (YD c.1.tr x) c.1.ws;refine⟨⟨(ZT h0).1.wf,?_,?_⟩,b1,b2,b3,b4,b5,b6⟩
  .show lN (WS c.1 x);unfold WS
   split
   .exact fun y hy=>Z4 a2 _ y (EI.1 hy).1
   .exact Z4 a2 _
  .show (c.2++OQ c.1.ws (YD c.1.tr x)).length+(WS c.1 x).length<=s.ws.length;have:(WS c.1 x).length<=(LC c.1.ws (YD c.1.tr x)).length:=by
    unfold WS
    split
    .exact vU _ _
    .exact A8 _
   rw[AO];omega
theorem C42(hB:BL9 s xs)(h:Chn s xs k)(hi:i<=k)(hx:xs[i]?=G5 x):CFit (csP s xs i).1 (csP s xs i).2 x:=by
 obtain⟨⟨a1,a2,a3⟩,_⟩:=BW1 hB h i hi;have hm:=List.mem_of_getElem? hx;have:=hB.wl;exact⟨a1,hB.xd x hm,hB.xp x hm,a2,by omega,by omega⟩
def CU2(s:Sv)(t:GK)(safe:Bool)(E:Int)(s':Sv):Prop:=
 (t.z<=J3 s.ts/\E=13/\s'=sv0)\/(¬t.z<=J3 s.ts/\E≠0/\s'=sv0/\∃d1,NC 154 (fun x=>#[x,J7 t,.bool safe]) s.fs d1 E)\/
 (¬t.z<=J3 s.ts/\E=0/\∃d1,s'=⟨s.up,d1,s.id,s.ep,s.ts++[t],s.dn,s.tr,s.ws⟩/\YJ 154 (fun x=>#[x,J7 t,.bool safe]) s.fs d1 0)
def CK4(w:FV)(q:Nat)(s:Sv)(E:Int)(e:Ending)(w':FV):Prop:=
 ∃ad nd cd al nl cl an nn cn ai ni ci aw nw cw,e=.returned (.tuple #[.agg #[.bool s.up,FT ad nd cd,I0 s.id,I0 s.ep,FT al nl cl,I0 s.dn,I0 s.tr.z,FT an nn cn,FT ai ni ci,FT aw nw cw],I0 E])/\
  Hid (IQ w' (FT ad nd cd) s.fs/\NT w' (FT al nl cl) s.ts/\IE w' (FT an nn cn) s.tr.ns/\IE w' (FT ai ni ci) s.tr.ss/\UF (FT ai ni ci) q/\IE w' (FT aw nw cw) s.ws/\O7 w.heap.size (FT ai ni ci))/\B0 w w'
theorem nX{w':FV}{q:Nat}(he:e=.returned (.tuple #[svZ,I0 E]))(hb:B0 w w'):CK4 w q sv0 E e w':=
 ⟨FZ,0,0,FZ,0,0,FZ,0,0,FZ,0,0,FZ,0,0,he,G7 ⟨IQ.nil _,NT.nil _,IE.nil _,IE.nil _,vG _ _ _,IE.nil _,U7 _ _ _⟩,hb⟩
theorem MH[Lay α]{xs:List α}(h:H7 W B v xs):O7 B v:=by
 intro b off n c e;rcases h with⟨rfl,_⟩|⟨g,cap,rfl,hB,_⟩
 .simp at e
 .simp only[AP,BD,Addr.mk.injEq]at e;omega
def dK(w:FV)(s:Sv)(E:Int)(e:Ending)(w':FV):Prop:=
 ∃ad nd cd al nl cl an nn cn ai ni ci aw nw cw,e=.returned (.tuple #[.agg #[.bool s.up,FT ad nd cd,I0 s.id,I0 s.ep,FT al nl cl,I0 s.dn,I0 s.tr.z,FT an nn cn,FT ai ni ci,FT aw nw cw],I0 E])/\
  Hid (SvV w' (.agg #[.bool s.up,FT ad nd cd,I0 s.id,I0 s.ep,FT al nl cl,I0 s.dn,I0 s.tr.z,FT an nn cn,FT ai ni ci,FT aw nw cw]) s/\O7 w.heap.size (FT ai ni ci))/\B0 w w'
theorem JZ[Lay α]{F:Nat->Prop}{xs:List α}(h:H7 W B v xs)(ht:Touch F W V)(hf:∀k,v.ownBlock=G5 k->¬F k):H7 V B v xs:=by
 rcases h with h|⟨g,cap,rfl,hB,h⟩
 .exact .inl h
 .obtain⟨rest,h1,h2⟩:=h;have hlt:=(AB.1 h1).1;exact .inr ⟨g,cap,rfl,hB,rest,(ht.block g hlt (hf g rfl)).trans h1,h2⟩
theorem PI[Lay α]{xs:List α}(h:H7 W B v xs)(hk:v.ownBlock=G5 k):B<=k:=by
 rcases h with⟨rfl,_⟩|⟨g,cap,rfl,hB,_⟩
 .simp[DC]at hk
 .simp[DC]at hk;omega
def FrT(w:FV)(e:Ending):Prop:=∀x0 x1 x2 x3 x4 x5 x6 x7 x8 x9 z:FW,e=.returned (.tuple #[.agg #[x0,x1,x2,x3,x4,x5,x6,x7,x8,x9],z])->O7 w.heap.size x1/\O7 w.heap.size x4/\O7 w.heap.size x7/\O7 w.heap.size x9
theorem BW6{x0 x1 x2 x3 x4 x5 x6 x7 x8 x9 z:FW}(h:O7 w.heap.size x1/\O7 w.heap.size x4/\O7 w.heap.size x7/\O7 w.heap.size x9):FrT w (.returned (.tuple #[.agg #[x0,x1,x2,x3,x4,x5,x6,x7,x8,x9],z])):=by
 intro u0 u1 u2 u3 u4 u5 u6 u7 u8 u9 t e;simp only[Ending.returned.injEq,Value.tuple.injEq,Value.agg.injEq,Array.mk.injEq,List.cons.injEq]at e;obtain⟨⟨_,rfl,_,_,rfl,_,_,rfl,_,rfl,_⟩,_⟩:=e;exact h
theorem FrT.lower(h:FrT W e)(hw:w.heap.size<=W.heap.size):FrT w e:=fun _ _ _ _ _ _ _ _ _ _ _ he=>by
 obtain⟨h1,h2,h3,h4⟩:=h _ _ _ _ _ _ _ _ _ _ _ he;exact⟨h1.lower hw,h2.lower hw,h3.lower hw,h4.lower hw⟩
theorem AB6(he:e=.returned (.tuple #[svZ,I0 E])):FrT w e:=by
 rw[he];exact BW6 ⟨U7 _ _ _,U7 _ _ _,U7 _ _ _,U7 _ _ _⟩
theorem A17(s s':Sv)(t:GK)(safe:Bool)(E:Int)(hT:CU2 s t safe E s')(hp:t.p.length<=140737488355328)(hdl:t.d.length<=140737488355328)(hn:s.ts.length<=1000000000)(W w1:FV)(q:Nat)(hq:q<W.heap.size)
  (ad al an ai aw:Option Addr) (nd cd cl cn ci cw B1 B2:Nat) (h1:W.heap.size<=B1) (h2:B1<=B2) (od:H7 w1 W.heap.size (FT ad nd cd) s.fs) (_hd1:∀k,(Value.slice ad nd cd).ownBlock=G5 k->k<B1)
  (ol:H7 w1 B1 (FT al s.ts.length cl) s.ts) (hl2:∀k,(Value.slice al s.ts.length cl).ownBlock=G5 k->k<B2) (on:H7 w1 B2 (FT an s.tr.ns.length cn) s.tr.ns) (oi:H7 w1 B2 (FT ai s.tr.ss.length ci) s.tr.ss) (ow:H7 w1 B2 (FT aw s.ws.length cw) s.ws) (hb1:B0 W w1):
  FX prog 104 #[.agg #[.bool s.up,FT ad nd cd,I0 s.id,I0 s.ep,FT al s.ts.length cl,I0 s.dn,I0 s.tr.z,FT an s.tr.ns.length cn,FT ai s.tr.ss.length ci,FT aw s.ws.length cw],J7 t,.bool safe] w1 fun e w'=>CK4 W q s' E e w'/\FrT W e:=by
 have hd:=UU.1 od.seq;have hl:=OY.1 ol.seq;rcases hT with⟨hz,rfl,rfl⟩|⟨hz,hE,rfl,d1,G⟩|⟨hz,rfl,d1,rfl,G⟩
 .exact(B40 s.up s.id s.ep s.dn s.tr.z s.fs s.ts t safe _ _ an ai aw _ cn _ ci _ cw w1 hd hl hz).mono fun e w' h=>⟨nX h.1 (G9 hb1 h.2),AB6 h.1⟩
 .exact(C54 s.up s.id s.ep s.dn s.tr.z s.fs s.ts t safe _ _ an ai aw _ cn _ ci _ cw w1 hd hl hz E d1 hE G).mono fun e w' h=>⟨nX h.1 (G9 hb1 h.2),AB6 h.1⟩
 .refine(B42 s.up s.id s.ep s.dn s.tr.z s.fs s.ts t safe _ _ an ai aw _ cn _ ci _ cw w1 hd hl hz d1 W.heap.size hb1.size (ol.lower h1) hn hp hdl G).mono fun e w' h=>?_;obtain⟨⟨a,n,c,a2,c2,he,hd',ol',_,ht⟩,hfd⟩:=h;have hs:∀ {α:Type} [Lay α] {v:FW} {xs:List α},H7 w1 B2 v xs->H7 w' B2 v xs:=fun ho=>JZ ho ht (fun k hk hf=>by have:=PI ho hk;have:=hl2 k hf;omega);refine⟨⟨a,n,c,a2,_,c2,an,_,cn,ai,_,ci,aw,_,cw,he,G7 ⟨hd',OY.1 ol'.seq,(hs on).seq,(hs oi).seq,XU oi (by omega),(hs ow).seq,(MH oi).lower (by omega)⟩,?_⟩,?_⟩;rotate_left
  .have f1:=hfd _ _ _ _ _ _ _ _ _ _ _ he;rw[he];exact BW6 ⟨f1.lower hb1.size,MH ol',(MH on).lower (by omega),(MH ow).lower (by omega)⟩
  exact hb1.trans (ht.below (B:=W.heap.size) hb1.size (fun k hk=>by have:=PI ol hk;omega))
theorem A18(s s':Sv)(v:FW)(t:GK)(safe:Bool)(E:Int)(w:FV)(hv:SvV w v s)(hf:BV9 s)(hT:CU2 s t safe E s')(hp:t.p.length<=140737488355328)(hdl:t.d.length<=140737488355328)(hn:s.ts.length<=1000000000):
  FX prog 83 #[v,J7 t,.bool safe] w fun e w'=>dK w s' E e w'/\FrT w e:=by
 have CC:=G7 (fun W (hW:B0 w W)=>YW s v W (hv.next hW) hf);have CX:=G7 (A17 s s' t safe E hT hp hdl hn);obtain⟨ad,nd,cd,al,cl,an,cn,ai,ci,aw,cw,rfl,d1,l1,n1,s1,k1⟩:=hv.five;clear hv d1 l1 n1 s1 k1 hf hT hp hdl hn;obtain⟨up,fs,id,ep,ts,dn,⟨tz,tns,tss⟩,ws⟩:=s;obtain⟨z,o,s,p,d,y,u⟩:=t;unfold J7 at*;simp only at*;go_enter func83,ntmps83;go_upto_region 1 with fail;have X:=G7 (EB.start w up id ep dn tz (FT ad nd cd) (FT al ts.length cl) (FT an tns.length cn) (FT ai tss.length ci) (FT aw ws.length cw) ⟨z,o,s,p,d,y,u⟩);have HB0:=G7 (EB.AB5 w (FU #[.bool up,FT ad nd cd,I0 id,I0 ep,FT al ts.length cl,I0 dn,I0 tz,FT an tns.length cn,FT ai tss.length ci,FT aw ws.length cw] 61) (FU #[I0 z,I0 o,I0 s,S0 p,S0 d,I0 y,I0 u] 65) (FU #[.bool false,N0,I0 0,I0 0,N0,I0 0,I0 0,N0,N0,N0] 61));simp only at X;generalize ((w.alloc (FU #[.bool up,FT ad nd cd,I0 id,I0 ep,FT al ts.length cl,I0 dn,I0 tz,FT an tns.length cn,FT ai tss.length ci,FT aw ws.length cw] 61)).alloc (FU #[I0 z,I0 o,I0 s,S0 p,S0 d,I0 y,I0 u] 65)).alloc (FU #[.bool false,N0,I0 0,I0 0,N0,I0 0,I0 0,N0,N0,N0] 61)=W0 at*;have K1:∀V,B0 W0 V->V.cell? ⟨w.heap.size+1,0,FZ⟩=G5 (I0 z)/\V.cell? ⟨w.heap.size+1,1,FZ⟩=G5 (I0 o)/\V.cell? ⟨w.heap.size+1,2,FZ⟩=G5 (I0 s)/\V.cell? ⟨w.heap.size+1,3,FZ⟩=G5 (S0 p)/\V.cell? ⟨w.heap.size+1,4,FZ⟩=G5 (S0 d)/\V.cell? ⟨w.heap.size+1,5,FZ⟩=G5 (I0 y)/\V.cell? ⟨w.heap.size+1,6,FZ⟩=G5 (I0 u):=fun V hV=>by
  have h:=((G6 X).next hV).x;exact⟨h.c0,h.c1,h.c2,h.c3,h.c4,h.c5,h.c6⟩
 have HK1:=G7 K1;obtain⟨x0,x1,x2,x3,x4,x5,x6,x7,x8,x9⟩:=(G6 X).s.cells;obtain⟨e0,e1,e2,e3,e4,e5,e6⟩:=K1 W0 (AA _ _);have hq:=(G6 X).lt;clear K1
 go_region_with (first
  |(go_at_call 103;refine(G6 CC _ (G6 HB0).drew).mono ?_;rintro e w1 ⟨bd,md,fd,bl,fl,bn,fn,bi,fi,bw,fw,B1,B2,rfl,h1,h2,od,hd1,ol,hl2,on,oi,ow,hb1⟩;have HB1:=G7 (I9 hb1);obtain⟨m0,m1,m2,m3,m4,m5,m6⟩:=G6 HK1 _ (G6 HB1);have CY:=G7 (G6 CX _ _ (w.heap.size+1+1) (by show w.heap.size+1+1<W0.heap.size;omega) _ _ _ _ _ _ _ _ _ _ _ _ _ h1 h2 od hd1 ol hl2 on oi ow hb1);have X1:=G7 ((G6 X).next (G6 HB1));clear h1 h2 od hd1 ol hl2 on oi ow hb1)
  |(go_at_call 104;refine(G6 CY).mono ?_;rintro e w2 ⟨⟨gd,nd2,cd2,gl,nl2,cl2,gn,nn2,cn2,gi,ni2,ci2,gw,nw2,cw2,rfl,H2,hb2⟩,hft⟩;have HFT:=G7 hft;clear hft;have X2:=(G6 X).next (I9 hb2);have R2:=X2.r;obtain⟨r0,r1,r2,r3,r4,r5,r6,r7,r8,r9⟩:=R2.cells;have rf0:=R2.GX 0;have rf1:=R2.GX 1;have rf2:=R2.GX 2;have rf3:=R2.GX 3;have rf4:=R2.GX 4;have rf5:=R2.GX 5;have rf6:=R2.GX 6;have rf7:=R2.GX 7;have rf8:=R2.GX 8;have rf9:=R2.GX 9;have D2:=G7 R2.fJ;have HB2:=G7 (G9 (G6 HB0) (I9 hb2));clear hb2 R2 X2))
 all_goals
  go_wp2_with fail;refine bodyPost_ret (v:=.tuple #[.agg #[.bool s'.up,FT gd nd2 cd2,I0 s'.id,I0 s'.ep,FT gl nl2 cl2,I0 s'.dn,I0 s'.tr.z,FT gn nn2 cn2,FT gi ni2 ci2,FT gw nw2 cw2],I0 E]) (by simp[results,results83,go_sem,r0,r1,r2,r3,r4,r5,r6,r7,r8,r9]) rfl ?_;obtain⟨g1,g2,g3,g4,g5,g6,g7⟩:=G6 H2;exact⟨⟨gd,nd2,cd2,gl,nl2,cl2,gn,nn2,cn2,gi,ni2,ci2,gw,nw2,cw2,rfl,G7 ⟨aI (s:=s') (G6 D2) g1 g2 g3 g4 g5 g6,g7.lower (by show w.heap.size<=W0.heap.size;omega)⟩,JU (G6 HB2) (by omega) _ _ _ _ _ _ _ _ _ _⟩,(G6 HFT).lower (by show w.heap.size<=W0.heap.size;omega)⟩
theorem CB.dput(h:CB w W up vd id ep vl dn z vn vs vw)(q:Nat)(u:FW)(hq:w.heap.size+2<=q):CB w (W.setCell ⟨q,0,FZ⟩ u) up vd id ep vl dn z vn vs vw:=
 ⟨h.below.setCell (by simp only;omega) u,h.s.other (by omega),h.r.other (by omega)⟩
def CU4(l:List GK)(k:Nat)(z:Int):Prop:=(k=0/\z=-1)\/∃x,0<k/\l[k-1]?=G5 x/\z=x.z
theorem AN2(s:Sv)(v:FW)(vl:FW)(l:List GK)(epo:Int)(w:FV)(hv:SvV w v s)(hvl:NT w vl l)(hf:BV9 s)(hll:l.length<=1000000000)(hk:(KW s.ts l:Int)<s.dn):
  FX prog 62 #[v,vl,I0 epo] w (nT w 13):=by
 obtain⟨ad,nd,cd,al,cl,an,cn,ai,ci,aw,cw,rfl,d1,l1,n1,s1,k1⟩:=hv.five;have CC:=G7 (fun W (hW:B0 w W)=>nO _ vl s.ts l W (l1.next hW) (hvl.next hW) (by have:=hf.l;omega) (by omega));obtain⟨lb,lc,rfl⟩:=MF hvl;clear hv d1 l1 n1 s1 k1 hvl hf hll;obtain⟨up,fs,id,ep,ts,dn,⟨tz,tns,tss⟩,ws⟩:=s;simp only at*;generalize KW ts l=k at*;go_enter func62,ntmps62;go_wp2_with fail;have X0:=G7 (CB.start w up id ep dn tz (FT ad nd cd) (FT al ts.length cl) (FT an tns.length cn) (FT ai tss.length ci) (FT aw ws.length cw));generalize (w.alloc (FU #[.bool up,FT ad nd cd,I0 id,I0 ep,FT al ts.length cl,I0 dn,I0 tz,FT an tns.length cn,FT ai tss.length ci,FT aw ws.length cw] 61)).alloc (FU #[.bool false,N0,I0 0,I0 0,N0,I0 0,I0 0,N0,N0,N0] 61)=W0 at*;refine(G6 CC _ (G6 X0).below).mono ?_;rintro e w1 ⟨rfl,hb1⟩;have X1:=G7 ((G6 X0).next hb1);have x5:=(G6 X1).s.cells.2.2.2.2.2.1;clear hb1 X0 CC;obtain⟨r0,r1,r2,r3,r4,r5,r6,r7,r8,r9⟩:=(G6 X1).r.cells;have rf0:=(G6 X1).r.GX 0;have rf1:=(G6 X1).r.GX 1;have rf2:=(G6 X1).r.GX 2;have rf3:=(G6 X1).r.GX 3;have rf4:=(G6 X1).r.GX 4;have rf5:=(G6 X1).r.GX 5;have rf6:=(G6 X1).r.GX 6;have rf7:=(G6 X1).r.GX 7;have rf8:=(G6 X1).r.GX 8;have rf9:=(G6 X1).r.GX 9;go_wp2_with fail;exact bodyPost_ret (v:=.tuple #[.agg #[.bool false,N0,I0 0,I0 0,N0,I0 0,I0 0,N0,N0,N0],I0 13]) (by simp[results,results62,go_sem,r0,r1,r2,r3,r4,r5,r6,r7,r8,r9]) rfl (jX rfl (G6 X1).zero)
def RF(w W:FV)(s:Sv):Prop:=∃ad nd cd al nl cl an nn cn ai ni ci aw nw cw,CB w W s.up (FT ad nd cd) s.id s.ep (FT al nl cl) s.dn s.tr.z (FT an nn cn) (FT ai ni ci) (FT aw nw cw)/\UF (FT ai ni ci) (w.heap.size+1)/\
 SvV W (.agg #[.bool s.up,FT ad nd cd,I0 s.id,I0 s.ep,FT al nl cl,I0 s.dn,I0 s.tr.z,FT an nn cn,FT ai ni ci,FT aw nw cw]) s
theorem NT.take(h:NT w (FT a ts.length c) ts)(hk:k<=ts.length):NT w (FT a k c) (ts.take k):=by
 rcases h with⟨a',cap,e,rfl,hc⟩|⟨b,off,cap,e,h1,h2,h3,h0,h4⟩
 .simp only[AP]at e;obtain⟨rfl,_,rfl⟩:=e;obtain rfl:k=0:=by simpa using hk
  exact .inl ⟨a,c,rfl,by simp,hc⟩
 .simp only[AP]at e;obtain⟨rfl,_,rfl⟩:=e;by_cases k0:k=0
  .subst k0;exact .inl ⟨_,c,rfl,by simp,h2⟩
  .have hl:(ts.take k).length=k:=by simp;omega
   refine .inr ⟨b,off,c,by rw[hl],by omega,h2,h3,by intro e;rw[e]at hl;simp at hl;omega,fun j v hj=>h4 j v ?_⟩;have e:ts=ts.take k++ts.drop k:=(DU k ts).symm;rw[e,RI,List.getElem?_append_left (AU.1 hj).1];exact hj
theorem CB.OZ(h:CB w W up0 vd0 id0 ep0 vl0 dn0 z0 vn0 vs0 vw0)(up:Bool)(id ep dn z:Int)(vd vl vn vs vw:FW):
  CB w (Go.Proofs.YtnlikdglijgjpaaGreatDoor.OZ W w.heap.size (.bool up) vd (I0 id) (I0 ep) vl (I0 dn) (I0 z) vn vs vw) up vd id ep vl dn z vn vs vw:=by
 refine⟨JU h.below (A8 _) _ _ _ _ _ _ _ _ _ _,?_,?_⟩
 .unfold IJ Go.Proofs.YtnlikdglijgjpaaGreatDoor.OZ;rw[GU _ (GU _ (GU _ (GU _ (GU _ (GU _ (GU _ (GU _ (GU _ (GU _ h.s)))))))))];simp
 .unfold Go.Proofs.YtnlikdglijgjpaaGreatDoor.OZ;exact(IJ.other (IJ.other (IJ.other (IJ.other (IJ.other (IJ.other (IJ.other (IJ.other (IJ.other (IJ.other h.r (by omega)) (by omega)) (by omega)) (by omega)) (by omega)) (by omega)) (by omega)) (by omega)) (by omega)) (by omega))
theorem NT.drop{l:List GK}(h:NT w (FT a l.length c) l)(hk:k<=l.length):
  (c=k->NT w (FT a (l.length-k) 0) (l.drop k))/\(c≠k->NT w (FT (Option.map (fun x=>x.add (k*7)) a) (l.length-k) (c-k)) (l.drop k)):=by
 have hlen:(l.drop k).length=l.length-k:=by simp
 rcases h with⟨a',cap,e,rfl,hc⟩|⟨b,off,cap,e,h1,h2,h3,h0,h4⟩
 .simp only[AP]at e;obtain⟨rfl,_,rfl⟩:=e;exact⟨fun _=>.inl ⟨a,0,by simp,by simp,AY _⟩,fun _=>.inl ⟨Option.map (fun x=>x.add (k*7)) a,c-k,by simp,by simp,by omega⟩⟩
 .simp only[AP]at e;obtain⟨rfl,_,rfl⟩:=e;by_cases hd:l.drop k=[]
  .have h0':l.length-k=0:=by rw[<-hlen,hd];rfl
   exact⟨fun _=>.inl ⟨_,_,by rw[h0'],hd,by simp⟩,fun _=>.inl ⟨_,_,by rw[h0'],hd,by omega⟩⟩
  .have hlt:0<l.length-k:=by rw[<-hlen];exact List.length_pos_iff.2 hd
   refine⟨fun e=>by omega,fun _=>.inr ⟨b,off+k*7,c-k,by rw[hlen,Option.map_some,Addr.add_lit],by omega,by omega,h3,hd,fun j v hj=>?_⟩⟩;have e:KH l=KH (l.take k)++KH (l.drop k):=by rw[<-RI,DU]
   have hl7:(KH (l.take k)).length=k*7:=by rw[ZY];simp;omega
   have:=h4 (k*7+j) v (by rw[e,List.getElem?_append_right (by omega),hl7,Nat.add_sub_cancel_left];exact hj);rwa[<-Nat.add_assoc]at this
theorem CB.putE(h:CB w W up vd id ep vl dn z vn vs vw)(e:Int):CB w (W.setCell ⟨w.heap.size,3,FZ⟩ (I0 e)) up vd id e vl dn z vn vs vw:=by
 refine⟨h.below.setCell (by simp) _,?_,h.r.other (by omega)⟩;unfold IJ;rw[GU (I0 e) h.s];rfl
def kD(w:FV)(s:Sv)(N:List Nt)(E:Int)(e:Ending)(w':FV):Prop:=∃v a c,e=.returned (.tuple #[v,FT a N.length c,I0 E])/\SvV w' v s/\IE w' (FT a N.length c) N/\B0 w w'
theorem AN4{w':FV}(he:e=.returned (.tuple #[.agg #[.bool false,N0,I0 0,I0 0,N0,I0 0,I0 0,N0,N0,N0],N0,I0 E]))(hb:B0 w w'):kD w sv0 [] E e w':=
 ⟨_,FZ,0,he,SvV.zero w',IE.nil w',hb⟩
theorem BM8(hb:B0 w W)(hk:w.heap.size<=k):B0 w (OZ W k (.bool false) (N0) (I0 0) (I0 0) (N0) (I0 0) (I0 0) (N0) (N0) (N0)):=JU hb hk _ _ _ _ _ _ _ _ _ _
theorem BM9{lo hi:Nat}(h:NT w (FT a ts.length c) ts)(h1:lo<=hi)(h2:hi<=ts.length):
  (c=lo->NT w (FT a (hi-lo) 0) ((ts.drop lo).take (hi-lo)))/\(c≠lo->NT w (FT (Option.map (fun x=>x.add (lo*7)) a) (hi-lo) (c-lo)) ((ts.drop lo).take (hi-lo))):=by
 have hl:(ts.drop lo).length=ts.length-lo:=by simp
 obtain⟨d1,d2⟩:=h.drop (k:=lo) (by omega);rw[<-hl]at d1 d2;exact⟨fun e=>(d1 e).take (by omega),fun e=>(d2 e).take (by omega)⟩
theorem CI.done(h:CI w W ka kn kr s N vd vl vn vs vw vN)(n:Int):CI w (W.setCell ⟨ka,5,FZ⟩ (I0 n)) ka kn kr ⟨s.up,s.fs,s.id,s.ep,s.ts,n,s.tr,s.ws⟩ N vd vl vn vs vw vN:=by
 have b1:IJ (W.setCell ⟨ka,5,FZ⟩ (I0 n)) ka s.up vd s.id s.ep vl n s.tr.z vn vs vw:=GU (j:=5) _ h.box;refine⟨b1,(BF _ _ _ _ (Ne.symm h.ne)).trans h.nb,QC h.d h.box (by decide) _,QC h.l h.box (by decide) _,QC h.n h.box (by decide) _,QC h.i h.box (by decide) _,QC h.o h.box (by decide) _,QC h.t h.box (by decide) _,h.below.setCell h.ha _,h.ha,h.hn,h.ne,h.r.other h.r1,h.r1,h.r2,h.hr⟩
theorem dL[Lay α]{xs:List α}(h:H7 W B v xs)(hb:IJ W k up vd id ep vl dn z vn vs vw)(hne:61≠Lay.ty α)(x0 x1 x2 x3 x4 x5 x6 x7 x8 x9:FW):H7 (OZ W k x0 x1 x2 x3 x4 x5 x6 x7 x8 x9) B v xs:=by
 have hk:=aP h hb hne;unfold OZ;exact(((((((((h.other hk _).other hk _).other hk _).other hk _).other hk _).other hk _).other hk _).other hk _).other hk _).other hk _
theorem CI.out(h:CI w W ka kn kr s N vd vl vn vs vw vN)(x0 x1 x2 x3 x4 x5 x6 x7 x8 x9:FW):
  SvV (OZ W kr x0 x1 x2 x3 x4 x5 x6 x7 x8 x9) (.agg #[.bool s.up,vd,I0 s.id,I0 s.ep,vl,I0 s.dn,I0 s.tr.z,vn,vs,vw]) s/\IE (OZ W kr x0 x1 x2 x3 x4 x5 x6 x7 x8 x9) vN N/\B0 w (OZ W kr x0 x1 x2 x3 x4 x5 x6 x7 x8 x9):=
 ⟨⟨vd,vl,vn,vs,vw,rfl,UU.1 (dL h.d h.r (by decide) _ _ _ _ _ _ _ _ _ _).seq,OY.1 (dL h.l h.r (by decide) _ _ _ _ _ _ _ _ _ _).seq,(dL h.n h.r (by decide) _ _ _ _ _ _ _ _ _ _).seq,(dL h.i h.r (by decide) _ _ _ _ _ _ _ _ _ _).seq,(dL h.o h.r (by decide) _ _ _ _ _ _ _ _ _ _).seq⟩,(dL h.t h.r (by decide) _ _ _ _ _ _ _ _ _ _).seq,JU h.below h.hr _ _ _ _ _ _ _ _ _ _⟩
theorem BN0{w W1 w1:FV}{s:Sv}{ad al an ai aw:Option Addr}{nd cd cl cn ci cw:Nat}{bd bl bn bi bw:Option Addr}{md fd fl fn fi fw B1 B2:Nat}(h:CB w W1 s.up (FT ad nd cd) s.id s.ep (FT al s.ts.length cl) s.dn s.tr.z (FT an s.tr.ns.length cn) (FT ai s.tr.ss.length ci) (FT aw s.ws.length cw))
  (h1:W1.heap.size<=B1) (h2:B1<=B2) (od:H7 w1 W1.heap.size (FT bd md fd) s.fs) (ol:H7 w1 B1 (FT bl s.ts.length fl) s.ts) (on:H7 w1 B2 (FT bn s.tr.ns.length fn) s.tr.ns) (oi:H7 w1 B2 (FT bi s.tr.ss.length fi) s.tr.ss) (ow:H7 w1 B2 (FT bw s.ws.length fw) s.ws) (hb:B0 W1 w1):
  CI w ((w1.alloc (FU #[.bool s.up,FT bd md fd,I0 s.id,I0 s.ep,FT bl s.ts.length fl,I0 s.dn,I0 s.tr.z,FT bn s.tr.ns.length fn,FT bi s.tr.ss.length fi,FT bw s.ws.length fw] 61)).alloc (FU #[N0] 32)) w1.heap.size (w1.heap.size+1) (w.heap.size+1) s [] (FT bd md fd) (FT bl s.ts.length fl) (FT bn s.tr.ns.length fn) (FT bi s.tr.ss.length fi) (FT bw s.ws.length fw) (N0):=by
 have hz:=h.below.size;have hz1:=hb.size;have hr:=h.r.lt;have a1:=G8 w1 (FU #[.bool s.up,FT bd md fd,I0 s.id,I0 s.ep,FT bl s.ts.length fl,I0 s.dn,I0 s.tr.z,FT bn s.tr.ns.length fn,FT bi s.tr.ss.length fi,FT bw s.ws.length fw] 61);have a2:=G8 (w1.alloc (FU #[.bool s.up,FT bd md fd,I0 s.id,I0 s.ep,FT bl s.ts.length fl,I0 s.dn,I0 s.tr.z,FT bn s.tr.ns.length fn,FT bi s.tr.ss.length fi,FT bw s.ws.length fw] 61)) (FU #[N0] 32);have b:=G9 a1 a2;refine⟨(IJ.new w1 s.up s.id s.ep s.dn s.tr.z _ _ _ _ _).next a2,?_,(od.next b).lower hz,(ol.next b).lower (by omega),(on.next b).lower (by omega),(oi.next b).lower (by omega),(ow.next b).lower (by omega),.inl ⟨rfl,rfl⟩,G9 (G9 h.below hb) b,by omega,by omega,by omega,(h.r.next hb).next b,by omega,by omega,by omega⟩;have:=heap_alloc_new (w1.alloc (FU #[.bool s.up,FT bd md fd,I0 s.id,I0 s.ep,FT bl s.ts.length fl,I0 s.dn,I0 s.tr.z,FT bn s.tr.ns.length fn,FT bi s.tr.ss.length fi,FT bw s.ws.length fw] 61)) (FU #[N0] 32);rwa[show (w1.alloc (FU #[.bool s.up,FT bd md fd,I0 s.id,I0 s.ep,FT bl s.ts.length fl,I0 s.dn,I0 s.tr.z,FT bn s.tr.ns.length fn,FT bi s.tr.ss.length fi,FT bw s.ws.length fw] 61)).heap.size=w1.heap.size+1 by simp]at this
def FrS(w:FV)(e:Ending):Prop:=∀x0 x1 x2 x3 x4 x5 x6 x7 x8 x9 y z:FW,e=.returned (.tuple #[.agg #[x0,x1,x2,x3,x4,x5,x6,x7,x8,x9],y,z])->O7 w.heap.size x8/\O7 w.heap.size x1/\O7 w.heap.size x4/\O7 w.heap.size x7/\O7 w.heap.size x9/\O7 w.heap.size y
theorem CK5{x0 x1 x2 x3 x4 x5 x6 x7 x8 x9 y z:FW}(h:O7 w.heap.size x8/\O7 w.heap.size x1/\O7 w.heap.size x4/\O7 w.heap.size x7/\O7 w.heap.size x9/\O7 w.heap.size y):FrS w (.returned (.tuple #[.agg #[x0,x1,x2,x3,x4,x5,x6,x7,x8,x9],y,z])):=by
 intro u0 u1 u2 u3 u4 u5 u6 u7 u8 u9 t r e;simp only[Ending.returned.injEq,Value.tuple.injEq,Value.agg.injEq,Array.mk.injEq,List.cons.injEq]at e;obtain⟨⟨_,rfl,_,_,rfl,_,_,rfl,rfl,rfl,_⟩,rfl,_⟩:=e;exact h
theorem wC(s:Sv)(v:FW)(dN nN k:Nat)(xs:List GK)(w:FV)(hv:SvV w v s)(hf:BV9 s)(hdn:s.dn=dN)(h1:dN<=nN)(h2:nN<=s.ts.length)(hxs:xs=(s.ts.drop dN).take (nN-dN))(hC:Chn s xs k)(hB:BL9 s xs):
  FX prog 84 #[v,I0 nN] w fun e w'=>(k=xs.length->kD w ⟨(csP s xs k).1.up,(csP s xs k).1.fs,(csP s xs k).1.id,(csP s xs k).1.ep,(csP s xs k).1.ts,nN,(csP s xs k).1.tr,(csP s xs k).1.ws⟩ (csP s xs k).2 0 e w'/\FrS w e)/\(∀x,xs[k]?=G5 x->kD w sv0 [] (Y7 (csP s xs k).1.tr x) e w'):=by
 have CC:=G7 (fun W (hW:B0 w W)=>YW s v W (hv.next hW) hf);obtain⟨ad,nd,cd,al,cl,an,cn,ai,ci,aw,cw,rfl,d1,l1,n1,s1,k1⟩:=hv.five;have hxl:xs.length=nN-dN:=by rw[hxs];simp;omega
 have HLS:=G7 (fun W (hW:B0 w W)=>BM9 (l1.next hW) h1 h2);rw[<-hxs]at HLS;have hcl:s.ts.length<=cl/\cl<=9223372036854775807:=by
  rcases l1 with⟨_,_,e,e0,hm⟩|⟨_,_,_,e,h3,h4,_⟩
  .simp only[AP]at e;rw[e0]at e⊢;simp only[maxLen]at hm;simp;omega
  .simp only[AP]at e;simp only[maxLen]at h4;omega
 have hll:s.ts.length*72<=140737488355328:=hf.l;have HC:=G7 hC;have HBs:=G7 hB;have hkl:=hC.le;clear hv d1 l1 n1 s1 k1 hxs hC hB hf;have hdi:¬s.dn<0:=by omega
 have hni:¬ (nN:Int)<s.dn:=by omega
 have HDN:=G7 hdn;clear hdn;have hnl:¬ (nN:Int)>(s.ts.length:Int):=by omega
 go_enter func84,ntmps84;go_upto_region 1 with fail;have X1:=G7 (CB.start w s.up s.id s.ep s.dn s.tr.z (FT ad nd cd) (FT al s.ts.length cl) (FT an s.tr.ns.length cn) (FT ai s.tr.ss.length ci) (FT aw s.ws.length cw));generalize (w.alloc (FU #[.bool s.up,FT ad nd cd,I0 s.id,I0 s.ep,FT al s.ts.length cl,I0 s.dn,I0 s.tr.z,FT an s.tr.ns.length cn,FT ai s.tr.ss.length ci,FT aw s.ws.length cw] 61)).alloc (FU #[.bool false,N0,I0 0,I0 0,N0,I0 0,I0 0,N0,N0,N0] 61)=W1 at*;obtain⟨x0,x1,x2,x3,x4,x5,x6,x7,x8,x9⟩:=(G6 X1).s.cells;go_upto_region 4 with fail;go_wp2_with fail
 with_reducible refine(G6 CC _ (G6 X1).below).mono ?_
 rintro e w1 ⟨bd,md,fd,bl,fl,bn,fn,bi,fi,bw,fw,B1,B2,rfl,g1,g2,od,hd1,ol,hl2,on,oi,ow,hb1⟩;have CI0:=G7 (BN0 (G6 X1) g1 g2 od ol on oi ow hb1);have X2:=G7 (((G6 X1).next hb1).next (G9 (G8 w1 (FU #[.bool s.up,FT bd md fd,I0 s.id,I0 s.ep,FT bl s.ts.length fl,I0 s.dn,I0 s.tr.z,FT bn s.tr.ns.length fn,FT bi s.tr.ss.length fi,FT bw s.ws.length fw] 61)) (G8 (w1.alloc (FU #[.bool s.up,FT bd md fd,I0 s.id,I0 s.ep,FT bl s.ts.length fl,I0 s.dn,I0 s.tr.z,FT bn s.tr.ns.length fn,FT bi s.tr.ss.length fi,FT bw s.ws.length fw] 61)) (FU #[N0] 32))));clear g1 g2 od hd1 ol hl2 on oi ow hb1 X1 CC x0 x1 x2 x3 x4 x5 x6 x7 x8 x9;go_upto_region 7 with fail;generalize (w1.alloc (FU #[.bool s.up,FT bd md fd,I0 s.id,I0 s.ep,FT bl s.ts.length fl,I0 s.dn,I0 s.tr.z,FT bn s.tr.ns.length fn,FT bi s.tr.ss.length fi,FT bw s.ws.length fw] 61)).alloc (FU #[N0] 32)=W2 at*;generalize w1.heap.size+1=kn at*;generalize w1.heap.size=ka at*;have x4:=(G6 X2).s.cells.2.2.2.2.1;rw[G6 HDN]
 go_cut [41,42,43]from 36 (fun t41 t42 t43 wx=>∃la lcc,t41=FT la (nN-dN) lcc/\t42=I0 ((nN-dN:Nat):Int)/\t43=I0 0/\wx=W2/\Hid (∀W,B0 w W->NT W (FT la (nN-dN) lcc) xs))
 case first=>
  by_cases hlc:cl=dN
  .subst hlc;go_wp2_with fail
   all_goals go_meet
   all_goals exact⟨_,_,rfl,rfl,rfl,rfl,G7 fun W hW=>(G6 HLS W hW).1 (by first|rfl|trivial)⟩
  .go_wp2_with fail
   all_goals go_meet
   all_goals exact⟨_,_,rfl,rfl,rfl,rfl,G7 fun W hW=>(G6 HLS W hW).2 hlc⟩
 case rest=>
  obtain⟨la,lcc,rfl,rfl,rfl,rfl,HLX⟩:=hcut;rw[<-hxl]at HLX⊢;have HXL:=G7 hxl;have hx63:xs.length<=1000000000000000:=by omega
  clear HLS hxl h1 h2 hcl hll hdi hni hnl X2 x4;go_wp2_with fail
  go_loopg [43] xs.length (fun kx s43 wr=>∃i:Nat,s43=I0 i/\i<=k/\xs.length-i<=kx/\Hid (∃ad nd cd al cl an cn ai ci aw cw aN cN,CI w wr ka kn (w.heap.size+1) (csP s xs i).1 (csP s xs i).2 (FT ad nd cd) (FT al (csP s xs i).1.ts.length cl) (FT an (csP s xs i).1.tr.ns.length cn) (FT ai (csP s xs i).1.tr.ss.length ci) (FT aw (csP s xs i).1.ws.length cw) (FT aN (csP s xs i).2.length cN)))
  case atStart=>exact⟨0,rfl,AY _,A8 _,G7 (by rw[qL];exact⟨_,_,_,_,_,_,_,_,_,_,_,_,_,G6 CI0⟩)⟩
  case round=>
   obtain⟨i,rfl,hi,hgi,HI⟩:=hrel;by_cases hlt:i<xs.length
   .obtain⟨x,hx⟩:∃x,xs[i]?=G5 x:=⟨_,AL hlt⟩;obtain⟨ead,CR8,ecd,eal,ecl,ean,ecn,eai,eci,eaw,ecw,eaN,ecN,hci⟩:=G6 HI;obtain⟨b,o,c,he,hb,q,hq9⟩:=YU (G6 HLX wr hci.below) hx;simp only[AP]at he;obtain⟨rfl,he2,rfl⟩:=he;clear he2 hq9;have e0:=q.z hx;have e1:=q.o hx;have e2:=q.s hx;have e3:=q.p hx;have e4:=q.d hx;have e5:=q.v hx;have e6:=q.w hx;have hii:(i:Int)<(xs.length:Int):=by omega
    have hal:=G8 wr (FU #[I0 x.z,I0 x.o,I0 x.s,S0 x.p,S0 x.d,I0 x.v,I0 x.w] 65);have HC1:=G7 (A12 w _ ka kn (w.heap.size+1) (csP s xs i).1 (csP s xs i).2 x ead eal ean eai eaw eaN CR8 ecd ecl ecn eci ecw ecN (hci.next hal) (C42 (G6 HBs) (G6 HC) hi hx));have HT1:=TAt.new wr x;have HX:=G7 hx;have HR0:=G7 (hci.r.next hal);have HB1:=G7 (G9 hci.below hal);have t0:=HT1.c0;have t1:=HT1.c1;have t2:=HT1.c2;have t3:=HT1.c3;have t4:=HT1.c4;have t5:=HT1.c5;have t6:=HT1.c6;clear q hb hx hal HT1 hci HI;obtain⟨z,op,u,p,d,y,vv⟩:=x;unfold J7 at HC1;simp only at e0 e1 e2 e3 e4 e5 e6 t0 t1 t2 t3 t4 t5 t6;go_upto_region 10 with fail;generalize wr.alloc (FU #[I0 z,I0 op,I0 u,S0 p,S0 d,I0 y,I0 vv] 65)=W6 at*;generalize wr.heap.size=kx at*;clear e0 e1 e2 e3 e4 e5 e6;go_wp2_with fail;refine(G6 HC1).mono ?_;rintro e w7 ⟨rfl,hout⟩;have HO:=G7 hout;clear HC1 hout t0 t1 t2 t3 t4 t5 t6;have HX':=G6 HX;obtain⟨E,hE⟩:∃E,Y7 (csP s xs i).1.tr ⟨z,op,u,p,d,y,vv⟩=E:=⟨_,rfl⟩;rw[hE]at HO;rw[hE];by_cases hik:i<k
    .obtain rfl:E=0:=by rw[<-hE];exact(G6 HC).ok i _ hik HX'
     have HIN:Hid (∃ad nd cd al cl an cn ai ci aw cw aN cN,CI w w7 ka kn (w.heap.size+1) (csP s xs (i+1)).1 (csP s xs (i+1)).2 (FT ad nd cd) (FT al (csP s xs (i+1)).1.ts.length cl) (FT an (csP s xs (i+1)).1.tr.ns.length cn) (FT ai (csP s xs (i+1)).1.tr.ss.length ci) (FT aw (csP s xs (i+1)).1.ws.length cw) (FT aN (csP s xs (i+1)).2.length cN)):=G7 (by
      rw[AA9 HX'];simp only[stP,AO];exact(G6 HO).2.2 rfl)
     clear HO hE HX';go_wp2_with fail
     go_roundg (xs.length-(i+1))
     case measure=>omega
     case rel=>exact⟨i+1,rfl,by omega,A8 _,HIN⟩
    .obtain rfl:i=k:=by omega
     have hE0:E≠0:=by rw[<-hE];exact(G6 HC).stop _ HX'
     have HR7:=(G6 HR0).next ((G6 HO).2.1 hE0);have HBw:=G7 (BM8 (G6 HO).1 (show w.heap.size<=w.heap.size+1 by omega));unfold OZ at HBw;obtain⟨r0,r1,r2,r3,r4,r5,r6,r7,r8,r9⟩:=HR7.cells;have rf0:=HR7.GX 0;have rf1:=HR7.GX 1;have rf2:=HR7.GX 2;have rf3:=HR7.GX 3;have rf4:=HR7.GX 4;have rf5:=HR7.GX 5;have rf6:=HR7.GX 6;have rf7:=HR7.GX 7;have rf8:=HR7.GX 8;have rf9:=HR7.GX 9;have HE:=G7 hE;clear HR7 HO HR0 hE HX';go_wp2_with fail;refine bodyPost_ret (v:=.tuple #[.agg #[.bool false,N0,I0 0,I0 0,N0,I0 0,I0 0,N0,N0,N0],N0,I0 E]) (by simp[results,results84,go_sem,r0,r1,r2,r3,r4,r5,r6,r7,r8,r9]) rfl ?_;refine⟨fun h=>by omega,fun x' hx'=>?_⟩;rw[G6 HX]at hx'
     cases hx'
     rw[G6 HE];exact AN4 rfl (G6 HBw)
   .obtain rfl:i=k:=by omega
    have hik:i=xs.length:=by omega
    obtain⟨ead,CR8,ecd,eal,ecl,ean,ecn,eai,eci,eaw,ecw,eaN,ecN,hci⟩:=G6 HI;obtain⟨S,hS⟩:∃S,(csP s xs i).1=S:=⟨_,rfl⟩;obtain⟨NN,hNN⟩:∃NN,(csP s xs i).2=NN:=⟨_,rfl⟩;rw[hS,hNN]at hci;have HD:=G7 (hci.done nN);have HFR:=G7 (D8 (MH hci.i) (D8 (MH hci.d) (D8 (MH hci.l) (D8 (MH hci.n) (D8 (MH hci.o) (MH hci.t))))));have x5:=hci.box.cells.2.2.2.2.2.1;have xf5:=hci.box.GX 5;have HS:=G7 hS;have HNN:=G7 hNN;have HIK:=G7 hik;have hki:¬ ((i:Int)<(xs.length:Int)):=by omega
    clear hci HI hS hNN hik;go_upto_region 15 with fail;generalize wr.setCell ⟨ka,5,FZ⟩ (I0 nN)=W8 at*;clear x5 xf5;obtain⟨x0,x1,x2,x3,x4,x5,x6,x7,x8,x9⟩:=(G6 HD).box.cells;have n0:W8.cell? ⟨kn,0,FZ⟩=G5 (FT eaN NN.length ecN):=by simp[AV,(G6 HD).nb]
    obtain⟨r0,r1,r2,r3,r4,r5,r6,r7,r8,r9⟩:=(G6 HD).r.cells;have rf0:=(G6 HD).r.GX 0;have rf1:=(G6 HD).r.GX 1;have rf2:=(G6 HD).r.GX 2;have rf3:=(G6 HD).r.GX 3;have rf4:=(G6 HD).r.GX 4;have rf5:=(G6 HD).r.GX 5;have rf6:=(G6 HD).r.GX 6;have rf7:=(G6 HD).r.GX 7;have rf8:=(G6 HD).r.GX 8;have rf9:=(G6 HD).r.GX 9;have C59:=G7 ((G6 HD).out (.bool S.up) (FT ead CR8 ecd) (I0 S.id) (I0 S.ep) (FT eal S.ts.length ecl) (I0 nN) (I0 S.tr.z) (FT ean S.tr.ns.length ecn) (FT eai S.tr.ss.length eci) (FT eaw S.ws.length ecw));have hl1:=(G6 HD).box.lt;have hl2:=(G6 HD).r.lt;have HB8:=G7 (G6 HD).below;have hne1:w.heap.size+1≠ka:=(G6 HD).r1;have hne2:w.heap.size+1≠kn:=(G6 HD).r2;have hne3:ka≠w.heap.size+1:=fun h=>hne1 h.symm;have hne4:kn≠w.heap.size+1:=fun h=>hne2 h.symm;clear HD;simp only at x0 x1 x2 x3 x4 x5 x6 x7 x8 x9;unfold OZ at C59;go_region
    all_goals go_wp2_with fail
    all_goals refine bodyPost_ret (v:=.tuple #[.agg #[.bool S.up,FT ead CR8 ecd,I0 S.id,I0 S.ep,FT eal S.ts.length ecl,I0 nN,I0 S.tr.z,FT ean S.tr.ns.length ecn,FT eai S.tr.ss.length eci,FT eaw S.ws.length ecw],FT eaN NN.length ecN,I0 0]) (by simp[results,results84,go_sem,r0,r1,r2,r3,r4,r5,r6,r7,r8,r9]) rfl ?_
    all_goals rw[G6 HS,G6 HNN]
    all_goals refine fun _=>⟨⟨_,_,_,rfl,?_,?_,?_⟩,CK5 (G6 HFR)⟩
    all_goals first
     |exact(G6 C59).1.next ((AA _ _).drew)
     |exact(G6 C59).2.1.next ((AA _ _).drew)
     |exact(G6 C59).2.2.drew
     |exact(G6 C59).1
     |exact(G6 C59).2.1
     |exact(G6 C59).2.2
noncomputable def CU5(id:Int):Sv:=⟨true,[OU []],id,YH [],[],0,QI,[]⟩
theorem B45:nR 34 (fun x=>#[x]) [] [] [OU []] 0:=
 eU [] [OU []] 0 (fun v W hv=>by
  have h:=zJ v [] NU 7 W hv (JQ WV) (.inr ⟨WV,⟨[],[],qO _⟩,rfl⟩);exact h)
  (MR fun v W hv=>aF v [] [] [] NU [] W hv (JQ WV) WV aQ (by decide) (qO _) (by decide))
theorem B46(id:Int)(h0:0<=id)(h1:id<3)(w:FV):FX prog 19 #[I0 id,.agg #[N0]] w (aG w (CU5 id) 0):=
 AB4 (N0) [] [OU []] [] id w (IQ.nil w) (by intro f hf;simp at hf) h0 h1 B45
noncomputable def RZ(m:List GK)(i:Nat):Tr:=(m.take i).foldl iR QI
theorem WZ(m:List GK):RZ m 0=QI:=by simp[RZ]
theorem wJ{m:List GK}(h:m[i]?=G5 x):RZ m (i+1)=iR (RZ m i) x:=by
 unfold RZ;rw[PO h,List.foldl_append];rfl
theorem gK(m:List GK)(x:GK)(h:i<=m.length):RZ (m++[x]) i=RZ m i:=by
 unfold RZ;rw[List.take_append_of_le_length h]
theorem B47(xs:List GK):∀ (s:Sv) (N:List Nt),(xs.foldl stP (s,N)).1.tr=xs.foldl iR s.tr:=by
 induction xs with
 |nil=>intro s N;rfl
 |cons x xs ih=>
  intro s N;simp only[List.foldl_cons];exact ih (eH s x) _
structure CK7(s:Sv)(t:GK)(s':Sv):Prop where
 z:¬t.z<=J3 s.ts
 p:t.p.length<=140737488355328
 d:t.d.length<=140737488355328
 n:s.ts.length<=1000000000
 g:∃d1,s'=⟨s.up,d1,s.id,s.ep,s.ts++[t],s.dn,s.tr,s.ws⟩/\YJ 154 (fun x=>#[x,J7 t,.bool true]) s.fs d1 0
theorem A26(hf:BV9 s){d:List DF}(g:LP d)(e:Int)(k:Nat):BV9 ⟨s.up,d,s.id,e,s.ts.take k,s.dn,s.tr,s.ws⟩:=
 ⟨by have:=g.few;simp only;omega,JQ g,by have:=hf.l;simp only[List.length_take];omega,fun x hx=>hf.lf x (List.mem_of_mem_take hx),hf.n,hf.nf,hf.si,hf.wa,hf.wf⟩
theorem C61(h:∀W,B0 w W->NT W (FT a ts.length c) ts):ts.length<=c:=by
 rcases h w (AA _ _)with⟨a',cap,e,rfl,_⟩|⟨b,off,cap,e,h1,_⟩
 .simp
 .simp only[AP]at e;omega
def SF0(w W:FV)(s:Sv)(al:Option Addr)(cl:Nat)(an:Option Addr)(cn:Nat)(ai:Option Addr)(ci:Nat)(aw:Option Addr)(cw:Nat):Prop:=
 ∃ad nd cd,CB w W s.up (FT ad nd cd) s.id s.ep (FT al s.ts.length cl) s.dn s.tr.z (FT an s.tr.ns.length cn) (FT ai s.tr.ss.length ci) (FT aw s.ws.length cw)/\
 SvV W (.agg #[.bool s.up,FT ad nd cd,I0 s.id,I0 s.ep,FT al s.ts.length cl,I0 s.dn,I0 s.tr.z,FT an s.tr.ns.length cn,FT ai s.tr.ss.length ci,FT aw s.ws.length cw]) s
theorem SF0.next{al an ai aw:Option Addr}{cl cn ci cw:Nat}(h:SF0 w W s al cl an cn ai ci aw cw)(hb:B0 W V):SF0 w V s al cl an cn ai ci aw cw:=by
 obtain⟨ad,nd,cd,h1,h2⟩:=h;exact⟨ad,nd,cd,h1.next hb,h2.next hb⟩
theorem BN4{w P:FV}{s:Sv}{ts:List GK}{k:Nat}{ad ad0 al an ai aw:Option Addr}{nd cd nd0 cd0 cl cn ci cw:Nat}{ep0:Int}(h:CB w P s.up (FT ad0 nd0 cd0) s.id ep0 (FT al ts.length cl) s.dn s.tr.z (FT an s.tr.ns.length cn) (FT ai s.tr.ss.length ci) (FT aw s.ws.length cw))(hd:IQ P (FT ad nd cd) s.fs)
  (hs:(∀W,B0 w W->NT W (FT al ts.length cl) ts)/\(∀W,B0 w W->IE W (FT an s.tr.ns.length cn) s.tr.ns)/\(∀W,B0 w W->IE W (FT ai s.tr.ss.length ci) s.tr.ss)/\∀W,B0 w W->IE W (FT aw s.ws.length cw) s.ws) (hk:k<=ts.length) (ht:s.ts=ts.take k:=by rfl):
  SF0 w (((P.setCell ⟨w.heap.size,1,FZ⟩ (FT ad nd cd)).setCell ⟨w.heap.size,3,FZ⟩ (I0 s.ep)).setCell ⟨w.heap.size,4,FZ⟩ (FT al k cl)) s al cl an cn ai ci aw cw:=by
 have hlen:s.ts.length=k:=by rw[ht];simp;omega
 have hb:=((h.below.setCell (p:=⟨w.heap.size,1,FZ⟩) (by simp) (FT ad nd cd)).setCell (p:=⟨w.heap.size,3,FZ⟩) (by simp) (I0 s.ep)).setCell (p:=⟨w.heap.size,4,FZ⟩) (by simp) (FT al k cl);have u0:=h.s.fJ;have u1:bK (P.setCell ⟨w.heap.size,1,FZ⟩ (FT ad nd cd)) w.heap.size:=u0.set (by simp);have u2:bK ((P.setCell ⟨w.heap.size,1,FZ⟩ (FT ad nd cd)).setCell ⟨w.heap.size,3,FZ⟩ (I0 s.ep)) w.heap.size:=u1.set (by simp);refine⟨ad,nd,cd,by rw[hlen];exact((h.put 1 (FT ad nd cd) rfl).putE s.ep).put 4 (FT al k cl) rfl,_,_,_,_,_,rfl,SB (SB (SB hd u0 _) u1 _) u2 _,?_,hs.2.1 _ hb,hs.2.2.1 _ hb,hs.2.2.2 _ hb⟩;rw[hlen,ht];exact(hs.1 _ hb).take hk
def LF(w W:FV)(q:Nat)(s:Sv):Prop:=
 ∃ad nd cd al cl an cn ai ci aw cw,B0 w W/\IJ W (w.heap.size+1) false (N0) 0 0 (N0) 0 0 (N0) (N0) (N0)/\
  IJ W q s.up (FT ad nd cd) s.id s.ep (FT al s.ts.length cl) s.dn s.tr.z (FT an s.tr.ns.length cn) (FT ai s.tr.ss.length ci) (FT aw s.ws.length cw)/\w.heap.size+2<=q/\
  IQ W (FT ad nd cd) s.fs/\H7 W (w.heap.size+2) (FT al s.ts.length cl) s.ts/\H7 W (w.heap.size+2) (FT an s.tr.ns.length cn) s.tr.ns/\H7 W (w.heap.size+2) (FT ai s.tr.ss.length ci) s.tr.ss/\H7 W (w.heap.size+2) (FT aw s.ws.length cw) s.ws/\
  (∀k,(Value.slice al s.ts.length cl).ownBlock=G5 k->k≠q/\(Value.slice an s.tr.ns.length cn).ownBlock≠G5 k/\(Value.slice ai s.tr.ss.length ci).ownBlock≠G5 k/\(Value.slice aw s.ws.length cw).ownBlock≠G5 k)/\
  (Value.slice an s.tr.ns.length cn).ownBlock≠G5 q/\(Value.slice ai s.tr.ss.length ci).ownBlock≠G5 q/\(Value.slice aw s.ws.length cw).ownBlock≠G5 q
theorem V5[Lay α]{xs:List α}(h:H7 W B v xs)(hk:W.heap.size<=k):v.ownBlock≠G5 k:=fun e=>by have:=h.low k e;omega
theorem BN5{w W w1:FV}{s:Sv}{ad al an ai aw:Option Addr}{nd cd cl cn ci cw B1 B2:Nat}(hW:B0 w W)(hr:IJ W (w.heap.size+1) false (N0) 0 0 (N0) 0 0 (N0) (N0) (N0))(h1:W.heap.size<=B1)(h2:B1<=B2)
  (od:H7 w1 W.heap.size (FT ad nd cd) s.fs) (ol:H7 w1 B1 (FT al s.ts.length cl) s.ts) (hl2:∀k,(Value.slice al s.ts.length cl).ownBlock=G5 k->k<B2) (on:H7 w1 B2 (FT an s.tr.ns.length cn) s.tr.ns) (oi:H7 w1 B2 (FT ai s.tr.ss.length ci) s.tr.ss) (ow:H7 w1 B2 (FT aw s.ws.length cw) s.ws) (hb:B0 W w1):
  LF w (w1.alloc (FU #[.bool s.up,FT ad nd cd,I0 s.id,I0 s.ep,FT al s.ts.length cl,I0 s.dn,I0 s.tr.z,FT an s.tr.ns.length cn,FT ai s.tr.ss.length ci,FT aw s.ws.length cw] 61)) w1.heap.size s:=by
 have hl:=hr.lt;have hal:=G8 w1 (FU #[.bool s.up,FT ad nd cd,I0 s.id,I0 s.ep,FT al s.ts.length cl,I0 s.dn,I0 s.tr.z,FT an s.tr.ns.length cn,FT ai s.tr.ss.length ci,FT aw s.ws.length cw] 61);refine⟨ad,nd,cd,al,cl,an,cn,ai,ci,aw,cw,G9 (G9 hW hb) hal,(hr.next hb).next hal,IJ.new w1 s.up s.id s.ep s.dn s.tr.z _ _ _ _ _,by have:=hb.size;omega,UU.1 (od.next hal).seq,(ol.next hal).lower (by omega),(on.next hal).lower (by omega),(oi.next hal).lower (by omega),(ow.next hal).lower (by omega),fun k hk=>⟨?_,?_,?_,?_⟩,V5 on (A8 _),V5 oi (A8 _),V5 ow (A8 _)⟩
 .rintro rfl;exact V5 ol (A8 _) hk
 .intro e;have:=PI on e;have:=hl2 k hk;omega
 .intro e;have:=PI oi e;have:=hl2 k hk;omega
 .intro e;have:=PI ow e;have:=hl2 k hk;omega
theorem kF(h:IJ W k up0 vd0 id0 ep0 vl0 dn0 z0 vn0 vs0 vw0)(up:Bool)(id ep dn z:Int)(vd vl vn vs vw:FW):
  IJ (OZ W k (.bool up) vd (I0 id) (I0 ep) vl (I0 dn) (I0 z) vn vs vw) k up vd id ep vl dn z vn vs vw:=by
 unfold IJ at*;unfold OZ;rw[GU _ (GU _ (GU _ (GU _ (GU _ (GU _ (GU _ (GU _ (GU _ (GU _ h)))))))))];simp
theorem B48{q:Nat}(h:IJ W k up0 vd0 id0 ep0 vl0 dn0 z0 vn0 vs0 vw0)(hk:k≠q)(x0 x1 x2 x3 x4 x5 x6 x7 x8 x9:FW):IJ (OZ W q x0 x1 x2 x3 x4 x5 x6 x7 x8 x9) k up0 vd0 id0 ep0 vl0 dn0 z0 vn0 vs0 vw0:=by
 unfold OZ;exact(IJ.other (IJ.other (IJ.other (IJ.other (IJ.other (IJ.other (IJ.other (IJ.other (IJ.other (IJ.other h hk) hk) hk) hk) hk) hk) hk) hk) hk) hk)
theorem IJ.touch{F:Nat->Prop}(h:IJ W k up vd id ep vl dn z vn vs vw)(ht:Touch F W V)(hk:¬F k):IJ V k up vd id ep vl dn z vn vs vw:=(ht.block k h.lt hk).trans h
theorem C62{w W V:FV}{q:Nat}{s:Sv}{d1:List DF}{tn:List GK}{ad al an ai aw a a2:Option Addr}{nd cd cl cn ci cw n c c2:Nat}(hb:B0 w W)(hr:IJ W (w.heap.size+1) false (N0) 0 0 (N0) 0 0 (N0) (N0) (N0))
  (ha:IJ W q s.up (FT ad nd cd) s.id s.ep (FT al s.ts.length cl) s.dn s.tr.z (FT an s.tr.ns.length cn) (FT ai s.tr.ss.length ci) (FT aw s.ws.length cw)) (hq:w.heap.size+2<=q)
  (ol:H7 W (w.heap.size+2) (FT al s.ts.length cl) s.ts) (on:H7 W (w.heap.size+2) (FT an s.tr.ns.length cn) s.tr.ns) (oi:H7 W (w.heap.size+2) (FT ai s.tr.ss.length ci) s.tr.ss) (ow:H7 W (w.heap.size+2) (FT aw s.ws.length cw) s.ws)
  (sep:∀k,(Value.slice al s.ts.length cl).ownBlock=G5 k->k≠q/\(Value.slice an s.tr.ns.length cn).ownBlock≠G5 k/\(Value.slice ai s.tr.ss.length ci).ownBlock≠G5 k/\(Value.slice aw s.ws.length cw).ownBlock≠G5 k)
  (n1:(Value.slice an s.tr.ns.length cn).ownBlock≠G5 q) (n2:(Value.slice ai s.tr.ss.length ci).ownBlock≠G5 q) (n3:(Value.slice aw s.ws.length cw).ownBlock≠G5 q)
  (ht:Touch (fun k=>(Value.slice al s.ts.length cl).ownBlock=G5 k) W V) (D:IQ V (FT a n c) d1) (L:H7 V (w.heap.size+2) (FT a2 tn.length c2) tn) (hl:(Value.slice a2 tn.length c2).ownBlock=(Value.slice al s.ts.length cl).ownBlock\/∃k,(Value.slice a2 tn.length c2).ownBlock=G5 k/\W.heap.size<=k):
  IJ V q s.up (FT ad nd cd) s.id s.ep (FT al s.ts.length cl) s.dn s.tr.z (FT an s.tr.ns.length cn) (FT ai s.tr.ss.length ci) (FT aw s.ws.length cw)/\
  LF w (OZ V q (.bool s.up) (FT a n c) (I0 s.id) (I0 s.ep) (FT a2 tn.length c2) (I0 s.dn) (I0 s.tr.z) (FT an s.tr.ns.length cn) (FT ai s.tr.ss.length ci) (FT aw s.ws.length cw)) q ⟨s.up,d1,s.id,s.ep,tn,s.dn,s.tr,s.ws⟩:=by
 have ha':=ha.touch ht (fun e=>(sep q e).1 rfl);have hr':=hr.touch ht (fun e=>by have:=PI ol e;omega);have hqW:=ha.lt;have hb':=hb.trans (ht.below (B:=w.heap.size) hb.size (fun k hk=>by have:=PI ol hk;omega));have CU6:=JZ on ht (fun k hk hf=>(sep k hf).2.1 hk);have CU7:=JZ oi ht (fun k hk hf=>(sep k hf).2.2.1 hk);have keepW:=JZ ow ht (fun k hk hf=>(sep k hf).2.2.2 hk);have lq:(Value.slice a2 tn.length c2).ownBlock≠G5 q:=by
  intro e;rcases hl with h|⟨k,h,hk⟩
  .rw[h]at e;exact(sep q e).1 rfl
  .rw[h]at e;simp only[BD]at e;omega
 refine⟨ha',a,n,c,a2,c2,an,cn,ai,ci,aw,cw,JU hb' (by omega) _ _ _ _ _ _ _ _ _ _,B48 hr' (by omega) _ _ _ _ _ _ _ _ _ _,kF ha' _ _ _ _ _ _ _ _ _ _,hq,nU ha'.fJ D,WY L lq _ _ _ _ _ _ _ _ _ _,WY CU6 n1 _ _ _ _ _ _ _ _ _ _,WY CU7 n2 _ _ _ _ _ _ _ _ _ _,WY keepW n3 _ _ _ _ _ _ _ _ _ _,fun k hk=>?_,n1,n2,n3⟩;simp only at hk⊢;rcases hl with h|⟨k',h,hk'⟩
 .rw[h]at hk;exact sep k hk
 .rw[h]at hk;simp only[BD]at hk;subst hk;exact⟨by omega,V5 on hk',V5 oi hk',V5 ow hk'⟩
theorem B49(s:Sv)(v:FW)(vl:FW)(l:List GK)(epo:Int)(w:FV)(hv:SvV w v s)(hvl:NT w vl l)(hf:BV9 s)(hll:l.length<=1000000000)(ht:Z5 w)(hk:¬ (KW s.ts l:Int)<s.dn)(z:Int)(d2 d3:List DF)(hz:CU4 l (KW s.ts l) z)(G:NC 101 (fun g=>#[g,I0 z]) s.fs d2 0)(R:kC 102 (fun g=>#[g,I0 epo]) d2 d3 0)(gd:LP d3)(st:Nat->Sv)(h0:st 0=⟨s.up,d3,s.id,epo,s.ts.take (KW s.ts l),s.dn,s.tr,s.ws⟩)(HT:∀i x,(l.drop (KW s.ts l))[i]?=G5 x->CK7 (st i) x (st (i+1))):
  FX prog 62 #[v,vl,I0 epo] w (dK w (st (l.drop (KW s.ts l)).length) 0):=by
 obtain⟨ad,nd,cd,al,cl,an,cn,ai,ci,aw,cw,rfl,d1,l1,n1,s1,k1⟩:=hv.five;have CC:=G7 (fun W (hW:B0 w W)=>nO _ vl s.ts l W (l1.next hW) (hvl.next hW) (by have:=hf.l;omega) (by omega));have HG:=G7 (fun W (hW:B0 w W)=>G _ W (d1.next hW));have HLR:=G7 (fun(j:Nat) (x:GK) (hx:l[j]?=G5 x) W (hW:B0 w W)=>YU (hvl.next hW) hx);obtain⟨lb,lc,rfl⟩:=MF hvl;have HR:=G7 R;have HTK:=G7 HT;have HLV:=G7 (fun W (hW:B0 w W)=>hvl.next hW);have HS0:=G7 (D8 (fun W (hW:B0 w W)=>l1.next hW) (D8 (fun W (hW:B0 w W)=>n1.next hW) (D8 (fun W (hW:B0 w W)=>s1.next hW) (fun W (hW:B0 w W)=>k1.next hW))));have HFit:=G7 (A26 hf gd epo (KW s.ts l));have HTab:=G7 (fun W (hW:B0 w W)=>ht.next hW);clear hv d1 l1 n1 s1 k1 hvl hf G R ht HT gd;obtain⟨up,fs,id,ep,ts,dn,⟨tz,tns,tss⟩,ws⟩:=s;simp only at*;go_enter func62,ntmps62;go_wp2_with fail;have X0:=G7 (CB.start w up id ep dn tz (FT ad nd cd) (FT al ts.length cl) (FT an tns.length cn) (FT ai tss.length ci) (FT aw ws.length cw));generalize (w.alloc (FU #[.bool up,FT ad nd cd,I0 id,I0 ep,FT al ts.length cl,I0 dn,I0 tz,FT an tns.length cn,FT ai tss.length ci,FT aw ws.length cw] 61)).alloc (FU #[.bool false,N0,I0 0,I0 0,N0,I0 0,I0 0,N0,N0,N0] 61)=W0 at*;refine(G6 CC _ (G6 X0).below).mono ?_;rintro e w1 ⟨rfl,hb1⟩;have X1:=G7 ((G6 X0).next hb1);have x5:=(G6 X1).s.cells.2.2.2.2.2.1;clear hb1 X0 CC;have x1:=(G6 X1).s.cells.2.1;have hkl:=(WT ts l).2;have hkt:=(WT ts l).1;generalize KW ts l=k at*;have hnk:¬ ((k:Int)<dn):=by omega
 go_upto_if 27 with fail
 go_cut [9]from 15 (fun t9 wx=>t9=I0 z/\wx=w1)
 case first=>
  rcases hz with⟨rfl,rfl⟩|⟨x,hk0,hx,rfl⟩
  .go_wp2_with fail
   go_meet
   exact⟨rfl,rfl⟩
  .obtain⟨m,rfl⟩:∃m,k=m+1:=⟨k-1,by omega⟩;simp only[Nat.add_sub_cancel]at hx;obtain⟨b,o,c,he,hb,q,hm1,_⟩:=G6 HLR m x hx w1 (G6 X1).below;simp only[AP]at he;obtain⟨rfl,_,rfl⟩:=he;have e0:=q.z hx;generalize x.z=z at*;have i1:(m:Int)<(l.length:Int):=by omega
   have i2:(0:Int)<((m+1:Nat):Int):=by omega
   have i3:IntKind.i64.wrap (((m+1:Nat):Int)-1)=(m:Int):=by rw[IntKind.wrap_i64];omega
   have i4:(((m+1:Nat):Int)-1)=(m:Int):=by omega
   clear q hx;go_wp2_with fail
   go_meet
   exact⟨rfl,rfl⟩
 case rest=>
  obtain⟨rfl,rfl⟩:=hcut;clear HLR;go_wp2_with fail;refine(G6 HG _ (G6 X1).below).mono ?_;rintro e w2 ⟨a2,n2,c2,rfl,D2,hb2⟩;have hal:=G8 w2 (FU #[FT a2 n2 c2] 51);have X2:=G7 (((G6 X1).next hb2).next hal);have A2:=G7 (KJ.new w2 (FT a2 n2 c2));have F2:=G7 ((G6 D2).next hal);have Q2:=G7 (show w.heap.size+2<=w2.heap.size from((G6 X1).next hb2).lt);clear hb2 hal X1 D2 HG x1 x5;have ca:=(G6 A2).c;have fa:=(G6 A2).f;go_wp2_with fail;generalize w2.heap.size=q2 at*;generalize w2.alloc (FU #[FT a2 n2 c2] 51)=W2 at*;refine(G6 HR _ _ (G6 HTab _ (G6 X2).below) (G6 F2)).mono ?_;rintro e w3 ⟨a3,n3,c3,rfl,D3,hb3⟩;have X3:=(G6 X2).next hb3;have A3:=(G6 A2).next hb3;have ca3:=A3.c;have fa3:=A3.f;have Y3:=X3.dput q2 (FT a3 n3 c3) (by have:=G6 Q2;omega);have E3:=QD (G6 D3) A3 (FT a3 n3 c3);have B3:=A3.set (FT a3 n3 c3);have HX3:=G7 Y3;have HD3:=G7 E3;have HA3:=G7 B3;clear hb3 X2 A2 F2 D3 X3 A3 Y3 E3 B3 HR ca fa;go_upto_region 13 with fail;generalize w3.setCell ⟨q2,0,FZ⟩ (FT a3 n3 c3)=W3 at*;clear ca3 fa3;have hcap:ts.length<=cl:=C61 (G6 HS0).1;have ca5:=(G6 HA3).c;have x4:=(G6 HX3).s.cells.2.2.2.2.1;have x1:=(G6 HX3).s.cells.2.1;have x3:=(G6 HX3).s.cells.2.2.2.1;have xf1:=(G6 HX3).s.GX 1;have xf3:=(G6 HX3).s.GX 3;have xf4:=(G6 HX3).s.GX 4;have hnq:q2≠w.heap.size:=by have:=G6 Q2;omega
  have k0:(0:Int)<=(k:Int):=by omega
  have kk1:(k:Int)<=(cl:Int):=by omega
  have k2:k<=cl:=by omega
  have RF4:=G7 (BN4 (s:=⟨up,d3,id,epo,ts.take k,dn,⟨tz,tns,tss⟩,ws⟩) (G6 HX3) (G6 HD3) (G6 HS0) hkt)
  go_cut [14]from 16 (fun _ wx=>Hid (SF0 w wx ⟨up,d3,id,epo,ts.take k,dn,⟨tz,tns,tss⟩,ws⟩ al cl an cn ai ci aw cw))
  case first=>
   go_region
   all_goals go_wp2_with fail
   all_goals go_meet
   all_goals exact G7 ((G6 RF4).next (AA _ _).drew)
  case rest=>
   have HRF:=hcut;clear hcut RF4 ca5 x4 x1 x3 xf1 xf3 xf4 HX3 HD3 HA3;generalize ts.take k=tk at*;obtain⟨ad4,nd4,cd4,CB4,SV4⟩:=G6 HRF;simp only at CB4 SV4;obtain⟨x0,x1,x2,x3,x4,x5,x6,x7,x8,x9⟩:=CB4.s.cells;have CPY:=G7 (YW (⟨up,d3,id,epo,tk,dn,⟨tz,tns,tss⟩,ws⟩:Sv) _ wc SV4 (G6 HFit));have HBR:=G7 (D8 CB4.below CB4.r);clear SV4 CB4 HRF HFit HS0;go_wp2_with fail;refine(G6 CPY).mono ?_;rintro e w5 ⟨bd,md,fd,bl,fl,bn,fn,bi,fi,bw,fw,B1,B2,rfl,h1,h2,od,hd1,ol,hl2,on,oi,ow,hb5⟩;simp only at od ol hl2 on oi ow;have LF5:=G7 (BN5 (s:=(⟨up,d3,id,epo,tk,dn,⟨tz,tns,tss⟩,ws⟩:Sv)) (G6 HBR).1 (G6 HBR).2 h1 h2 od ol hl2 on oi ow hb5);simp only at LF5;clear h1 h2 od hd1 ol hl2 on oi ow hb5 HBR CPY x0 x1 x2 x3 x4 x5 x6 x7 x8 x9;go_upto_region 15 with fail;generalize w5.heap.size=q5 at*;generalize w5.alloc (FU #[.bool up,FT bd md fd,I0 id,I0 epo,FT bl tk.length fl,I0 dn,I0 tz,FT bn tns.length fn,FT bi tss.length fi,FT bw ws.length fw] 61)=W5 at*
   go_cut [71,72,73]from 15 (fun t71 t72 t73 wx=>∃la lcc,t71=FT la (l.length-k) lcc/\t72=I0 ((l.length-k:Nat):Int)/\t73=I0 0/\wx=W5/\Hid (∀W,B0 w W->NT W (FT la (l.length-k) lcc) (l.drop k)))
   case first=>
    by_cases hlc:lc=k
    .subst hlc;go_wp2_with fail
     all_goals go_meet
     all_goals exact⟨_,_,rfl,rfl,rfl,rfl,G7 fun W hW=>((G6 HLV W hW).drop hkl).1 rfl⟩
    .go_wp2_with fail
     all_goals go_meet
     all_goals exact⟨_,_,rfl,rfl,rfl,rfl,G7 fun W hW=>((G6 HLV W hW).drop hkl).2 hlc⟩
   case rest=>
    obtain⟨la,lcc,rfl,rfl,rfl,rfl,HLD⟩:=hcut;clear HLV hcap hnq k0 kk1 k2 hkt;go_wp2_with fail
    go_loopg [73] (l.length-k) (fun kx s73 wr=>∃i:Nat,s73=I0 i/\i<=l.length-k/\l.length-k-i<=kx/\Hid (LF w wr q5 (st i)))
    case atStart=>exact⟨0,rfl,AY _,by omega,G7 (by rw[h0];exact G6 LF5)⟩
    case round=>
     obtain⟨i,rfl,hi,hgi,hR⟩:=hrel;by_cases hlt:i<l.length-k
     .clear h0 LF5;obtain⟨x,hx⟩:∃x,(l.drop k)[i]?=G5 x:=⟨_,AL (by simp;omega)⟩;obtain⟨gad,gnd,gcd,gal,gcl,gan,gcn,gai,gci,gaw,gcw,hbw,hr,ha,hq,hd,ol,on,oi,ow,sep,n1,n2,n3⟩:=G6 hR;obtain⟨b,o,c,he,hb,q,hq9⟩:=YU (G6 HLD wr hbw) hx;simp only[AP]at he;obtain⟨rfl,he2,rfl⟩:=he;clear he2 hq9;have e0:=q.z hx;have e1:=q.o hx;have e2:=q.s hx;have e3:=q.p hx;have e4:=q.d hx;have e5:=q.v hx;have e6:=q.w hx;obtain⟨tz',tp',td',tn',d1,hst,G⟩:=G6 HTK i x hx;obtain⟨xz,xo,xs,xp,xd,xv,xw⟩:=x;have hal:=G8 wr (FU #[I0 xz,I0 xo,I0 xs,S0 xp,S0 xd,I0 xv,I0 xw] 65);have CT:=G7 (CK3 (st i).up (st i).id (st i).ep (st i).dn (st i).tr.z (st i).fs (st i).ts (⟨xz,xo,xs,xp,xd,xv,xw⟩:GK) true (FT gad gnd gcd) (FT gal (st i).ts.length gcl) gan gai gaw (st i).tr.ns.length gcn (st i).tr.ss.length gci (st i).ws.length gcw _ (hd.next hal) (OY.1 (ol.next hal).seq) tz' d1 (w.heap.size+2) (by have:=ha.lt;have:=hal.size;omega) (ol.next hal) tn' tp' td' G);unfold J7 at CT;simp only at e0 e1 e2 e3 e4 e5 e6 CT;have LS:=G7 (fun V a n c a2 c2 (tn:List GK) (T:Touch _ _ V) (D:IQ V (FT a n c) d1) (L:H7 V (w.heap.size+2) (FT a2 tn.length c2) tn) hl=>C62 (s:=(st i)) (G9 hbw hal) (hr.next hal) (ha.next hal) hq (ol.next hal) (on.next hal) (oi.next hal) (ow.next hal) sep n1 n2 n3 T D L hl);obtain⟨x0,x1,x2,x3,x4,x5,x6,x7,x8,x9⟩:=(ha.next hal).cells;have C16:(i:Int)<((l.length-k:Nat):Int):=by omega
      clear q hx hal hbw hr ha hd ol on oi ow sep n1 n2 n3 hR tz' tp' td' tn' G;go_wp2_with fail;generalize wr.alloc (FU #[I0 xz,I0 xo,I0 xs,S0 xp,S0 xd,I0 xv,I0 xw] 65)=W6 at*;refine(G6 CT).mono ?_;rintro e w7 ⟨a7,n7,c7,b7,f7,rfl,D7,L7,hl7,T7⟩;obtain⟨HA7,LF7⟩:=G6 LS w7 a7 n7 c7 b7 f7 ((st i).ts++[(⟨xz,xo,xs,xp,xd,xv,xw⟩:GK)]) T7 D7 L7 hl7;rw[<-hst]at LF7;generalize (st i).ts++[(⟨xz,xo,xs,xp,xd,xv,xw⟩:GK)]=tn at*;have HLF7:=G7 LF7;clear x0 x1 x2 x3 x4 x5 x6 x7 x8 x9;obtain⟨x0,x1,x2,x3,x4,x5,x6,x7,x8,x9⟩:=HA7.cells;have xf0:=HA7.GX 0;have xf1:=HA7.GX 1;have xf2:=HA7.GX 2;have xf3:=HA7.GX 3;have xf4:=HA7.GX 4;have xf5:=HA7.GX 5;have xf6:=HA7.GX 6;have xf7:=HA7.GX 7;have xf8:=HA7.GX 8;have xf9:=HA7.GX 9;clear LF7 D7 L7 hl7 T7 HA7 LS CT hst e0 e1 e2 e3 e4 e5 e6;unfold OZ at HLF7;go_wp2_with fail
      go_roundg (l.length-k-(i+1))
      case measure=>omega
      case rel=>exact⟨i+1,rfl,by omega,A8 _,HLF7⟩
     .obtain rfl:i=l.length-k:=by omega
      obtain⟨gad,gnd,gcd,gal,gcl,gan,gcn,gai,gci,gaw,gcw,hbw,hr,ha,hq,hd,ol,on,oi,ow,sep,n1,n2,n3⟩:=G6 hR;obtain⟨x0,x1,x2,x3,x4,x5,x6,x7,x8,x9⟩:=ha.cells;obtain⟨r0,r1,r2,r3,r4,r5,r6,r7,r8,r9⟩:=hr.cells;have rf0:=hr.GX 0;have rf1:=hr.GX 1;have rf2:=hr.GX 2;have rf3:=hr.GX 3;have rf4:=hr.GX 4;have rf5:=hr.GX 5;have rf6:=hr.GX 6;have rf7:=hr.GX 7;have rf8:=hr.GX 8;have rf9:=hr.GX 9;have PN:=G7 (aI (s:=st (l.length-k)) hr.fJ hd (OY.1 ol.seq) on.seq oi.seq (XU oi (by omega)) ow.seq);have HB9:=G7 hbw;have FR9:=G7 (MH oi);have hdl:(l.drop k).length=l.length-k:=by simp
      clear hbw hr ha hd ol on oi ow sep n1 n2 n3 hR;go_wp2_with fail;refine bodyPost_ret (v:=.tuple #[.agg #[.bool (st (l.length-k)).up,FT gad gnd gcd,I0 (st (l.length-k)).id,I0 (st (l.length-k)).ep,FT gal (st (l.length-k)).ts.length gcl,I0 (st (l.length-k)).dn,I0 (st (l.length-k)).tr.z,FT gan (st (l.length-k)).tr.ns.length gcn,FT gai (st (l.length-k)).tr.ss.length gci,FT gaw (st (l.length-k)).ws.length gcw],I0 0]) (by simp[results,results62,go_sem,r0,r1,r2,r3,r4,r5,r6,r7,r8,r9]) rfl ?_;rw[hdl];exact⟨gad,gnd,gcd,gal,_,gcl,gan,_,gcn,gai,_,gci,gaw,_,gcw,rfl,G7 ⟨G6 PN,(G6 FR9).lower (by omega)⟩,JU (G6 HB9) (by omega) _ _ _ _ _ _ _ _ _ _⟩
def Y8(e:Int):DF:=⟨JG,QJ (KY e 0),[]⟩
theorem BW8:bl JG NU=true:=by decide
theorem dM(s t:List UInt8):Gap [⟨NU,s,t⟩] [] [⟨NU,s,t⟩] JG:=⟨rfl,by simp,by simp[BW8]⟩
theorem aU(a b s t:List UInt8):There [⟨JG,a,b⟩,⟨NU,s,t⟩] [] ⟨JG,a,b⟩ [⟨NU,s,t⟩] JG:=(dM s t).ins (f':=⟨JG,a,b⟩) rfl
theorem kG(a b s t:List UInt8):There [⟨JG,a,b⟩,⟨NU,s,t⟩] [⟨JG,a,b⟩] ⟨NU,s,t⟩ [] NU:=⟨rfl,rfl,by simp[BW8],by simp⟩
theorem TG{a b s t:List UInt8}(h1:a.length+b.length<=1048576)(h2:s.length+t.length<=1048576):LP [⟨JG,a,b⟩,⟨NU,s,t⟩]:=
 qA (aS h2) (dM s t) YT (by simp) (f':=⟨JG,a,b⟩) rfl h1
theorem C63{m:List GK}{e:Int}(he:zIn e=true)(hm:(IB m).length<=1048576):kC 102 (fun x=>#[x,I0 e]) [OU m] [Y8 e,OU m] 0:=by
 have hx:=ZX (KY e 0);have g0:LP [OU m]:=aS (by simpa using hm);have g1:LP [⟨JG,[],QJ (KY e 0)⟩,OU m]:=TG (by simp;omega) (by simpa using hm);refine A22 [OU m] [] [⟨JG,[],QJ (KY e 0)⟩,OU m] [Y8 e,OU m] e 7 0 (TP he (by decide)).2 (by decide) (uU fun v W hv=>?_) (MR fun v W hv=>?_) (MR fun v W hv=>?_)
 .exact AY1 v [OU m] JG 7 W hv (JQ g0) (.inr ⟨g0,⟨_,_,dM (IB m) []⟩,rfl⟩)
 .exact aF v [OU m] [] [OU m] JG (QJ (KY e 0)) W hv (JQ g0) g0 YT (by simp) (dM (IB m) []) (by omega)
 .have:=XQ v _ [] [OU m] ⟨JG,[],QJ (KY e 0)⟩ JG W hv (JQ g1) g1 (aU [] (QJ (KY e 0)) (IB m) []);simpa [Y8]using this
theorem C64(h:Logs ts){j:Nat}(hx:ts[j]?=G5 x):SQ x.z ts=ts.take (j+1):=by
 obtain⟨hj,hxe⟩:=AU.1 hx;have hr:=List.pairwise_iff_getElem.1 h.rise;unfold SQ;have p1:∀t∈ts.take (j+1),decide (t.z<=x.z)=true:=by
  intro t ht;obtain⟨i,hi,rfl⟩:=List.getElem_of_mem ht;have hi':i<j+1:=by simp at hi;omega
  simp only[List.getElem_take,decide_eq_true_eq];rw[<-hxe];by_cases e:i=j
  .subst e;exact Int.le_refl _
  .have:=hr i j (by omega) hj (by omega);omega
 have e0:=List.takeWhile_append_of_pos (l₂:=ts.drop (j+1)) p1;rw[DU]at e0;rw[e0]
 cases hd:ts.drop (j+1)with
 |nil=>simp
 |cons y r=>
  have hy:ts[j+1]?=G5 y:=by
   have:=congrArg (fun l=>l[0]?) hd;simpa using this
  obtain⟨hk,rfl⟩:=AU.1 hy;have:=hr j (j+1) hj hk (by omega);rw[hxe]at this;rw[List.takeWhile_cons_of_neg (by simp;omega),DN]
theorem BN7{d:List GK}(h:d[i]?=G5 x):d=d.take i++x::d.drop (i+1):=by
 obtain⟨hk,rfl⟩:=AU.1 h;simp
theorem kV{α:Type}[Lay α]{w:FV}{ops:Array Oper}{rest:List Oper}{o:Oper}{a:Act}{Q:Exit->Act->FV->Prop}(hgd:o.guard=FZ)(s x:Operand)(T:TypeId)
  (ho:o.op=.call {callee:=.builtin .append,args:=#[s,x],argTypes:=#[T,T]})
  (i0:TypeInfo) (z:FW) (bytes:Nat) (hU:prog.underlying T=G5 (.slice (Lay.ty α))) (hi0:prog.info? (Lay.ty α)=G5 i0) (hz0:i0.zero=G5 z) (hz1:i0.size=Lay.k α) (hz2:i0.bytes=bytes) (hzs:z.cells.size=Lay.k α) (hk0:0<Lay.k α)
  (v:FW) (ns:List α) (hs:a.eval s=v) (B:Nat) (hown:H7 w B v ns) (q:Nat) (hx:a.eval x=FT (G5 ⟨q,0,FZ⟩) 1 1) (t:α) (hnews:JM w q t) (hl:(ns.length+1)*bytes<=140737488355328) (hm:ns.length+1<=maxLen) (hB:B<=w.heap.size)
  (h:∀a' c' w',H7 w' B (FT a' (ns.length+1) c') (ns++[t])->w.grownBy w' v.ownBlock->wpList prog ops Q rest (a.put o.dst (FT a' (ns.length+1) c')) w'):
  wpList prog ops Q (o::rest) a w:=by
 refine wpList_plain hgd fun K hK=>?_;obtain⟨v',w',hr,h2,h3,_⟩:=run_append_own (P:=prog) w B T o.type (Lay.ty α) i0 z (Lay.k α) bytes hU hi0 hz0 hz1 hz2 hzs hk0 v ns.length (GH ns) hown.row ⟨q,0,FZ⟩ 1 1 (Lay.cs t) (by rw[Lay.len,Nat.one_mul]) (Q8 hnews) (Lay.one t) hm hl hB;have h2':H7 w' B v' (ns++[t]):=H7.L9 (by rw[AO,J8];exact h2);obtain⟨a',c',rfl,_⟩:=h2'.slice;rw[AO,List.length_singleton]at h2' hr;unfold Oper.wp execOp;simp only[ho,resolve,invoke,builtin,Sem.run_bind,Sem.run_pure,Result.andThen_ok,List.map_toArray,List.map_cons,List.map_nil,hs,hx,hr];exact hK _ _ (h a' c' w' h2' h3)
