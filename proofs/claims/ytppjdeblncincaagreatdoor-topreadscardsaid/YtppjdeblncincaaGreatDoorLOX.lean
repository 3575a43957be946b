/-
  Part.
-/
import Derived.Test.YtppjdeblncincaaGreatDoorLOS
import Derived.Test.YtppjdeblncincaaGreatDoorLOW
import Derived.Test.YtppjdeblncincaaGreatDoorLOR
set_option maxRecDepth 20000
set_option maxHeartbeats 8000000
namespace Go.Proofs.YtppjdeblncincaaGreatDoor
open Go.RowKit Go.Proofs.Tryz
open _root_.Nat renaming le_refl->A8,zero_le->AZ
open Go.RowKit.Below renaming refl->AA,heap_setCell->BG
open _root_.Array renaming getElem?_eq_some_iff->AL
open _root_.List renaming getElem?_eq_getElem->AO,length_append->AP,mem_cons->BQ,take_append_drop->DV,mem_filter->EJ
open Go.Value.slice renaming injEq->AQ
open Go.World renaming cell?->AX,frozen?->FB
open _root_.Option.some renaming injEq->BF
open Go.Value renaming ownBlock->DJ,slice->FU
open Go.Obj renaming cells->FV
open Go renaming World->FW,Value->FX,Calls->FZ
open _root_.Option renaming none->G5,some->G6
variable{α:Type}{W w V:FW}{B k c ka kn kr i:Nat}{v vd vl vn vs vw vN:FX}{up:Bool}{id ep dn z E:Int}{s:Sv}{N:List Nt}{x:GN}{xs:List GN}{e:Ending}{a:Option Addr}
noncomputable def XI(s:Sv)(x:GN):List Wa:=if x.o=2 then mP (LC s.ws (YX s.tr x)) x.s else LC s.ws (YX s.tr x)
noncomputable def fO(s:Sv)(x:GN):Sv:=⟨s.up,s.fs,s.id,s.ep,s.ts,s.dn,jI s.tr x,XI s x⟩
theorem XJ[Lay α]{xs:List α}{c:Array FX}{T:TypeId}{fz:Nat×Nat}(h:GZ W B v xs)(hk:W.heap[k]?=G6 (FV c T fz))(hne:T≠Lay.ty α):v.ownBlock≠G6 k:=by
 intro e;rcases h with⟨rfl,_⟩|⟨g,cap,rfl,_,rest,h1,_⟩
 .simp[DJ]at e
 .simp only[DJ,BF]at e;subst e;rw[h1]at hk;simp at hk;exact hne hk.2.1.symm
theorem B33{β:Type}[Lay α][Lay β]{C:Nat}{u:FX}{xs:List α}{ys:List β}(h:GZ W B u xs)(k:GZ W C v ys)(hne:Lay.ty α≠Lay.ty β):∀q,u.ownBlock=G6 q->G6 q≠v.ownBlock:=by
 intro q hq e;rcases h with⟨rfl,rfl⟩|⟨g,cap,rfl,_,rest,h1,_⟩
 .simp[DJ]at hq
 .rcases k with⟨rfl,rfl⟩|⟨g',cap',rfl,_,rest',h1',_⟩
  .simp[DJ]at e
  .simp only[DJ,BF]at hq e;subst hq e;rw[h1]at h1';simp at h1';exact hne h1'.2
theorem bM[Lay α]{xs:List α}(h:GZ W B v xs)(hb:IG W k up vd id ep vl dn z vn vs vw)(hne:40≠Lay.ty α):v.ownBlock≠G6 k:=by
 unfold IG at hb;exact XJ h hb hne
structure CI(w W:FW)(ka kn kr:Nat)(s:Sv)(N:List Nt)(vd vl vn vs vw vN:FX):Prop where
 box:IG W ka s.up vd s.id s.ep vl s.dn s.tr.z vn vs vw
 nb:W.heap[kn]?=G6 (FV #[vN] 51 (0,0))
 d:GZ W w.heap.size vd s.fs
 l:GZ W w.heap.size vl s.ts
 n:GZ W w.heap.size vn s.tr.ns
 i:GZ W w.heap.size vs s.tr.ss
 o:GZ W w.heap.size vw s.ws
 t:GZ W w.heap.size vN N
 below:B0 w W
 ha:w.heap.size<=ka
 hn:w.heap.size<=kn
 ne:ka≠kn
 r:IG W kr false (N0) 0 0 (N0) 0 0 (N0) (N0) (N0)
 r1:kr≠ka
 r2:kr≠kn
 hr:w.heap.size<=kr
theorem CI.next(h:CI w W ka kn kr s N vd vl vn vs vw vN)(hb:B0 W V):CI w V ka kn kr s N vd vl vn vs vw vN:=
 ⟨h.box.next hb,(hb.block kn (AL.1 h.nb).1).trans h.nb,h.d.next hb,h.l.next hb,h.n.next hb,h.i.next hb,h.o.next hb,h.t.next hb,GH h.below hb,h.ha,h.hn,h.ne,h.r.next hb,h.r1,h.r2,h.hr⟩
theorem QF[Lay α]{j:Nat}{xs:List α}(h:GZ W B v xs)(hb:IG W k up vd id ep vl dn z vn vs vw)(hne:40≠Lay.ty α)(u:FX):GZ (W.setCell ⟨k,j,G5⟩ u) B v xs:=
 h.other (bM h hb hne) u
theorem CI.tree{vn' vs' vw':FX}{t':Tr}{ws':List Wa}(h:CI w W ka kn kr s N vd vl vn vs vw vN)(hn':GZ W w.heap.size vn' t'.ns)(hs':GZ W w.heap.size vs' t'.ss)(hw':GZ W w.heap.size vw' ws'):
  CI w ((((W.setCell ⟨ka,6,G5⟩ (I0 t'.z)).setCell ⟨ka,7,G5⟩ vn').setCell ⟨ka,8,G5⟩ vs').setCell ⟨ka,9,G5⟩ vw') ka kn kr ⟨s.up,s.fs,s.id,s.ep,s.ts,s.dn,t',ws'⟩ N vd vl vn' vs' vw' vN:=by
 have b1:IG (W.setCell ⟨ka,6,G5⟩ (I0 t'.z)) ka s.up vd s.id s.ep vl s.dn t'.z vn vs vw:=GV (j:=6) _ h.box;have b2:IG ((W.setCell ⟨ka,6,G5⟩ (I0 t'.z)).setCell ⟨ka,7,G5⟩ vn') ka s.up vd s.id s.ep vl s.dn t'.z vn' vs vw:=GV (j:=7) _ b1;have b3:IG (((W.setCell ⟨ka,6,G5⟩ (I0 t'.z)).setCell ⟨ka,7,G5⟩ vn').setCell ⟨ka,8,G5⟩ vs') ka s.up vd s.id s.ep vl s.dn t'.z vn' vs' vw:=GV (j:=8) _ b2;have b4:IG ((((W.setCell ⟨ka,6,G5⟩ (I0 t'.z)).setCell ⟨ka,7,G5⟩ vn').setCell ⟨ka,8,G5⟩ vs').setCell ⟨ka,9,G5⟩ vw') ka s.up vd s.id s.ep vl s.dn t'.z vn' vs' vw':=GV (j:=9) _ b3;have keep:∀ {α:Type} [Lay α] {v:FX} {xs:List α},GZ W w.heap.size v xs->40≠Lay.ty α->GZ ((((W.setCell ⟨ka,6,G5⟩ (I0 t'.z)).setCell ⟨ka,7,G5⟩ vn').setCell ⟨ka,8,G5⟩ vs').setCell ⟨ka,9,G5⟩ vw') w.heap.size v xs:=
  fun h0 hne=>QF (QF (QF (QF h0 h.box hne _) b1 hne _) b2 hne _) b3 hne _
 refine⟨b4,?_,keep h.d (by decide),keep h.l (by decide),keep hn' (by decide),keep hs' (by decide),keep hw' (by decide),keep h.t (by decide),(((h.below.setCell h.ha _).setCell h.ha _).setCell h.ha _).setCell h.ha _,h.ha,h.hn,h.ne,(((h.r.other h.r1).other h.r1).other h.r1).other h.r1,h.r1,h.r2,h.hr⟩;exact(BG _ _ _ _ (Ne.symm h.ne)).trans ((BG _ _ _ _ (Ne.symm h.ne)).trans ((BG _ _ _ _ (Ne.symm h.ne)).trans ((BG _ _ _ _ (Ne.symm h.ne)).trans h.nb)))
theorem CI.note{N':List Nt}{vN':FX}(h:CI w W ka kn kr s N vd vl vn vs vw vN)(hg:W.grownBy V vN.ownBlock)(ho:GZ V w.heap.size vN' N'):
  CI w (V.setCell ⟨kn,0,G5⟩ vN') ka kn kr s N' vd vl vn vs vw vN':=by
 have na:G6 ka≠vN.ownBlock:=fun e=>bM h.t h.box (by decide) e.symm;have nn:G6 kn≠vN.ownBlock:=fun e=>XJ h.t h.nb (by decide) e.symm;have bV:IG V ka s.up vd s.id s.ep vl s.dn s.tr.z vn vs vw:=(hg.block ka h.box.lt na).trans h.box;have nV:V.heap[kn]?=G6 (FV #[vN] 51 (0,0)):=(hg.block kn (AL.1 h.nb).1 nn).trans h.nb;have keep:∀ {α:Type} [Lay α] {v:FX} {xs:List α},GZ W w.heap.size v xs->Lay.ty α≠76->51≠Lay.ty α->GZ (V.setCell ⟨kn,0,G5⟩ vN') w.heap.size v xs:=fun h0 h1 h2=>by
  have k:=h0.grown hg (B33 h0 h.t h1);exact k.other (XJ k nV h2) _
 refine⟨bV.other h.ne,?_,keep h.d (by decide) (by decide),keep h.l (by decide) (by decide),keep h.n (by decide) (by decide),keep h.i (by decide) (by decide),keep h.o (by decide) (by decide),ho.other (XJ ho nV (by decide)) _,(h.below.grown hg h.below.size (fun g e=>?_)).setCell h.hn _,h.ha,h.hn,h.ne,IG.other ((hg.block kr h.r.lt (fun e=>bM h.t h.r (by decide) e.symm)).trans h.r) h.r2,h.r1,h.r2,h.hr⟩
 .rw[GV _ nV];rfl
 .rcases h.t with⟨e1,_⟩|⟨g',cap,e1,hB,_⟩
  .rw[e1]at e;simp[DJ]at e
  .rw[e1]at e;simp only[DJ,BF]at e;omega
theorem IU[Lay α]{xs:List α}(h:GZ W B v xs):∃a c,v=FU a xs.length c:=by
 obtain⟨a,c,e,_⟩:=h.slice;exact⟨a,c,e⟩
theorem B34(W:FW)(ty:TypeId)(B C:Nat)(v u:FX)(N T:List Nt)(hv:GZ W B v N)(hu:GZ W C u T)(hl:(N.length+T.length)*32<=140737488355328)(hB:B<=W.heap.size):
  ∃v' w',(Builtin.append_ #[51,51] ty #[v,u]).run prog W=.ok v' w'/\GZ w' B v' (N++T)/\W.grownBy w' v.ownBlock:=by
 obtain⟨i0,hi0,hz0,hz1,hz2⟩:=AY2;rcases hu with⟨rfl,rfl⟩|⟨g,cap,rfl,_,hr⟩
 .refine⟨v,W,run_append_owned_none (P:=prog) (w:=W) B 51 ty 76 i0 3 underlying51 hi0 v N.length (GI N) hv.row,by rw[List.append_nil];exact hv,⟨rfl,rfl,rfl,A8 _,fun _ _ _=>rfl⟩⟩
 .obtain⟨v',w',h1,h2,h3,_⟩:=run_append_own (P:=prog) W B 51 ty 76 i0 _ 3 32 underlying51 hi0 hz0 hz1 hz2 rfl (by decide) v N.length (GI N) hv.row ⟨g,0,G5⟩ T.length cap (GI T) (H6 T) (fun j x hj=>by rw[Addr.add_lit];exact hr.row j x hj) (JO T) (by simp only[maxLen];omega) hl hB;exact⟨v',w',h1,GZ.L9 (by rw[AP,I5];exact h2),h3⟩
theorem fP{w:FW}{ops:Array Oper}{rest:List Oper}{o:Oper}{a:Act}{Q:Exit->Act->FW->Prop}(hgd:o.guard=G5)(s x:Operand)
  (ho:o.op=.call {callee:=.builtin .append,args:=#[s,x],argTypes:=#[51,51]})
  (B C:Nat) (v u:FX) (N T:List Nt) (hs:a.eval s=v) (hx:a.eval x=u) (hv:GZ w B v N) (hu:GZ w C u T) (hl:(N.length+T.length)*32<=140737488355328) (hB:B<=w.heap.size)
  (h:∀a' c' w',GZ w' B (FU a' (N++T).length c') (N++T)->w.grownBy w' v.ownBlock->wpList prog ops Q rest (a.put o.dst (FU a' (N++T).length c')) w'):wpList prog ops Q (o::rest) a w:=by
 refine wpList_plain hgd fun K hK=>?_;obtain⟨v',w',hr,h2,h3⟩:=B34 w o.type B C v u N T hv hu hl hB;obtain⟨a',c',rfl⟩:=IU h2;unfold Oper.wp execOp;simp only[ho,resolve,invoke,builtin,Sem.run_bind,Sem.run_pure,Result.andThen_ok,List.map_toArray,List.map_cons,List.map_nil,hs,hx,hr];exact hK _ _ (h a' c' w' h2 h3)
theorem oJ{T:List Nt}(h:GZ W B v T)(hb:IG W ka up vd id ep vl dn z vn vs vw)(x6 x7 x8 x9:FX):GZ ((((W.setCell ⟨ka,6,G5⟩ x6).setCell ⟨ka,7,G5⟩ x7).setCell ⟨ka,8,G5⟩ x8).setCell ⟨ka,9,G5⟩ x9) B v T:=by
 have hk:=bM h hb (by decide);exact(((h.other hk x6).other hk x7).other hk x8).other hk x9
structure CFit(s:Sv)(N:List Nt)(x:GN):Prop where
 wf:WfT s.tr
 xd:x.d.length<=140737488355328
 xp:x.p.length<=140737488355328
 sh:mV s.ws
 wl:s.ws.length*32<=140737488351232
 nl:(N.length+s.ws.length)*32<=140737488351232
def CV2(w W w':FW)(ka kn kr:Nat)(s:Sv)(N:List Nt)(x:GN)(E:Int)(T:Tr)(V:List Ev)(SW:List Wa):Prop:=
 B0 w w'/\(E≠0->B0 W w')/\
 (E=0->∃ad nd cd al cl an cn ai ci aw cw aN cN,CI w w' ka kn kr (fO s x) (N++OV s.ws V) (FU ad nd cd) (FU al s.ts.length cl) (FU an T.ns.length cn) (FU ai T.ss.length ci) (FU aw SW.length cw) (FU aN (N.length+(OV s.ws V).length) cN))
theorem ZP{ws:List Wa}(h:mV ws)(es:List Ev):mV (LC ws es):=fun x hx=>h x (AX6 ws es x hx)
theorem AM8{t:Tr}(hw:WfT t)(hp:x.p.length<=140737488355328):BX3 (YX t x):=by
 have hdl:∀p:List UInt8,(IK p).length<=140737488355328:=fun p=>by have:=WY p;omega
 intro e he;by_cases h:YS t x=0
 .rw[YX,if_pos h,qI]at he;by_cases h2:x.o=2
  .rw[if_pos h2]at he;obtain⟨q,hq,he⟩:=List.mem_flatMap.1 he;obtain⟨n,hn,rfl⟩:=List.mem_map.1 hq;have hn':=hw.CJ7 n (EJ.1 hn).1;simp only[BQ,List.not_mem_nil,or_false]at he;rcases he with rfl|rfl
   .exact hn'.1
   .exact hdl _
  .rw[if_neg h2]at he;by_cases h3:x.o=3
   .rw[if_pos h3]at he;simp only[BQ,List.not_mem_nil,or_false]at he;rcases he with rfl|rfl
    .exact hp
    .exact hdl _
   .rw[if_neg h3]at he;by_cases h4:x.o=4
    .rw[if_pos h4]at he;simp only[BQ,List.not_mem_nil,or_false]at he;rcases he with rfl|rfl
     .exact hp
     .exact hdl _
    .rw[if_neg h4]at he;by_cases h5:x.o=5
     .rw[if_pos h5]at he;simp only[BQ,List.not_mem_nil,or_false]at he;subst he;exact hp
     .rw[if_neg h5]at he;simp at he
 .rw[YX,if_neg h]at he;simp at he
theorem A25(w W:FW)(ka kn kr:Nat)(s:Sv)(N:List Nt)(x:GN)(ad al an ai aw aN:Option Addr)(nd cd cl cn ci cw cN:Nat)
  (h:CI w W ka kn kr s N (FU ad nd cd) (FU al s.ts.length cl) (FU an s.tr.ns.length cn) (FU ai s.tr.ss.length ci) (FU aw s.ws.length cw) (FU aN N.length cN)) (hf:CFit s N x):
  FZ prog 119 #[J9 x,P0 ka,P0 kn] W fun e w'=>e=.returned (I0 (YS s.tr x))/\CV2 w W w' ka kn kr s N x (YS s.tr x) (jI s.tr x) (YX s.tr x) (XI s x):=by
 have h1:=h.next (G9 W (FV #[I0 x.z,I0 x.o,I0 x.s,S0 x.p,S0 x.d,I0 x.v,I0 x.w] 79));have T1:=TAt.new W x;have CA:=G8 (fun vn vs V (h2:IL V vn s.tr.ns) (h3:IL V vs s.tr.ss)=>wJ s.tr vn vs x V h2 h3 hf.wf hf.xd);have CFi:=G8 (fun v u V (h2:IL V v s.ws) (h3:IL V u (YX s.tr x))=>BN0 v u s.ws (YX s.tr x) V h2 h3 hf.sh (AM8 hf.wf hf.xp) hf.wl (B27 s.tr x).2.2);have hfl:=iD (YX s.tr x) s.ws;have CD:=G8 (fun v V (h2:IL V v (LC s.ws (YX s.tr x)))=>BN1 v x.s (LC s.ws (YX s.tr x)) V h2 (ZP hf.sh _) (by have:=hf.wl;omega));have HNL:Hid ((N.length+(OV s.ws (YX s.tr x)).length)*32<=140737488355328):=G8 (by have:=hf.nl;omega);have HSW:Hid ((x.o=2->XI s x=mP (LC s.ws (YX s.tr x)) x.s)/\(x.o≠2->XI s x=LC s.ws (YX s.tr x))):=G8 ⟨fun e=>by simp[XI,e],fun e=>by simp[XI,e]⟩;have HC1:=G8 h1;have HBA:=G8 (G9 W (FV #[I0 x.z,I0 x.o,I0 x.s,S0 x.p,S0 x.d,I0 x.v,I0 x.w] 79));have HT1:=G8 T1;have HSS:Hid (fO s x=⟨s.up,s.fs,s.id,s.ep,s.ts,s.dn,jI s.tr x,XI s x⟩):=G8 rfl;obtain⟨x0,x1,x2,x3,x4,x5,x6,x7,x8,x9⟩:=h1.box.cells;have t0:=T1.c0;have t1:=T1.c1;have t2:=T1.c2;have t3:=T1.c3;have t4:=T1.c4;have t5:=T1.c5;have t6:=T1.c6;unfold bK at CA;clear h h1 T1 hf hfl;obtain⟨z,o,u,p,d,y,v⟩:=x;generalize YS s.tr ⟨z,o,u,p,d,y,v⟩=E at*;generalize jI s.tr ⟨z,o,u,p,d,y,v⟩=T at*;generalize YX s.tr ⟨z,o,u,p,d,y,v⟩=V at*;generalize XI s ⟨z,o,u,p,d,y,v⟩=SW at*;unfold J9 at*;simp only at*;go_enter func119,ntmps119;go_upto_region 1 with fail;generalize W.alloc (FV #[I0 z,I0 o,I0 u,S0 p,S0 d,I0 y,I0 v] 79)=W1 at*;obtain⟨kx,hkx⟩:∃kx,W.heap.size=kx:=⟨_,rfl⟩;rw[hkx];rw[hkx]at t0 t1 t2 t3 t4 t5 t6 HT1;clear hkx;go_wp2_with fail;refine(G7 CA _ _ _ (G7 HC1).n.seq (G7 HC1).i.seq).mono ?_;rintro e w2 ⟨vn2,vs2,ve2,rfl,on2,oi2,oe2,hb2⟩;obtain⟨bn,fn,rfl⟩:=IU on2;obtain⟨bi,fi,rfl⟩:=IU oi2;obtain⟨be,fe,rfl⟩:=IU oe2;have hal:=G9 w2 (FV #[I0 T.z,FU bn T.ns.length fn,FU bi T.ss.length fi] 37);have HC2:=G8 (((G7 HC1).next hb2).next hal);have HT2:=G8 (((G7 HT1).next hb2).next hal);have HZ1:=(G7 HC1).below.size;have HBE:=G8 (GH (GH (G7 HBA) hb2) hal);have HON:=G8 ((on2.next hal).lower HZ1);have HOI:=G8 ((oi2.next hal).lower HZ1);have HOE:=G8 (oe2.next hal);have HTB:Hid ((w2.alloc (FV #[I0 T.z,FU bn T.ns.length fn,FU bi T.ss.length fi] 37)).heap[w2.heap.size]?=G6 (FV #[I0 T.z,FU bn T.ns.length fn,FU bi T.ss.length fi] 37 (0,0))):=G8 (heap_alloc_new w2 _);clear on2 oi2 oe2 hb2 hal HZ1 HC1 HT1 CA x0 x1 x2 x3 x4 x5 x6 x7 x8 x9 t0 t1 t2 t3 t4 t5 t6;go_upto_region 2 with fail;generalize w2.heap.size=kt at*;generalize w2.alloc (FV #[I0 T.z,FU bn T.ns.length fn,FU bi T.ss.length fi] 37)=W2 at*;by_cases hE:E=0
 .subst hE;obtain⟨x0,x1,x2,x3,x4,x5,x6,x7,x8,x9⟩:=(G7 HC2).box.cells;go_wp2_with fail;refine(G7 CFi _ _ _ (G7 HC2).o.seq (G7 HOE).seq).mono ?_;rintro e w3 ⟨vn3,vl3,rfl,on3,⟨g3,rfl,hg3,or3⟩,hb3⟩;obtain⟨bN,fN,rfl⟩:=IU on3;have HC3:=G8 ((G7 HC2).next hb3);have hz2:=(G7 HC2).below.size;have CS6:=G8 ((G7 HON).next hb3);have CS7:=G8 ((G7 HOI).next hb3);have HT3:=(G7 HT2).next hb3;have CJ9:=G8 ((hb3.block kt (AL.1 (G7 HTB)).1).trans (G7 HTB));have CS8:=G8 (on3.lower hz2);have CS9:Hid (GZ w3 w.heap.size (FU (G6 ⟨g3,0,G5⟩) (LC s.ws V).length (s.ws.length+1)) (LC s.ws V)):=G8 (.inr ⟨g3,_,rfl,by omega,or3⟩);have t1:=HT3.c1;have t2:=HT3.c2;simp only at t1 t2;clear on3 hg3 or3 hb3 hz2 HC2 HON HOI HT2 HTB HOE CFi x0 x1 x2 x3 x4 x5 x6 x7 x8 x9 HT3;by_cases ho:o=2
  .have hsw:=(G7 HSW).1 ho;subst hsw;subst ho;go_wp2_with fail;refine(G7 CD _ _ (G7 CS9).seq).mono ?_;rintro e w4 ⟨g4,rfl,hg4,or4,hb4⟩;have hz3:=(G7 HC3).below.size;have HCX:=G8 ((G7 HC3).next hb4);have CK1:=G8 ((G7 CS6).next hb4);have CK2:=G8 ((G7 CS7).next hb4);have BN2:=G8 ((hb4.block kt (AL.1 (G7 CJ9)).1).trans (G7 CJ9));have CK3:=G8 ((G7 CS8).next hb4);have CK4:Hid (GZ w4 w.heap.size (FU (G6 ⟨g4,0,G5⟩) (mP (LC s.ws V) u).length ((LC s.ws V).length+1)) (mP (LC s.ws V) u)):=G8 (.inr ⟨g4,_,rfl,by omega,or4⟩);clear hg4 or4 hb4 hz3 HC3 CS6 CS7 CJ9 CS8 CS9 CD t1 t2;have HTR:=G8 ((G7 HCX).tree (t':=T) (vn':=FU bn T.ns.length fn) (vs':=FU bi T.ss.length fi) (G7 CK1) (G7 CK2) (G7 CK4));obtain⟨x0,x1,x2,x3,x4,x5,x6,x7,x8,x9⟩:=(G7 HCX).box.cells;have xf6:=(G7 HCX).box.GU 6;have xf7:=(G7 HCX).box.GU 7;have xf8:=(G7 HCX).box.GU 8;have xf9:=(G7 HCX).box.GU 9;have k0:w4.cell? ⟨kt,0,G5⟩=G6 (I0 T.z):=by simp[AX,G7 BN2]
   have k1:w4.cell? ⟨kt,1,G5⟩=G6 (FU bn T.ns.length fn):=by simp[AX,G7 BN2]
   have k2:w4.cell? ⟨kt,2,G5⟩=G6 (FU bi T.ss.length fi):=by simp[AX,G7 BN2]
   go_upto_region 8 with fail;have CV3:=G8 (oJ (G7 CK3) (G7 HCX).box (I0 T.z) (FU bn T.ns.length fn) (FU bi T.ss.length fi) (FU (G6 ⟨g4,0,G5⟩) (mP (LC s.ws V) u).length ((LC s.ws V).length+1)));generalize (((w4.setCell ⟨ka,6,G5⟩ (I0 T.z)).setCell ⟨ka,7,G5⟩ (FU bn T.ns.length fn)).setCell ⟨ka,8,G5⟩ (FU bi T.ss.length fi)).setCell ⟨ka,9,G5⟩ (FU (G6 ⟨g4,0,G5⟩) (mP (LC s.ws V) u).length ((LC s.ws V).length+1))=W5 at*;clear x0 x1 x2 x3 x4 x5 x6 x7 x8 x9 xf6 xf7 xf8 xf9 k0 k1 k2 HCX CK1 CK2 CK4 CK3 BN2;have n0:W5.cell? ⟨kn,0,G5⟩=G6 (FU aN N.length cN):=by simp[AX,(G7 HTR).nb]
   go_wp2_with (at_builtin;refine fP rfl _ _ rfl w.heap.size w.heap.size (FU aN N.length cN) _ N (OV s.ws V) rfl rfl (G7 HTR).t (G7 CV3) (G7 HNL) (G7 HTR).below.size ?_);intro a6 c6 w6 ho6 hg6;have HFI:=G8 ((G7 HTR).note hg6 ho6);have m0:w6.cell? ⟨kn,0,G5⟩=G6 (FU aN N.length cN):=hg6.cell n0 (fun e=>XJ (G7 HTR).t (G7 HTR).nb (by decide) e.symm);have mf:w6.frozen? ⟨kn,0,G5⟩=false:=by
    have:=(hg6.block kn (AL.1 (G7 HTR).nb).1 (fun e=>XJ (G7 HTR).t (G7 HTR).nb (by decide) e.symm)).trans (G7 HTR).nb;simp[FB,this]
   clear ho6 hg6 n0;go_wp2_with fail;go_ret;exact⟨rfl,(G7 HFI).below,fun h=>absurd rfl h,fun _=>⟨ad,nd,cd,al,cl,bn,fn,bi,fi,(G6 ⟨g4,0,G5⟩),((LC s.ws V).length+1),a6,c6,by rw[G7 HSS];exact G7 HFI⟩⟩
  .have hsw:=(G7 HSW).2 ho;subst hsw;have HCX:=HC3;have CK1:=CS6;have CK2:=CS7;have BN2:=CJ9;have CK3:=CS8;have CK4:=CS9;clear HC3 CS6 CS7 CJ9 CS8 CS9 CD;have HTR:=G8 ((G7 HCX).tree (t':=T) (vn':=FU bn T.ns.length fn) (vs':=FU bi T.ss.length fi) (G7 CK1) (G7 CK2) (G7 CK4));obtain⟨x0,x1,x2,x3,x4,x5,x6,x7,x8,x9⟩:=(G7 HCX).box.cells;have xf6:=(G7 HCX).box.GU 6;have xf7:=(G7 HCX).box.GU 7;have xf8:=(G7 HCX).box.GU 8;have xf9:=(G7 HCX).box.GU 9;have k0:w3.cell? ⟨kt,0,G5⟩=G6 (I0 T.z):=by simp[AX,G7 BN2]
   have k1:w3.cell? ⟨kt,1,G5⟩=G6 (FU bn T.ns.length fn):=by simp[AX,G7 BN2]
   have k2:w3.cell? ⟨kt,2,G5⟩=G6 (FU bi T.ss.length fi):=by simp[AX,G7 BN2]
   go_upto_region 8 with fail;have CV3:=G8 (oJ (G7 CK3) (G7 HCX).box (I0 T.z) (FU bn T.ns.length fn) (FU bi T.ss.length fi) (FU (G6 ⟨g3,0,G5⟩) (LC s.ws V).length (s.ws.length+1)));generalize (((w3.setCell ⟨ka,6,G5⟩ (I0 T.z)).setCell ⟨ka,7,G5⟩ (FU bn T.ns.length fn)).setCell ⟨ka,8,G5⟩ (FU bi T.ss.length fi)).setCell ⟨ka,9,G5⟩ (FU (G6 ⟨g3,0,G5⟩) (LC s.ws V).length (s.ws.length+1))=W5 at*;clear x0 x1 x2 x3 x4 x5 x6 x7 x8 x9 xf6 xf7 xf8 xf9 k0 k1 k2 HCX CK1 CK2 CK4 CK3 BN2;have n0:W5.cell? ⟨kn,0,G5⟩=G6 (FU aN N.length cN):=by simp[AX,(G7 HTR).nb]
   go_wp2_with (at_builtin;refine fP rfl _ _ rfl w.heap.size w.heap.size (FU aN N.length cN) _ N (OV s.ws V) rfl rfl (G7 HTR).t (G7 CV3) (G7 HNL) (G7 HTR).below.size ?_);intro a6 c6 w6 ho6 hg6;have HFI:=G8 ((G7 HTR).note hg6 ho6);have m0:w6.cell? ⟨kn,0,G5⟩=G6 (FU aN N.length cN):=hg6.cell n0 (fun e=>XJ (G7 HTR).t (G7 HTR).nb (by decide) e.symm);have mf:w6.frozen? ⟨kn,0,G5⟩=false:=by
    have:=(hg6.block kn (AL.1 (G7 HTR).nb).1 (fun e=>XJ (G7 HTR).t (G7 HTR).nb (by decide) e.symm)).trans (G7 HTR).nb;simp[FB,this]
   clear ho6 hg6 n0;go_wp2_with fail;go_ret;exact⟨rfl,(G7 HFI).below,fun h=>absurd rfl h,fun _=>⟨ad,nd,cd,al,cl,bn,fn,bi,fi,(G6 ⟨g3,0,G5⟩),(s.ws.length+1),a6,c6,by rw[G7 HSS];exact G7 HFI⟩⟩
 .go_wp2_with fail;go_ret;exact⟨rfl,(G7 HC2).below,fun _=>G7 HBE,fun h=>absurd h hE⟩
noncomputable def stP(p:Sv×List Nt)(x:GN):Sv×List Nt:=(fO p.1 x,p.2++OV p.1.ws (YX p.1.tr x))
noncomputable def csP(s:Sv)(xs:List GN)(i:Nat):Sv×List Nt:=(xs.take i).foldl stP (s,[])
theorem rG(s:Sv)(xs:List GN):csP s xs 0=(s,[]):=by simp[csP]
theorem AB6(h:xs[i]?=G6 x):csP s xs (i+1)=stP (csP s xs i) x:=by
 unfold csP;rw[PV h,List.foldl_append];rfl
structure Chn(s:Sv)(xs:List GN)(k:Nat):Prop where
 le:k<=xs.length
 ok:∀i x,i<k->xs[i]?=G6 x->YS (csP s xs i).1.tr x=0
 stop:∀x,xs[k]?=G6 x->YS (csP s xs k).1.tr x≠0
structure BN3(s:Sv)(xs:List GN):Prop where
 wf:WfT s.tr
 sh:mV s.ws
 wl:s.ws.length*32<=140737488351232
 xd:∀x∈xs,x.d.length<=140737488355328
 xp:∀x∈xs,x.p.length<=140737488355328
theorem wO(ws:List Wa)(s:Int):(mP ws s).length<=ws.length:=List.length_filter_le _ _
theorem BX7(hB:BN3 s xs)(h:Chn s xs k):∀i,i<=k->
  (WfT (csP s xs i).1.tr/\mV (csP s xs i).1.ws/\(csP s xs i).2.length+(csP s xs i).1.ws.length<=s.ws.length)/\
  ((csP s xs i).1.up=s.up/\(csP s xs i).1.fs=s.fs/\(csP s xs i).1.id=s.id/\(csP s xs i).1.ep=s.ep/\(csP s xs i).1.ts=s.ts/\(csP s xs i).1.dn=s.dn):=by
 intro i
 induction i with
 |zero=>
  intro _;rw[rG];exact⟨⟨hB.wf,hB.sh,by simp⟩,rfl,rfl,rfl,rfl,rfl,rfl⟩
 |succ i ih=>
  intro hi;obtain⟨⟨a1,a2,a3⟩,b1,b2,b3,b4,b5,b6⟩:=ih (by omega);obtain⟨x,hx⟩:∃x,xs[i]?=G6 x:=⟨_,AO (by have:=h.le;omega)⟩;have h0:=h.ok i x (by omega) hx;rw[AB6 hx];generalize csP s xs i=c at*;have hl:=iD (YX c.1.tr x) c.1.ws;refine⟨⟨(aS h0).1.wf,?_,?_⟩,b1,b2,b3,b4,b5,b6⟩
  .show mV (XI c.1 x);unfold XI
   split
   .exact fun y hy=>ZP a2 _ y (EJ.1 hy).1
   .exact ZP a2 _
  .show (c.2++OV c.1.ws (YX c.1.tr x)).length+(XI c.1 x).length<=s.ws.length;have:(XI c.1 x).length<=(LC c.1.ws (YX c.1.tr x)).length:=by
    unfold XI
    split
    .exact wO _ _
    .exact A8 _
   rw[AP];omega
theorem C54(hB:BN3 s xs)(h:Chn s xs k)(hi:i<=k)(hx:xs[i]?=G6 x):CFit (csP s xs i).1 (csP s xs i).2 x:=by
 obtain⟨⟨a1,a2,a3⟩,_⟩:=BX7 hB h i hi;have hm:=List.mem_of_getElem? hx;have:=hB.wl;exact⟨a1,hB.xd x hm,hB.xp x hm,a2,by omega,by omega⟩
def CV6(s:Sv)(t:GN)(safe:Bool)(E:Int)(s':Sv):Prop:=
 (t.z<=J5 s.ts/\E=13/\s'=sv0)\/(¬t.z<=J5 s.ts/\E≠0/\s'=sv0/\∃d1,NG 147 (fun x=>#[x,J9 t,.bool safe]) s.fs d1 E)\/
 (¬t.z<=J5 s.ts/\E=0/\∃d1,s'=⟨s.up,d1,s.id,s.ep,s.ts++[t],s.dn,s.tr,s.ws⟩/\ZA 147 (fun x=>#[x,J9 t,.bool safe]) s.fs d1 0)
def CL4(w:FW)(q:Nat)(s:Sv)(E:Int)(e:Ending)(w':FW):Prop:=
 ∃ad nd cd al nl cl an nn cn ai ni ci aw nw cw,e=.returned (.tuple #[.agg #[.bool s.up,FU ad nd cd,I0 s.id,I0 s.ep,FU al nl cl,I0 s.dn,I0 s.tr.z,FU an nn cn,FU ai ni ci,FU aw nw cw],I0 E])/\
  Hid (IV w' (FU ad nd cd) s.fs/\NC w' (FU al nl cl) s.ts/\IL w' (FU an nn cn) s.tr.ns/\IL w' (FU ai ni ci) s.tr.ss/\V7 (FU ai ni ci) q/\IL w' (FU aw nw cw) s.ws/\OB w.heap.size (FU ai ni ci))/\B0 w w'
theorem oQ{w':FW}{q:Nat}(he:e=.returned (.tuple #[svZ,I0 E]))(hb:B0 w w'):CL4 w q sv0 E e w':=
 ⟨G5,0,0,G5,0,0,G5,0,0,G5,0,0,G5,0,0,he,G8 ⟨IV.nil _,NC.nil _,IL.nil _,IL.nil _,vZ _ _ _,IL.nil _,UO _ _ _⟩,hb⟩
theorem MG[Lay α]{xs:List α}(h:GZ W B v xs):OB B v:=by
 intro b off n c e;rcases h with⟨rfl,_⟩|⟨g,cap,rfl,hB,_⟩
 .simp at e
 .simp only[AQ,BF,Addr.mk.injEq]at e;omega
def eP(w:FW)(s:Sv)(E:Int)(e:Ending)(w':FW):Prop:=
 ∃ad nd cd al nl cl an nn cn ai ni ci aw nw cw,e=.returned (.tuple #[.agg #[.bool s.up,FU ad nd cd,I0 s.id,I0 s.ep,FU al nl cl,I0 s.dn,I0 s.tr.z,FU an nn cn,FU ai ni ci,FU aw nw cw],I0 E])/\
  Hid (SvV w' (.agg #[.bool s.up,FU ad nd cd,I0 s.id,I0 s.ep,FU al nl cl,I0 s.dn,I0 s.tr.z,FU an nn cn,FU ai ni ci,FU aw nw cw]) s/\OB w.heap.size (FU ai ni ci))/\B0 w w'
theorem KD[Lay α]{F:Nat->Prop}{xs:List α}(h:GZ W B v xs)(ht:Touch F W V)(hf:∀k,v.ownBlock=G6 k->¬F k):GZ V B v xs:=by
 rcases h with h|⟨g,cap,rfl,hB,h⟩
 .exact .inl h
 .obtain⟨rest,h1,h2⟩:=h;have hlt:=(AL.1 h1).1;exact .inr ⟨g,cap,rfl,hB,rest,(ht.block g hlt (hf g rfl)).trans h1,h2⟩
theorem PI[Lay α]{xs:List α}(h:GZ W B v xs)(hk:v.ownBlock=G6 k):B<=k:=by
 rcases h with⟨rfl,_⟩|⟨g,cap,rfl,hB,_⟩
 .simp[DJ]at hk
 .simp[DJ]at hk;omega
def FrT(w:FW)(e:Ending):Prop:=∀x0 x1 x2 x3 x4 x5 x6 x7 x8 x9 z:FX,e=.returned (.tuple #[.agg #[x0,x1,x2,x3,x4,x5,x6,x7,x8,x9],z])->OB w.heap.size x1/\OB w.heap.size x4/\OB w.heap.size x7/\OB w.heap.size x9
theorem BY2{x0 x1 x2 x3 x4 x5 x6 x7 x8 x9 z:FX}(h:OB w.heap.size x1/\OB w.heap.size x4/\OB w.heap.size x7/\OB w.heap.size x9):FrT w (.returned (.tuple #[.agg #[x0,x1,x2,x3,x4,x5,x6,x7,x8,x9],z])):=by
 intro u0 u1 u2 u3 u4 u5 u6 u7 u8 u9 t e;simp only[Ending.returned.injEq,Value.tuple.injEq,Value.agg.injEq,Array.mk.injEq,List.cons.injEq]at e;obtain⟨⟨_,rfl,_,_,rfl,_,_,rfl,_,rfl,_⟩,_⟩:=e;exact h
theorem FrT.lower(h:FrT W e)(hw:w.heap.size<=W.heap.size):FrT w e:=fun _ _ _ _ _ _ _ _ _ _ _ he=>by
 obtain⟨h1,h2,h3,h4⟩:=h _ _ _ _ _ _ _ _ _ _ _ he;exact⟨h1.lower hw,h2.lower hw,h3.lower hw,h4.lower hw⟩
theorem AC3(he:e=.returned (.tuple #[svZ,I0 E])):FrT w e:=by
 rw[he];exact BY2 ⟨UO _ _ _,UO _ _ _,UO _ _ _,UO _ _ _⟩
theorem A30(s s':Sv)(t:GN)(safe:Bool)(E:Int)(hT:CV6 s t safe E s')(hp:t.p.length<=140737488355328)(hdl:t.d.length<=140737488355328)(hn:s.ts.length<=1000000000)(W w1:FW)(q:Nat)(hq:q<W.heap.size)
  (ad al an ai aw:Option Addr) (nd cd cl cn ci cw B1 B2:Nat) (h1:W.heap.size<=B1) (h2:B1<=B2) (od:GZ w1 W.heap.size (FU ad nd cd) s.fs) (_hd1:∀k,(Value.slice ad nd cd).ownBlock=G6 k->k<B1)
  (ol:GZ w1 B1 (FU al s.ts.length cl) s.ts) (hl2:∀k,(Value.slice al s.ts.length cl).ownBlock=G6 k->k<B2) (on:GZ w1 B2 (FU an s.tr.ns.length cn) s.tr.ns) (oi:GZ w1 B2 (FU ai s.tr.ss.length ci) s.tr.ss) (ow:GZ w1 B2 (FU aw s.ws.length cw) s.ws) (hb1:B0 W w1):
  FZ prog 98 #[.agg #[.bool s.up,FU ad nd cd,I0 s.id,I0 s.ep,FU al s.ts.length cl,I0 s.dn,I0 s.tr.z,FU an s.tr.ns.length cn,FU ai s.tr.ss.length ci,FU aw s.ws.length cw],J9 t,.bool safe] w1 fun e w'=>CL4 W q s' E e w'/\FrT W e:=by
 have hd:=P9.1 od.seq;have hl:=NY.1 ol.seq;rcases hT with⟨hz,rfl,rfl⟩|⟨hz,hE,rfl,d1,G⟩|⟨hz,rfl,d1,rfl,G⟩
 .exact(B50 s.up s.id s.ep s.dn s.tr.z s.fs s.ts t safe _ _ an ai aw _ cn _ ci _ cw w1 hd hl hz).mono fun e w' h=>⟨oQ h.1 (GH hb1 h.2),AC3 h.1⟩
 .exact(C67 s.up s.id s.ep s.dn s.tr.z s.fs s.ts t safe _ _ an ai aw _ cn _ ci _ cw w1 hd hl hz E d1 hE G).mono fun e w' h=>⟨oQ h.1 (GH hb1 h.2),AC3 h.1⟩
 .refine(B52 s.up s.id s.ep s.dn s.tr.z s.fs s.ts t safe _ _ an ai aw _ cn _ ci _ cw w1 hd hl hz d1 W.heap.size hb1.size (ol.lower h1) hn hp hdl G).mono fun e w' h=>?_;obtain⟨⟨a,n,c,a2,c2,he,hd',ol',_,ht⟩,hfd⟩:=h;have hs:∀ {α:Type} [Lay α] {v:FX} {xs:List α},GZ w1 B2 v xs->GZ w' B2 v xs:=fun ho=>KD ho ht (fun k hk hf=>by have:=PI ho hk;have:=hl2 k hf;omega);refine⟨⟨a,n,c,a2,_,c2,an,_,cn,ai,_,ci,aw,_,cw,he,G8 ⟨hd',NY.1 ol'.seq,(hs on).seq,(hs oi).seq,YK oi (by omega),(hs ow).seq,(MG oi).lower (by omega)⟩,?_⟩,?_⟩;rotate_left
  .have f1:=hfd _ _ _ _ _ _ _ _ _ _ _ he;rw[he];exact BY2 ⟨f1.lower hb1.size,MG ol',(MG on).lower (by omega),(MG ow).lower (by omega)⟩
  exact hb1.trans (ht.below (B:=W.heap.size) hb1.size (fun k hk=>by have:=PI ol hk;omega))
theorem A31(s s':Sv)(v:FX)(t:GN)(safe:Bool)(E:Int)(w:FW)(hv:SvV w v s)(hf:BX5 s)(hT:CV6 s t safe E s')(hp:t.p.length<=140737488355328)(hdl:t.d.length<=140737488355328)(hn:s.ts.length<=1000000000):
  FZ prog 79 #[v,J9 t,.bool safe] w fun e w'=>eP w s' E e w'/\FrT w e:=by
 have CC:=G8 (fun W (hW:B0 w W)=>ZM s v W (hv.next hW) hf);have CX:=G8 (A30 s s' t safe E hT hp hdl hn);obtain⟨ad,nd,cd,al,cl,an,cn,ai,ci,aw,cw,rfl,d1,l1,n1,s1,k1⟩:=hv.five;clear hv d1 l1 n1 s1 k1 hf hT hp hdl hn;obtain⟨up,fs,id,ep,ts,dn,⟨tz,tns,tss⟩,ws⟩:=s;obtain⟨z,o,s,p,d,y,u⟩:=t;unfold J9 at*;simp only at*;go_enter func79,ntmps79;go_upto_region 1 with fail;have X:=G8 (EB.start w up id ep dn tz (FU ad nd cd) (FU al ts.length cl) (FU an tns.length cn) (FU ai tss.length ci) (FU aw ws.length cw) ⟨z,o,s,p,d,y,u⟩);have HB0:=G8 (EB.AC2 w (FV #[.bool up,FU ad nd cd,I0 id,I0 ep,FU al ts.length cl,I0 dn,I0 tz,FU an tns.length cn,FU ai tss.length ci,FU aw ws.length cw] 40) (FV #[I0 z,I0 o,I0 s,S0 p,S0 d,I0 y,I0 u] 79) (FV #[.bool false,N0,I0 0,I0 0,N0,I0 0,I0 0,N0,N0,N0] 40));simp only at X;generalize ((w.alloc (FV #[.bool up,FU ad nd cd,I0 id,I0 ep,FU al ts.length cl,I0 dn,I0 tz,FU an tns.length cn,FU ai tss.length ci,FU aw ws.length cw] 40)).alloc (FV #[I0 z,I0 o,I0 s,S0 p,S0 d,I0 y,I0 u] 79)).alloc (FV #[.bool false,N0,I0 0,I0 0,N0,I0 0,I0 0,N0,N0,N0] 40)=W0 at*;have K1:∀V,B0 W0 V->V.cell? ⟨w.heap.size+1,0,G5⟩=G6 (I0 z)/\V.cell? ⟨w.heap.size+1,1,G5⟩=G6 (I0 o)/\V.cell? ⟨w.heap.size+1,2,G5⟩=G6 (I0 s)/\V.cell? ⟨w.heap.size+1,3,G5⟩=G6 (S0 p)/\V.cell? ⟨w.heap.size+1,4,G5⟩=G6 (S0 d)/\V.cell? ⟨w.heap.size+1,5,G5⟩=G6 (I0 y)/\V.cell? ⟨w.heap.size+1,6,G5⟩=G6 (I0 u):=fun V hV=>by
  have h:=((G7 X).next hV).x;exact⟨h.c0,h.c1,h.c2,h.c3,h.c4,h.c5,h.c6⟩
 have HK1:=G8 K1;obtain⟨x0,x1,x2,x3,x4,x5,x6,x7,x8,x9⟩:=(G7 X).s.cells;obtain⟨e0,e1,e2,e3,e4,e5,e6⟩:=K1 W0 (AA _ _);have hq:=(G7 X).lt;clear K1
 go_region_with (first
  |(go_at_call 97;refine(G7 CC _ (G7 HB0).drew).mono ?_;rintro e w1 ⟨bd,md,fd,bl,fl,bn,fn,bi,fi,bw,fw,B1,B2,rfl,h1,h2,od,hd1,ol,hl2,on,oi,ow,hb1⟩;have HB1:=G8 (IB hb1);obtain⟨m0,m1,m2,m3,m4,m5,m6⟩:=G7 HK1 _ (G7 HB1);have CY:=G8 (G7 CX _ _ (w.heap.size+1+1) (by show w.heap.size+1+1<W0.heap.size;omega) _ _ _ _ _ _ _ _ _ _ _ _ _ h1 h2 od hd1 ol hl2 on oi ow hb1);have X1:=G8 ((G7 X).next (G7 HB1));clear h1 h2 od hd1 ol hl2 on oi ow hb1)
  |(go_at_call 98;refine(G7 CY).mono ?_;rintro e w2 ⟨⟨gd,nd2,cd2,gl,nl2,cl2,gn,nn2,cn2,gi,ni2,ci2,gw,nw2,cw2,rfl,H2,hb2⟩,hft⟩;have HFT:=G8 hft;clear hft;have X2:=(G7 X).next (IB hb2);have R2:=X2.r;obtain⟨r0,r1,r2,r3,r4,r5,r6,r7,r8,r9⟩:=R2.cells;have rf0:=R2.GU 0;have rf1:=R2.GU 1;have rf2:=R2.GU 2;have rf3:=R2.GU 3;have rf4:=R2.GU 4;have rf5:=R2.GU 5;have rf6:=R2.GU 6;have rf7:=R2.GU 7;have rf8:=R2.GU 8;have rf9:=R2.GU 9;have D2:=G8 R2.gU;have HB2:=G8 (GH (G7 HB0) (IB hb2));clear hb2 R2 X2))
 all_goals
  go_wp2_with fail;refine bodyPost_ret (v:=.tuple #[.agg #[.bool s'.up,FU gd nd2 cd2,I0 s'.id,I0 s'.ep,FU gl nl2 cl2,I0 s'.dn,I0 s'.tr.z,FU gn nn2 cn2,FU gi ni2 ci2,FU gw nw2 cw2],I0 E]) (by simp[results,results79,go_sem,r0,r1,r2,r3,r4,r5,r6,r7,r8,r9]) rfl ?_;obtain⟨g1,g2,g3,g4,g5,g6,g7⟩:=G7 H2;exact⟨⟨gd,nd2,cd2,gl,nl2,cl2,gn,nn2,cn2,gi,ni2,ci2,gw,nw2,cw2,rfl,G8 ⟨bI (s:=s') (G7 D2) g1 g2 g3 g4 g5 g6,g7.lower (by show w.heap.size<=W0.heap.size;omega)⟩,JL (G7 HB2) (by omega) _ _ _ _ _ _ _ _ _ _⟩,(G7 HFT).lower (by show w.heap.size<=W0.heap.size;omega)⟩
theorem CB.dput(h:CB w W up vd id ep vl dn z vn vs vw)(q:Nat)(u:FX)(hq:w.heap.size+2<=q):CB w (W.setCell ⟨q,0,G5⟩ u) up vd id ep vl dn z vn vs vw:=
 ⟨h.below.setCell (by simp only;omega) u,h.s.other (by omega),h.r.other (by omega)⟩
def CV8(l:List GN)(k:Nat)(z:Int):Prop:=(k=0/\z=-1)\/∃x,0<k/\l[k-1]?=G6 x/\z=x.z
theorem AN9(s:Sv)(v:FX)(vl:FX)(l:List GN)(epo:Int)(w:FW)(hv:SvV w v s)(hvl:NC w vl l)(hf:BX5 s)(hll:l.length<=1000000000)(hk:(KW s.ts l:Int)<s.dn):
  FZ prog 66 #[v,vl,I0 epo] w (oO w 13):=by
 obtain⟨ad,nd,cd,al,cl,an,cn,ai,ci,aw,cw,rfl,d1,l1,n1,s1,k1⟩:=hv.five;have CC:=G8 (fun W (hW:B0 w W)=>oK _ vl s.ts l W (l1.next hW) (hvl.next hW) (by have:=hf.l;omega) (by omega));obtain⟨lb,lc,rfl⟩:=MC hvl;clear hv d1 l1 n1 s1 k1 hvl hf hll;obtain⟨up,fs,id,ep,ts,dn,⟨tz,tns,tss⟩,ws⟩:=s;simp only at*;generalize KW ts l=k at*;go_enter func66,ntmps66;go_wp2_with fail;have X0:=G8 (CB.start w up id ep dn tz (FU ad nd cd) (FU al ts.length cl) (FU an tns.length cn) (FU ai tss.length ci) (FU aw ws.length cw));generalize (w.alloc (FV #[.bool up,FU ad nd cd,I0 id,I0 ep,FU al ts.length cl,I0 dn,I0 tz,FU an tns.length cn,FU ai tss.length ci,FU aw ws.length cw] 40)).alloc (FV #[.bool false,N0,I0 0,I0 0,N0,I0 0,I0 0,N0,N0,N0] 40)=W0 at*;refine(G7 CC _ (G7 X0).below).mono ?_;rintro e w1 ⟨rfl,hb1⟩;have X1:=G8 ((G7 X0).next hb1);have x5:=(G7 X1).s.cells.2.2.2.2.2.1;clear hb1 X0 CC;obtain⟨r0,r1,r2,r3,r4,r5,r6,r7,r8,r9⟩:=(G7 X1).r.cells;have rf0:=(G7 X1).r.GU 0;have rf1:=(G7 X1).r.GU 1;have rf2:=(G7 X1).r.GU 2;have rf3:=(G7 X1).r.GU 3;have rf4:=(G7 X1).r.GU 4;have rf5:=(G7 X1).r.GU 5;have rf6:=(G7 X1).r.GU 6;have rf7:=(G7 X1).r.GU 7;have rf8:=(G7 X1).r.GU 8;have rf9:=(G7 X1).r.GU 9;go_wp2_with fail;exact bodyPost_ret (v:=.tuple #[.agg #[.bool false,N0,I0 0,I0 0,N0,I0 0,I0 0,N0,N0,N0],I0 13]) (by simp[results,results66,go_sem,r0,r1,r2,r3,r4,r5,r6,r7,r8,r9]) rfl (kQ rfl (G7 X1).zero)
def RF(w W:FW)(s:Sv):Prop:=∃ad nd cd al nl cl an nn cn ai ni ci aw nw cw,CB w W s.up (FU ad nd cd) s.id s.ep (FU al nl cl) s.dn s.tr.z (FU an nn cn) (FU ai ni ci) (FU aw nw cw)/\V7 (FU ai ni ci) (w.heap.size+1)/\
 SvV W (.agg #[.bool s.up,FU ad nd cd,I0 s.id,I0 s.ep,FU al nl cl,I0 s.dn,I0 s.tr.z,FU an nn cn,FU ai ni ci,FU aw nw cw]) s
theorem NC.take{ts:List GN}(h:NC w (FU a ts.length c) ts)(hk:k<=ts.length):NC w (FU a k c) (ts.take k):=by
 rcases h with⟨a',cap,e,rfl,hc⟩|⟨b,off,cap,e,h1,h2,h3,h0,h4⟩
 .simp only[AQ]at e;obtain⟨rfl,_,rfl⟩:=e;obtain rfl:k=0:=by simpa using hk
  exact .inl ⟨a,c,rfl,by simp,hc⟩
 .simp only[AQ]at e;obtain⟨rfl,_,rfl⟩:=e;by_cases k0:k=0
  .subst k0;exact .inl ⟨_,c,rfl,by simp,h2⟩
  .have hl:(ts.take k).length=k:=by simp;omega
   refine .inr ⟨b,off,c,by rw[hl],by omega,h2,h3,by intro e;rw[e]at hl;simp at hl;omega,fun j v hj=>h4 j v ?_⟩;have e:ts=ts.take k++ts.drop k:=(DV k ts).symm;rw[e,RS,List.getElem?_append_left (List.getElem?_eq_some_iff.1 hj).1];exact hj
theorem CB.OG{up0:Bool}{id0 ep0 dn0 z0:Int}{vd0 vl0 vn0 vs0 vw0:FX}(h:CB w W up0 vd0 id0 ep0 vl0 dn0 z0 vn0 vs0 vw0)(up:Bool)(id ep dn z:Int)(vd vl vn vs vw:FX):
  CB w (Go.Proofs.YtppjdeblncincaaGreatDoor.OG W w.heap.size (.bool up) vd (I0 id) (I0 ep) vl (I0 dn) (I0 z) vn vs vw) up vd id ep vl dn z vn vs vw:=by
 refine⟨JL h.below (A8 _) _ _ _ _ _ _ _ _ _ _,?_,?_⟩
 .unfold IG Go.Proofs.YtppjdeblncincaaGreatDoor.OG;rw[GV _ (GV _ (GV _ (GV _ (GV _ (GV _ (GV _ (GV _ (GV _ (GV _ h.s)))))))))];simp
 .unfold Go.Proofs.YtppjdeblncincaaGreatDoor.OG;exact(IG.other (IG.other (IG.other (IG.other (IG.other (IG.other (IG.other (IG.other (IG.other (IG.other h.r (by omega)) (by omega)) (by omega)) (by omega)) (by omega)) (by omega)) (by omega)) (by omega)) (by omega)) (by omega))
theorem NC.drop{l:List GN}(h:NC w (FU a l.length c) l)(hk:k<=l.length):
  (c=k->NC w (FU a (l.length-k) 0) (l.drop k))/\(c≠k->NC w (FU (Option.map (fun x=>x.add (k*7)) a) (l.length-k) (c-k)) (l.drop k)):=by
 have hlen:(l.drop k).length=l.length-k:=by simp
 rcases h with⟨a',cap,e,rfl,hc⟩|⟨b,off,cap,e,h1,h2,h3,h0,h4⟩
 .simp only[AQ]at e;obtain⟨rfl,_,rfl⟩:=e;exact⟨fun _=>.inl ⟨a,0,by simp,by simp,AZ _⟩,fun _=>.inl ⟨Option.map (fun x=>x.add (k*7)) a,c-k,by simp,by simp,by omega⟩⟩
 .simp only[AQ]at e;obtain⟨rfl,_,rfl⟩:=e;by_cases hd:l.drop k=[]
  .have h0':l.length-k=0:=by rw[<-hlen,hd];rfl
   exact⟨fun _=>.inl ⟨_,_,by rw[h0'],hd,by simp⟩,fun _=>.inl ⟨_,_,by rw[h0'],hd,by omega⟩⟩
  .have hlt:0<l.length-k:=by rw[<-hlen];exact List.length_pos_iff.2 hd
   refine⟨fun e=>by omega,fun _=>.inr ⟨b,off+k*7,c-k,by rw[hlen,Option.map_some,Addr.add_lit],by omega,by omega,h3,hd,fun j v hj=>?_⟩⟩;have e:JZ l=JZ (l.take k)++JZ (l.drop k):=by rw[<-RS,DV]
   have hl7:(JZ (l.take k)).length=k*7:=by rw[aX];simp;omega
   have:=h4 (k*7+j) v (by rw[e,List.getElem?_append_right (by omega),hl7,Nat.add_sub_cancel_left];exact hj);rwa[<-Nat.add_assoc]at this
theorem CB.putE(h:CB w W up vd id ep vl dn z vn vs vw)(e:Int):CB w (W.setCell ⟨w.heap.size,3,G5⟩ (I0 e)) up vd id e vl dn z vn vs vw:=by
 refine⟨h.below.setCell (by simp) _,?_,h.r.other (by omega)⟩;unfold IG;rw[GV (I0 e) h.s];rfl
def kU(w:FW)(s:Sv)(N:List Nt)(E:Int)(e:Ending)(w':FW):Prop:=∃v a c,e=.returned (.tuple #[v,FU a N.length c,I0 E])/\SvV w' v s/\IL w' (FU a N.length c) N/\B0 w w'
theorem AO1{w':FW}(he:e=.returned (.tuple #[.agg #[.bool false,N0,I0 0,I0 0,N0,I0 0,I0 0,N0,N0,N0],N0,I0 E]))(hb:B0 w w'):kU w sv0 [] E e w':=
 ⟨_,G5,0,he,SvV.zero w',IL.nil w',hb⟩
theorem BO2(hb:B0 w W)(hk:w.heap.size<=k):B0 w (OG W k (.bool false) (N0) (I0 0) (I0 0) (N0) (I0 0) (I0 0) (N0) (N0) (N0)):=JL hb hk _ _ _ _ _ _ _ _ _ _
theorem BO3{lo hi:Nat}{ts:List GN}(h:NC w (FU a ts.length c) ts)(h1:lo<=hi)(h2:hi<=ts.length):
  (c=lo->NC w (FU a (hi-lo) 0) ((ts.drop lo).take (hi-lo)))/\(c≠lo->NC w (FU (Option.map (fun x=>x.add (lo*7)) a) (hi-lo) (c-lo)) ((ts.drop lo).take (hi-lo))):=by
 have hl:(ts.drop lo).length=ts.length-lo:=by simp
 obtain⟨d1,d2⟩:=h.drop (k:=lo) (by omega);rw[<-hl]at d1 d2;exact⟨fun e=>(d1 e).take (by omega),fun e=>(d2 e).take (by omega)⟩
theorem CI.done(h:CI w W ka kn kr s N vd vl vn vs vw vN)(n:Int):CI w (W.setCell ⟨ka,5,G5⟩ (I0 n)) ka kn kr ⟨s.up,s.fs,s.id,s.ep,s.ts,n,s.tr,s.ws⟩ N vd vl vn vs vw vN:=by
 have b1:IG (W.setCell ⟨ka,5,G5⟩ (I0 n)) ka s.up vd s.id s.ep vl n s.tr.z vn vs vw:=GV (j:=5) _ h.box;refine⟨b1,(BG _ _ _ _ (Ne.symm h.ne)).trans h.nb,QF h.d h.box (by decide) _,QF h.l h.box (by decide) _,QF h.n h.box (by decide) _,QF h.i h.box (by decide) _,QF h.o h.box (by decide) _,QF h.t h.box (by decide) _,h.below.setCell h.ha _,h.ha,h.hn,h.ne,h.r.other h.r1,h.r1,h.r2,h.hr⟩
theorem eU[Lay α]{xs:List α}(h:GZ W B v xs)(hb:IG W k up vd id ep vl dn z vn vs vw)(hne:40≠Lay.ty α)(x0 x1 x2 x3 x4 x5 x6 x7 x8 x9:FX):GZ (OG W k x0 x1 x2 x3 x4 x5 x6 x7 x8 x9) B v xs:=by
 have hk:=bM h hb hne;unfold OG;exact(((((((((h.other hk _).other hk _).other hk _).other hk _).other hk _).other hk _).other hk _).other hk _).other hk _).other hk _
theorem CI.out(h:CI w W ka kn kr s N vd vl vn vs vw vN)(x0 x1 x2 x3 x4 x5 x6 x7 x8 x9:FX):
  SvV (OG W kr x0 x1 x2 x3 x4 x5 x6 x7 x8 x9) (.agg #[.bool s.up,vd,I0 s.id,I0 s.ep,vl,I0 s.dn,I0 s.tr.z,vn,vs,vw]) s/\IL (OG W kr x0 x1 x2 x3 x4 x5 x6 x7 x8 x9) vN N/\B0 w (OG W kr x0 x1 x2 x3 x4 x5 x6 x7 x8 x9):=
 ⟨⟨vd,vl,vn,vs,vw,rfl,P9.1 (eU h.d h.r (by decide) _ _ _ _ _ _ _ _ _ _).seq,NY.1 (eU h.l h.r (by decide) _ _ _ _ _ _ _ _ _ _).seq,(eU h.n h.r (by decide) _ _ _ _ _ _ _ _ _ _).seq,(eU h.i h.r (by decide) _ _ _ _ _ _ _ _ _ _).seq,(eU h.o h.r (by decide) _ _ _ _ _ _ _ _ _ _).seq⟩,(eU h.t h.r (by decide) _ _ _ _ _ _ _ _ _ _).seq,JL h.below h.hr _ _ _ _ _ _ _ _ _ _⟩
theorem BO4{w W1 w1:FW}{s:Sv}{ad al an ai aw:Option Addr}{nd cd cl cn ci cw:Nat}{bd bl bn bi bw:Option Addr}{md fd fl fn fi fw B1 B2:Nat}(h:CB w W1 s.up (FU ad nd cd) s.id s.ep (FU al s.ts.length cl) s.dn s.tr.z (FU an s.tr.ns.length cn) (FU ai s.tr.ss.length ci) (FU aw s.ws.length cw))
  (h1:W1.heap.size<=B1) (h2:B1<=B2) (od:GZ w1 W1.heap.size (FU bd md fd) s.fs) (ol:GZ w1 B1 (FU bl s.ts.length fl) s.ts) (on:GZ w1 B2 (FU bn s.tr.ns.length fn) s.tr.ns) (oi:GZ w1 B2 (FU bi s.tr.ss.length fi) s.tr.ss) (ow:GZ w1 B2 (FU bw s.ws.length fw) s.ws) (hb:B0 W1 w1):
  CI w ((w1.alloc (FV #[.bool s.up,FU bd md fd,I0 s.id,I0 s.ep,FU bl s.ts.length fl,I0 s.dn,I0 s.tr.z,FU bn s.tr.ns.length fn,FU bi s.tr.ss.length fi,FU bw s.ws.length fw] 40)).alloc (FV #[N0] 51)) w1.heap.size (w1.heap.size+1) (w.heap.size+1) s [] (FU bd md fd) (FU bl s.ts.length fl) (FU bn s.tr.ns.length fn) (FU bi s.tr.ss.length fi) (FU bw s.ws.length fw) (N0):=by
 have hz:=h.below.size;have hz1:=hb.size;have hr:=h.r.lt;have a1:=G9 w1 (FV #[.bool s.up,FU bd md fd,I0 s.id,I0 s.ep,FU bl s.ts.length fl,I0 s.dn,I0 s.tr.z,FU bn s.tr.ns.length fn,FU bi s.tr.ss.length fi,FU bw s.ws.length fw] 40);have a2:=G9 (w1.alloc (FV #[.bool s.up,FU bd md fd,I0 s.id,I0 s.ep,FU bl s.ts.length fl,I0 s.dn,I0 s.tr.z,FU bn s.tr.ns.length fn,FU bi s.tr.ss.length fi,FU bw s.ws.length fw] 40)) (FV #[N0] 51);have b:=GH a1 a2;refine⟨(IG.new w1 s.up s.id s.ep s.dn s.tr.z _ _ _ _ _).next a2,?_,(od.next b).lower hz,(ol.next b).lower (by omega),(on.next b).lower (by omega),(oi.next b).lower (by omega),(ow.next b).lower (by omega),.inl ⟨rfl,rfl⟩,GH (GH h.below hb) b,by omega,by omega,by omega,(h.r.next hb).next b,by omega,by omega,by omega⟩;have:=heap_alloc_new (w1.alloc (FV #[.bool s.up,FU bd md fd,I0 s.id,I0 s.ep,FU bl s.ts.length fl,I0 s.dn,I0 s.tr.z,FU bn s.tr.ns.length fn,FU bi s.tr.ss.length fi,FU bw s.ws.length fw] 40)) (FV #[N0] 51);rwa[show (w1.alloc (FV #[.bool s.up,FU bd md fd,I0 s.id,I0 s.ep,FU bl s.ts.length fl,I0 s.dn,I0 s.tr.z,FU bn s.tr.ns.length fn,FU bi s.tr.ss.length fi,FU bw s.ws.length fw] 40)).heap.size=w1.heap.size+1 by simp]at this
def FrS(w:FW)(e:Ending):Prop:=∀x0 x1 x2 x3 x4 x5 x6 x7 x8 x9 y z:FX,e=.returned (.tuple #[.agg #[x0,x1,x2,x3,x4,x5,x6,x7,x8,x9],y,z])->OB w.heap.size x8/\OB w.heap.size x1/\OB w.heap.size x4/\OB w.heap.size x7/\OB w.heap.size x9/\OB w.heap.size y
theorem CL5{x0 x1 x2 x3 x4 x5 x6 x7 x8 x9 y z:FX}(h:OB w.heap.size x8/\OB w.heap.size x1/\OB w.heap.size x4/\OB w.heap.size x7/\OB w.heap.size x9/\OB w.heap.size y):FrS w (.returned (.tuple #[.agg #[x0,x1,x2,x3,x4,x5,x6,x7,x8,x9],y,z])):=by
 intro u0 u1 u2 u3 u4 u5 u6 u7 u8 u9 t r e;simp only[Ending.returned.injEq,Value.tuple.injEq,Value.agg.injEq,Array.mk.injEq,List.cons.injEq]at e;obtain⟨⟨_,rfl,_,_,rfl,_,_,rfl,rfl,rfl,_⟩,rfl,_⟩:=e;exact h
theorem xB(s:Sv)(v:FX)(dN nN k:Nat)(xs:List GN)(w:FW)(hv:SvV w v s)(hf:BX5 s)(hdn:s.dn=dN)(h1:dN<=nN)(h2:nN<=s.ts.length)(hxs:xs=(s.ts.drop dN).take (nN-dN))(hC:Chn s xs k)(hB:BN3 s xs):
  FZ prog 80 #[v,I0 nN] w fun e w'=>(k=xs.length->kU w ⟨(csP s xs k).1.up,(csP s xs k).1.fs,(csP s xs k).1.id,(csP s xs k).1.ep,(csP s xs k).1.ts,nN,(csP s xs k).1.tr,(csP s xs k).1.ws⟩ (csP s xs k).2 0 e w'/\FrS w e)/\(∀x,xs[k]?=G6 x->kU w sv0 [] (YS (csP s xs k).1.tr x) e w'):=by
 have CC:=G8 (fun W (hW:B0 w W)=>ZM s v W (hv.next hW) hf);obtain⟨ad,nd,cd,al,cl,an,cn,ai,ci,aw,cw,rfl,d1,l1,n1,s1,k1⟩:=hv.five;have hxl:xs.length=nN-dN:=by rw[hxs];simp;omega
 have HLS:=G8 (fun W (hW:B0 w W)=>BO3 (l1.next hW) h1 h2);rw[<-hxs]at HLS;have hcl:s.ts.length<=cl/\cl<=9223372036854775807:=by
  rcases l1 with⟨_,_,e,e0,hm⟩|⟨_,_,_,e,h3,h4,_⟩
  .simp only[AQ]at e;rw[e0]at e⊢;simp only[maxLen]at hm;simp;omega
  .simp only[AQ]at e;simp only[maxLen]at h4;omega
 have hll:s.ts.length*72<=140737488355328:=hf.l;have HC:=G8 hC;have HBs:=G8 hB;have hkl:=hC.le;clear hv d1 l1 n1 s1 k1 hxs hC hB hf;have hdi:¬s.dn<0:=by omega
 have hni:¬ (nN:Int)<s.dn:=by omega
 have HDN:=G8 hdn;clear hdn;have hnl:¬ (nN:Int)>(s.ts.length:Int):=by omega
 go_enter func80,ntmps80;go_upto_region 1 with fail;have X1:=G8 (CB.start w s.up s.id s.ep s.dn s.tr.z (FU ad nd cd) (FU al s.ts.length cl) (FU an s.tr.ns.length cn) (FU ai s.tr.ss.length ci) (FU aw s.ws.length cw));generalize (w.alloc (FV #[.bool s.up,FU ad nd cd,I0 s.id,I0 s.ep,FU al s.ts.length cl,I0 s.dn,I0 s.tr.z,FU an s.tr.ns.length cn,FU ai s.tr.ss.length ci,FU aw s.ws.length cw] 40)).alloc (FV #[.bool false,N0,I0 0,I0 0,N0,I0 0,I0 0,N0,N0,N0] 40)=W1 at*;obtain⟨x0,x1,x2,x3,x4,x5,x6,x7,x8,x9⟩:=(G7 X1).s.cells;go_upto_region 4 with fail;go_wp2_with fail
 with_reducible refine(G7 CC _ (G7 X1).below).mono ?_
 rintro e w1 ⟨bd,md,fd,bl,fl,bn,fn,bi,fi,bw,fw,B1,B2,rfl,g1,g2,od,hd1,ol,hl2,on,oi,ow,hb1⟩;have CI0:=G8 (BO4 (G7 X1) g1 g2 od ol on oi ow hb1);have X2:=G8 (((G7 X1).next hb1).next (GH (G9 w1 (FV #[.bool s.up,FU bd md fd,I0 s.id,I0 s.ep,FU bl s.ts.length fl,I0 s.dn,I0 s.tr.z,FU bn s.tr.ns.length fn,FU bi s.tr.ss.length fi,FU bw s.ws.length fw] 40)) (G9 (w1.alloc (FV #[.bool s.up,FU bd md fd,I0 s.id,I0 s.ep,FU bl s.ts.length fl,I0 s.dn,I0 s.tr.z,FU bn s.tr.ns.length fn,FU bi s.tr.ss.length fi,FU bw s.ws.length fw] 40)) (FV #[N0] 51))));clear g1 g2 od hd1 ol hl2 on oi ow hb1 X1 CC x0 x1 x2 x3 x4 x5 x6 x7 x8 x9;go_upto_region 7 with fail;generalize (w1.alloc (FV #[.bool s.up,FU bd md fd,I0 s.id,I0 s.ep,FU bl s.ts.length fl,I0 s.dn,I0 s.tr.z,FU bn s.tr.ns.length fn,FU bi s.tr.ss.length fi,FU bw s.ws.length fw] 40)).alloc (FV #[N0] 51)=W2 at*;generalize w1.heap.size+1=kn at*;generalize w1.heap.size=ka at*;have x4:=(G7 X2).s.cells.2.2.2.2.1;rw[G7 HDN]
 go_cut [41,42,43]from 36 (fun t41 t42 t43 wx=>∃la lcc,t41=FU la (nN-dN) lcc/\t42=I0 ((nN-dN:Nat):Int)/\t43=I0 0/\wx=W2/\Hid (∀W,B0 w W->NC W (FU la (nN-dN) lcc) xs))
 case first=>
  by_cases hlc:cl=dN
  .subst hlc;go_wp2_with fail
   all_goals go_meet
   all_goals exact⟨_,_,rfl,rfl,rfl,rfl,G8 fun W hW=>(G7 HLS W hW).1 (by first|rfl|trivial)⟩
  .go_wp2_with fail
   all_goals go_meet
   all_goals exact⟨_,_,rfl,rfl,rfl,rfl,G8 fun W hW=>(G7 HLS W hW).2 hlc⟩
 case rest=>
  obtain⟨la,lcc,rfl,rfl,rfl,rfl,HLX⟩:=hcut;rw[<-hxl]at HLX⊢;have HXL:=G8 hxl;have hx63:xs.length<=1000000000000000:=by omega
  clear HLS hxl h1 h2 hcl hll hdi hni hnl X2 x4;go_wp2_with fail
  go_loopg [43] xs.length (fun kx s43 wr=>∃i:Nat,s43=I0 i/\i<=k/\xs.length-i<=kx/\Hid (∃ad nd cd al cl an cn ai ci aw cw aN cN,CI w wr ka kn (w.heap.size+1) (csP s xs i).1 (csP s xs i).2 (FU ad nd cd) (FU al (csP s xs i).1.ts.length cl) (FU an (csP s xs i).1.tr.ns.length cn) (FU ai (csP s xs i).1.tr.ss.length ci) (FU aw (csP s xs i).1.ws.length cw) (FU aN (csP s xs i).2.length cN)))
  case atStart=>exact⟨0,rfl,AZ _,A8 _,G8 (by rw[rG];exact⟨_,_,_,_,_,_,_,_,_,_,_,_,_,G7 CI0⟩)⟩
  case round=>
   obtain⟨i,rfl,hi,hgi,HI⟩:=hrel;by_cases hlt:i<xs.length
   .obtain⟨x,hx⟩:∃x,xs[i]?=G6 x:=⟨_,AO hlt⟩;obtain⟨ead,CT1,ecd,eal,ecl,ean,ecn,eai,eci,eaw,ecw,eaN,ecN,hci⟩:=G7 HI;obtain⟨b,o,c,he,hb,q,hq9⟩:=ZK (G7 HLX wr hci.below) hx;simp only[AQ]at he;obtain⟨rfl,he2,rfl⟩:=he;clear he2 hq9;have e0:=q.z hx;have e1:=q.o hx;have e2:=q.s hx;have e3:=q.p hx;have e4:=q.d hx;have e5:=q.v hx;have e6:=q.w hx;have hii:(i:Int)<(xs.length:Int):=by omega
    have hal:=G9 wr (FV #[I0 x.z,I0 x.o,I0 x.s,S0 x.p,S0 x.d,I0 x.v,I0 x.w] 79);have HC1:=G8 (A25 w _ ka kn (w.heap.size+1) (csP s xs i).1 (csP s xs i).2 x ead eal ean eai eaw eaN CT1 ecd ecl ecn eci ecw ecN (hci.next hal) (C54 (G7 HBs) (G7 HC) hi hx));have HT1:=TAt.new wr x;have HX:=G8 hx;have HR0:=G8 (hci.r.next hal);have HB1:=G8 (GH hci.below hal);have t0:=HT1.c0;have t1:=HT1.c1;have t2:=HT1.c2;have t3:=HT1.c3;have t4:=HT1.c4;have t5:=HT1.c5;have t6:=HT1.c6;clear q hb hx hal HT1 hci HI;obtain⟨z,op,u,p,d,y,vv⟩:=x;unfold J9 at HC1;simp only at e0 e1 e2 e3 e4 e5 e6 t0 t1 t2 t3 t4 t5 t6;go_upto_region 10 with fail;generalize wr.alloc (FV #[I0 z,I0 op,I0 u,S0 p,S0 d,I0 y,I0 vv] 79)=W6 at*;generalize wr.heap.size=kx at*;clear e0 e1 e2 e3 e4 e5 e6;go_wp2_with fail;refine(G7 HC1).mono ?_;rintro e w7 ⟨rfl,hout⟩;have HO:=G8 hout;clear HC1 hout t0 t1 t2 t3 t4 t5 t6;have HX':=G7 HX;obtain⟨E,hE⟩:∃E,YS (csP s xs i).1.tr ⟨z,op,u,p,d,y,vv⟩=E:=⟨_,rfl⟩;rw[hE]at HO;rw[hE];by_cases hik:i<k
    .obtain rfl:E=0:=by rw[<-hE];exact(G7 HC).ok i _ hik HX'
     have HIN:Hid (∃ad nd cd al cl an cn ai ci aw cw aN cN,CI w w7 ka kn (w.heap.size+1) (csP s xs (i+1)).1 (csP s xs (i+1)).2 (FU ad nd cd) (FU al (csP s xs (i+1)).1.ts.length cl) (FU an (csP s xs (i+1)).1.tr.ns.length cn) (FU ai (csP s xs (i+1)).1.tr.ss.length ci) (FU aw (csP s xs (i+1)).1.ws.length cw) (FU aN (csP s xs (i+1)).2.length cN)):=G8 (by
      rw[AB6 HX'];simp only[stP,AP];exact(G7 HO).2.2 rfl)
     clear HO hE HX';go_wp2_with fail
     go_roundg (xs.length-(i+1))
     case measure=>omega
     case rel=>exact⟨i+1,rfl,by omega,A8 _,HIN⟩
    .obtain rfl:i=k:=by omega
     have hE0:E≠0:=by rw[<-hE];exact(G7 HC).stop _ HX'
     have HR7:=(G7 HR0).next ((G7 HO).2.1 hE0);have HBw:=G8 (BO2 (G7 HO).1 (show w.heap.size<=w.heap.size+1 by omega));unfold OG at HBw;obtain⟨r0,r1,r2,r3,r4,r5,r6,r7,r8,r9⟩:=HR7.cells;have rf0:=HR7.GU 0;have rf1:=HR7.GU 1;have rf2:=HR7.GU 2;have rf3:=HR7.GU 3;have rf4:=HR7.GU 4;have rf5:=HR7.GU 5;have rf6:=HR7.GU 6;have rf7:=HR7.GU 7;have rf8:=HR7.GU 8;have rf9:=HR7.GU 9;have HE:=G8 hE;clear HR7 HO HR0 hE HX';go_wp2_with fail;refine bodyPost_ret (v:=.tuple #[.agg #[.bool false,N0,I0 0,I0 0,N0,I0 0,I0 0,N0,N0,N0],N0,I0 E]) (by simp[results,results80,go_sem,r0,r1,r2,r3,r4,r5,r6,r7,r8,r9]) rfl ?_;refine⟨fun h=>by omega,fun x' hx'=>?_⟩;rw[G7 HX]at hx'
     cases hx'
     rw[G7 HE];exact AO1 rfl (G7 HBw)
   .obtain rfl:i=k:=by omega
    have hik:i=xs.length:=by omega
    obtain⟨ead,CT1,ecd,eal,ecl,ean,ecn,eai,eci,eaw,ecw,eaN,ecN,hci⟩:=G7 HI;obtain⟨S,hS⟩:∃S,(csP s xs i).1=S:=⟨_,rfl⟩;obtain⟨NN,hNN⟩:∃NN,(csP s xs i).2=NN:=⟨_,rfl⟩;rw[hS,hNN]at hci;have HD:=G8 (hci.done nN);have HFR:=G8 (And.intro (MG hci.i) (And.intro (MG hci.d) (And.intro (MG hci.l) (And.intro (MG hci.n) (And.intro (MG hci.o) (MG hci.t))))));have x5:=hci.box.cells.2.2.2.2.2.1;have xf5:=hci.box.GU 5;have HS:=G8 hS;have HNN:=G8 hNN;have HIK:=G8 hik;have hki:¬ ((i:Int)<(xs.length:Int)):=by omega
    clear hci HI hS hNN hik;go_upto_region 15 with fail;generalize wr.setCell ⟨ka,5,G5⟩ (I0 nN)=W8 at*;clear x5 xf5;obtain⟨x0,x1,x2,x3,x4,x5,x6,x7,x8,x9⟩:=(G7 HD).box.cells;have n0:W8.cell? ⟨kn,0,G5⟩=G6 (FU eaN NN.length ecN):=by simp[AX,(G7 HD).nb]
    obtain⟨r0,r1,r2,r3,r4,r5,r6,r7,r8,r9⟩:=(G7 HD).r.cells;have rf0:=(G7 HD).r.GU 0;have rf1:=(G7 HD).r.GU 1;have rf2:=(G7 HD).r.GU 2;have rf3:=(G7 HD).r.GU 3;have rf4:=(G7 HD).r.GU 4;have rf5:=(G7 HD).r.GU 5;have rf6:=(G7 HD).r.GU 6;have rf7:=(G7 HD).r.GU 7;have rf8:=(G7 HD).r.GU 8;have rf9:=(G7 HD).r.GU 9;have C72:=G8 ((G7 HD).out (.bool S.up) (FU ead CT1 ecd) (I0 S.id) (I0 S.ep) (FU eal S.ts.length ecl) (I0 nN) (I0 S.tr.z) (FU ean S.tr.ns.length ecn) (FU eai S.tr.ss.length eci) (FU eaw S.ws.length ecw));have hl1:=(G7 HD).box.lt;have hl2:=(G7 HD).r.lt;have HB8:=G8 (G7 HD).below;have hne1:w.heap.size+1≠ka:=(G7 HD).r1;have hne2:w.heap.size+1≠kn:=(G7 HD).r2;have hne3:ka≠w.heap.size+1:=fun h=>hne1 h.symm;have hne4:kn≠w.heap.size+1:=fun h=>hne2 h.symm;clear HD;simp only at x0 x1 x2 x3 x4 x5 x6 x7 x8 x9;unfold OG at C72;go_region
    all_goals go_wp2_with fail
    all_goals refine bodyPost_ret (v:=.tuple #[.agg #[.bool S.up,FU ead CT1 ecd,I0 S.id,I0 S.ep,FU eal S.ts.length ecl,I0 nN,I0 S.tr.z,FU ean S.tr.ns.length ecn,FU eai S.tr.ss.length eci,FU eaw S.ws.length ecw],FU eaN NN.length ecN,I0 0]) (by simp[results,results80,go_sem,r0,r1,r2,r3,r4,r5,r6,r7,r8,r9]) rfl ?_
    all_goals rw[G7 HS,G7 HNN]
    all_goals refine fun _=>⟨⟨_,_,_,rfl,?_,?_,?_⟩,CL5 (G7 HFR)⟩
    all_goals first
     |exact(G7 C72).1.next ((AA _ _).drew)
     |exact(G7 C72).2.1.next ((AA _ _).drew)
     |exact(G7 C72).2.2.drew
     |exact(G7 C72).1
     |exact(G7 C72).2.1
     |exact(G7 C72).2.2
noncomputable def CV9(id:Int):Sv:=⟨true,[OX []],id,Z7 [],[],0,QL,[]⟩
theorem B56:oM 50 (fun x=>#[x]) [] [] [OX []] 0:=
 fQ [] [OX []] 0 (fun v W hv=>by
  have h:=A00 v [] NV 7 W hv (JV XM) (.inr ⟨XM,⟨[],[],rM _⟩,rfl⟩);exact h)
  (MQ fun v W hv=>bF v [] [] [] NV [] W hv (JV XM) XM bP (by decide) (rM _) (by decide))
theorem B57(id:Int)(h0:0<=id)(h1:id<3)(w:FW):FZ prog 31 #[I0 id,.agg #[N0]] w (bG w (CV9 id) 0):=
 AC1 (N0) [] [OX []] [] id w (IV.nil w) (by intro f hf;simp at hf) h0 h1 B56
noncomputable def QT(m:List GN)(i:Nat):Tr:=(m.take i).foldl jI QL
theorem XQ(m:List GN):QT m 0=QL:=by simp[QT]
theorem xI{m:List GN}(h:m[i]?=G6 x):QT m (i+1)=jI (QT m i) x:=by
 unfold QT;rw[PV h,List.foldl_append];rfl
theorem iK(m:List GN)(x:GN)(h:i<=m.length):QT (m++[x]) i=QT m i:=by
 unfold QT;rw[List.take_append_of_le_length h]
theorem B58(xs:List GN):∀ (s:Sv) (N:List Nt),(xs.foldl stP (s,N)).1.tr=xs.foldl jI s.tr:=by
 induction xs with
 |nil=>intro s N;rfl
 |cons x xs ih=>
  intro s N;simp only[List.foldl_cons];exact ih (fO s x) _
