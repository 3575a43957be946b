/-
  Part.
-/
import Derived.Test.YthcncjimjclfpaaGreatDoorLSR
import Derived.Test.YthcncjimjclfpaaGreatDoorLSO
import Derived.Test.YthcncjimjclfpaaGreatDoorLSN
import Derived.Deep.AppendLies
set_option maxRecDepth 20000
set_option maxHeartbeats 8000000
namespace Go.Proofs.YthcncjimjclfpaaGreatDoor
open Go.RowKit Go.Proofs.Tryz
open _root_.Nat renaming le_refl->A8,zero_le->AY
open Go.RowKit.Below renaming refl->AA,heap_setCell->BF
open _root_.Array renaming getElem?_eq_some_iff->AB
open _root_.List renaming getElem?_eq_getElem->AL,length_append->AO,getElem?_eq_some_iff->AU,mem_cons->BO,append_nil->DL,take_append_drop->DN,mem_filter->EH
open Go.Value.slice renaming injEq->AP
open Go.World renaming cell?->AV,frozen?->F7
open _root_.Option.some renaming injEq->BD
open _root_.And renaming intro->C9
open Go.Value renaming ownBlock->D8,slice->FQ
open Go.Obj renaming cells->FT
open Go renaming World->FU,Value->FV,Calls->FW
open _root_.Option renaming none->FX,some->FZ
variable{α:Type}{W w V:FU}{B k c ka kn kr i:Nat}{v vd vl vn vs vw vN vd0 vl0 vn0 vs0 vw0:FV}{up up0:Bool}{id ep dn z E id0 ep0 dn0 z0:Int}{s:Sv}{N:List Nt}{x:GI}{xs ts:List GI}{e:Ending}{a:Option Addr}
noncomputable def XM(s:Sv)(x:GI):List Wa:=if x.o=2 then nG (LG s.ws (YJ s.tr x)) x.s else LG s.ws (YJ s.tr x)
noncomputable def fV(s:Sv)(x:GI):Sv:=⟨s.up,s.fs,s.id,s.ep,s.ts,s.dn,WY s.tr x,XM s x⟩
theorem XO[Lay α]{xs:List α}{c:Array FV}{T:TypeId}{fz:Nat×Nat}(h:GZ W B v xs)(hk:W.heap[k]?=FZ (FT c T fz))(hne:T≠Lay.ty α):v.ownBlock≠FZ k:=by
 intro e;rcases h with⟨rfl,_⟩|⟨g,cap,rfl,_,rest,h1,_⟩
 .simp[D8]at e
 .simp only[D8,BD]at e;subst e;rw[h1]at hk;simp at hk;exact hne hk.2.1.symm
theorem B38{β:Type}[Lay α][Lay β]{C:Nat}{u:FV}{xs:List α}{ys:List β}(h:GZ W B u xs)(k:GZ W C v ys)(hne:Lay.ty α≠Lay.ty β):∀q,u.ownBlock=FZ q->FZ q≠v.ownBlock:=by
 intro q hq e;rcases h with⟨rfl,rfl⟩|⟨g,cap,rfl,_,rest,h1,_⟩
 .simp[D8]at hq
 .rcases k with⟨rfl,rfl⟩|⟨g',cap',rfl,_,rest',h1',_⟩
  .simp[D8]at e
  .simp only[D8,BD]at hq e;subst hq e;rw[h1]at h1';simp at h1';exact hne h1'.2
theorem bQ[Lay α]{xs:List α}(h:GZ W B v xs)(hb:IK W k up vd id ep vl dn z vn vs vw)(hne:64≠Lay.ty α):v.ownBlock≠FZ k:=by
 unfold IK at hb;exact XO h hb hne
structure CI(w W:FU)(ka kn kr:Nat)(s:Sv)(N:List Nt)(vd vl vn vs vw vN:FV):Prop where
 box:IK W ka s.up vd s.id s.ep vl s.dn s.tr.z vn vs vw
 nb:W.heap[kn]?=FZ (FT #[vN] 35 (0,0))
 d:GZ W w.heap.size vd s.fs
 l:GZ W w.heap.size vl s.ts
 n:GZ W w.heap.size vn s.tr.ns
 i:GZ W w.heap.size vs s.tr.ss
 o:GZ W w.heap.size vw s.ws
 t:GZ W w.heap.size vN N
 below:B0 w W
 ha:w.heap.size<=ka
 hn:w.heap.size<=kn
 ne:ka≠kn
 r:IK W kr false (N0) 0 0 (N0) 0 0 (N0) (N0) (N0)
 r1:kr≠ka
 r2:kr≠kn
 hr:w.heap.size<=kr
theorem CI.next(h:CI w W ka kn kr s N vd vl vn vs vw vN)(hb:B0 W V):CI w V ka kn kr s N vd vl vn vs vw vN:=
 ⟨h.box.next hb,(hb.block kn (AB.1 h.nb).1).trans h.nb,h.d.next hb,h.l.next hb,h.n.next hb,h.i.next hb,h.o.next hb,h.t.next hb,G8 h.below hb,h.ha,h.hn,h.ne,h.r.next hb,h.r1,h.r2,h.hr⟩
theorem QK[Lay α]{j:Nat}{xs:List α}(h:GZ W B v xs)(hb:IK W k up vd id ep vl dn z vn vs vw)(hne:64≠Lay.ty α)(u:FV):GZ (W.setCell ⟨k,j,FX⟩ u) B v xs:=
 h.other (bQ h hb hne) u
theorem CI.tree{vn' vs' vw':FV}{t':Tr}{ws':List Wa}(h:CI w W ka kn kr s N vd vl vn vs vw vN)(hn':GZ W w.heap.size vn' t'.ns)(hs':GZ W w.heap.size vs' t'.ss)(hw':GZ W w.heap.size vw' ws'):
  CI w ((((W.setCell ⟨ka,6,FX⟩ (I0 t'.z)).setCell ⟨ka,7,FX⟩ vn').setCell ⟨ka,8,FX⟩ vs').setCell ⟨ka,9,FX⟩ vw') ka kn kr ⟨s.up,s.fs,s.id,s.ep,s.ts,s.dn,t',ws'⟩ N vd vl vn' vs' vw' vN:=by
 have b1:IK (W.setCell ⟨ka,6,FX⟩ (I0 t'.z)) ka s.up vd s.id s.ep vl s.dn t'.z vn vs vw:=GL (j:=6) _ h.box;have b2:IK ((W.setCell ⟨ka,6,FX⟩ (I0 t'.z)).setCell ⟨ka,7,FX⟩ vn') ka s.up vd s.id s.ep vl s.dn t'.z vn' vs vw:=GL (j:=7) _ b1;have b3:IK (((W.setCell ⟨ka,6,FX⟩ (I0 t'.z)).setCell ⟨ka,7,FX⟩ vn').setCell ⟨ka,8,FX⟩ vs') ka s.up vd s.id s.ep vl s.dn t'.z vn' vs' vw:=GL (j:=8) _ b2;have b4:IK ((((W.setCell ⟨ka,6,FX⟩ (I0 t'.z)).setCell ⟨ka,7,FX⟩ vn').setCell ⟨ka,8,FX⟩ vs').setCell ⟨ka,9,FX⟩ vw') ka s.up vd s.id s.ep vl s.dn t'.z vn' vs' vw':=GL (j:=9) _ b3;have keep:∀ {α:Type} [Lay α] {v:FV} {xs:List α},GZ W w.heap.size v xs->64≠Lay.ty α->GZ ((((W.setCell ⟨ka,6,FX⟩ (I0 t'.z)).setCell ⟨ka,7,FX⟩ vn').setCell ⟨ka,8,FX⟩ vs').setCell ⟨ka,9,FX⟩ vw') w.heap.size v xs:=
  fun h0 hne=>QK (QK (QK (QK h0 h.box hne _) b1 hne _) b2 hne _) b3 hne _
 refine⟨b4,?_,keep h.d (by decide),keep h.l (by decide),keep hn' (by decide),keep hs' (by decide),keep hw' (by decide),keep h.t (by decide),(((h.below.setCell h.ha _).setCell h.ha _).setCell h.ha _).setCell h.ha _,h.ha,h.hn,h.ne,(((h.r.other h.r1).other h.r1).other h.r1).other h.r1,h.r1,h.r2,h.hr⟩;exact(BF _ _ _ _ (Ne.symm h.ne)).trans ((BF _ _ _ _ (Ne.symm h.ne)).trans ((BF _ _ _ _ (Ne.symm h.ne)).trans ((BF _ _ _ _ (Ne.symm h.ne)).trans h.nb)))
theorem CI.note{N':List Nt}{vN':FV}(h:CI w W ka kn kr s N vd vl vn vs vw vN)(hg:W.grownBy V vN.ownBlock)(ho:GZ V w.heap.size vN' N'):
  CI w (V.setCell ⟨kn,0,FX⟩ vN') ka kn kr s N' vd vl vn vs vw vN':=by
 have na:FZ ka≠vN.ownBlock:=fun e=>bQ h.t h.box (by decide) e.symm;have nn:FZ kn≠vN.ownBlock:=fun e=>XO h.t h.nb (by decide) e.symm;have bV:IK V ka s.up vd s.id s.ep vl s.dn s.tr.z vn vs vw:=(hg.block ka h.box.lt na).trans h.box;have nV:V.heap[kn]?=FZ (FT #[vN] 35 (0,0)):=(hg.block kn (AB.1 h.nb).1 nn).trans h.nb;have keep:∀ {α:Type} [Lay α] {v:FV} {xs:List α},GZ W w.heap.size v xs->Lay.ty α≠252->35≠Lay.ty α->GZ (V.setCell ⟨kn,0,FX⟩ vN') w.heap.size v xs:=fun h0 h1 h2=>by
  have k:=h0.grown hg (B38 h0 h.t h1);exact k.other (XO k nV h2) _
 refine⟨bV.other h.ne,?_,keep h.d (by decide) (by decide),keep h.l (by decide) (by decide),keep h.n (by decide) (by decide),keep h.i (by decide) (by decide),keep h.o (by decide) (by decide),ho.other (XO ho nV (by decide)) _,(h.below.grown hg h.below.size (fun g e=>?_)).setCell h.hn _,h.ha,h.hn,h.ne,IK.other ((hg.block kr h.r.lt (fun e=>bQ h.t h.r (by decide) e.symm)).trans h.r) h.r2,h.r1,h.r2,h.hr⟩
 .rw[GL _ nV];rfl
 .rcases h.t with⟨e1,_⟩|⟨g',cap,e1,hB,_⟩
  .rw[e1]at e;simp[D8]at e
  .rw[e1]at e;simp only[D8,BD]at e;omega
theorem IY[Lay α]{xs:List α}(h:GZ W B v xs):∃a c,v=FQ a xs.length c:=by
 obtain⟨a,c,e,_⟩:=h.slice;exact⟨a,c,e⟩
theorem B39(W:FU)(ty:TypeId)(B C:Nat)(v u:FV)(N T:List Nt)(hv:GZ W B v N)(hu:GZ W C u T)(hl:(N.length+T.length)*32<=140737488355328)(hB:B<=W.heap.size):
  ∃v' w',(Builtin.append_ #[35,35] ty #[v,u]).run prog W=.ok v' w'/\GZ w' B v' (N++T)/\W.grownBy w' v.ownBlock:=by
 obtain⟨i0,hi0,hz0,hz1,hz2⟩:=AZ1;rcases hu with⟨rfl,rfl⟩|⟨g,cap,rfl,_,hr⟩
 .refine⟨v,W,run_append_owned_none (P:=prog) (w:=W) B 35 ty 252 i0 3 underlying35 hi0 v N.length (G9 N) hv.row,by rw[DL];exact hv,⟨rfl,rfl,rfl,A8 _,fun _ _ _=>rfl⟩⟩
 .obtain⟨v',w',h1,h2,h3,_⟩:=run_append_own (P:=prog) W B 35 ty 252 i0 _ 3 32 underlying35 hi0 hz0 hz1 hz2 rfl (by decide) v N.length (G9 N) hv.row ⟨g,0,FX⟩ T.length cap (G9 T) (GX T) (fun j x hj=>by rw[Addr.add_lit];exact hr.row j x hj) (JL T) (by simp only[maxLen];omega) hl hB;exact⟨v',w',h1,GZ.LD (by rw[AO,H8];exact h2),h3⟩
theorem fZ{w:FU}{ops:Array Oper}{rest:List Oper}{o:Oper}{a:Act}{Q:Exit->Act->FU->Prop}(hgd:o.guard=FX)(s x:Operand)
  (ho:o.op=.call {callee:=.builtin .append,args:=#[s,x],argTypes:=#[35,35]})
  (B C:Nat) (v u:FV) (N T:List Nt) (hs:a.eval s=v) (hx:a.eval x=u) (hv:GZ w B v N) (hu:GZ w C u T) (hl:(N.length+T.length)*32<=140737488355328) (hB:B<=w.heap.size)
  (h:∀a' c' w',GZ w' B (FQ a' (N++T).length c') (N++T)->w.grownBy w' v.ownBlock->wpList prog ops Q rest (a.put o.dst (FQ a' (N++T).length c')) w'):wpList prog ops Q (o::rest) a w:=by
 refine wpList_plain hgd fun K hK=>?_;obtain⟨v',w',hr,h2,h3⟩:=B39 w o.type B C v u N T hv hu hl hB;obtain⟨a',c',rfl⟩:=IY h2;unfold Oper.wp execOp;simp only[ho,resolve,invoke,builtin,Sem.run_bind,Sem.run_pure,Result.andThen_ok,List.map_toArray,List.map_cons,List.map_nil,hs,hx,hr];exact hK _ _ (h a' c' w' h2 h3)
theorem oU{T:List Nt}(h:GZ W B v T)(hb:IK W ka up vd id ep vl dn z vn vs vw)(x6 x7 x8 x9:FV):GZ ((((W.setCell ⟨ka,6,FX⟩ x6).setCell ⟨ka,7,FX⟩ x7).setCell ⟨ka,8,FX⟩ x8).setCell ⟨ka,9,FX⟩ x9) B v T:=by
 have hk:=bQ h hb (by decide);exact(((h.other hk x6).other hk x7).other hk x8).other hk x9
structure CFit(s:Sv)(N:List Nt)(x:GI):Prop where
 wf:WfT s.tr
 xd:x.d.length<=140737488355328
 xp:x.p.length<=140737488355328
 sh:nI s.ws
 wl:s.ws.length*32<=140737488351232
 nl:(N.length+s.ws.length)*32<=140737488351232
def CV1(w W w':FU)(ka kn kr:Nat)(s:Sv)(N:List Nt)(x:GI)(E:Int)(T:Tr)(V:List Ev)(SW:List Wa):Prop:=
 B0 w w'/\(E≠0->B0 W w')/\
 (E=0->∃ad nd cd al cl an cn ai ci aw cw aN cN,CI w w' ka kn kr (fV s x) (N++OX s.ws V) (FQ ad nd cd) (FQ al s.ts.length cl) (FQ an T.ns.length cn) (FQ ai T.ss.length ci) (FQ aw SW.length cw) (FQ aN (N.length+(OX s.ws V).length) cN))
theorem ZU{ws:List Wa}(h:nI ws)(es:List Ev):nI (LG ws es):=fun x hx=>h x (AY5 ws es x hx)
theorem AO6{t:Tr}(hw:WfT t)(hp:x.p.length<=140737488355328):BY0 (YJ t x):=by
 have hdl:∀p:List UInt8,(IB p).length<=140737488355328:=fun p=>by have:=WZ p;omega
 intro e he;by_cases h:WG t x=0
 .rw[YJ,if_pos h,nZ]at he;by_cases h2:x.o=2
  .rw[if_pos h2]at he;obtain⟨q,hq,he⟩:=List.mem_flatMap.1 he;obtain⟨n,hn,rfl⟩:=List.mem_map.1 hq;have hn':=hw.CK3 n (EH.1 hn).1;simp only[BO,List.not_mem_nil,or_false]at he;rcases he with rfl|rfl
   .exact hn'.1
   .exact hdl _
  .rw[if_neg h2]at he;by_cases h3:x.o=3
   .rw[if_pos h3]at he;simp only[BO,List.not_mem_nil,or_false]at he;rcases he with rfl|rfl
    .exact hp
    .exact hdl _
   .rw[if_neg h3]at he;by_cases h4:x.o=4
    .rw[if_pos h4]at he;simp only[BO,List.not_mem_nil,or_false]at he;rcases he with rfl|rfl
     .exact hp
     .exact hdl _
    .rw[if_neg h4]at he;by_cases h5:x.o=5
     .rw[if_pos h5]at he;simp only[BO,List.not_mem_nil,or_false]at he;subst he;exact hp
     .rw[if_neg h5]at he;simp at he
 .rw[YJ,if_neg h]at he;simp at he
theorem A40(w W:FU)(ka kn kr:Nat)(s:Sv)(N:List Nt)(x:GI)(ad al an ai aw aN:Option Addr)(nd cd cl cn ci cw cN:Nat)
  (h:CI w W ka kn kr s N (FQ ad nd cd) (FQ al s.ts.length cl) (FQ an s.tr.ns.length cn) (FQ ai s.tr.ss.length ci) (FQ aw s.ws.length cw) (FQ aN N.length cN)) (hf:CFit s N x):
  FW prog 129 #[J8 x,P0 ka,P0 kn] W fun e w'=>e=.returned (I0 (WG s.tr x))/\CV1 w W w' ka kn kr s N x (WG s.tr x) (WY s.tr x) (YJ s.tr x) (XM s x):=by
 have h1:=h.next (G7 W (FT #[I0 x.z,I0 x.o,I0 x.s,S0 x.p,S0 x.d,I0 x.v,I0 x.w] 93));have T1:=TAt.new W x;have CA:=G6 (fun vn vs V (h2:IU V vn s.tr.ns) (h3:IU V vs s.tr.ss)=>xI s.tr vn vs x V h2 h3 hf.wf hf.xd);have CFi:=G6 (fun v u V (h2:IU V v s.ws) (h3:IU V u (YJ s.tr x))=>BN3 v u s.ws (YJ s.tr x) V h2 h3 hf.sh (AO6 hf.wf hf.xp) hf.wl (B32 s.tr x).2.2);have hfl:=iI (YJ s.tr x) s.ws;have CD:=G6 (fun v V (h2:IU V v (LG s.ws (YJ s.tr x)))=>BN4 v x.s (LG s.ws (YJ s.tr x)) V h2 (ZU hf.sh _) (by have:=hf.wl;omega));have HNL:Hid ((N.length+(OX s.ws (YJ s.tr x)).length)*32<=140737488355328):=G6 (by have:=hf.nl;omega);have HSW:Hid ((x.o=2->XM s x=nG (LG s.ws (YJ s.tr x)) x.s)/\(x.o≠2->XM s x=LG s.ws (YJ s.tr x))):=G6 ⟨fun e=>by simp[XM,e],fun e=>by simp[XM,e]⟩;have HC1:=G6 h1;have HBA:=G6 (G7 W (FT #[I0 x.z,I0 x.o,I0 x.s,S0 x.p,S0 x.d,I0 x.v,I0 x.w] 93));have HT1:=G6 T1;have HSS:Hid (fV s x=⟨s.up,s.fs,s.id,s.ep,s.ts,s.dn,WY s.tr x,XM s x⟩):=G6 rfl;obtain⟨x0,x1,x2,x3,x4,x5,x6,x7,x8,x9⟩:=h1.box.cells;have t0:=T1.c0;have t1:=T1.c1;have t2:=T1.c2;have t3:=T1.c3;have t4:=T1.c4;have t5:=T1.c5;have t6:=T1.c6;unfold bM at CA;clear h h1 T1 hf hfl;obtain⟨z,o,u,p,d,y,v⟩:=x;generalize WG s.tr ⟨z,o,u,p,d,y,v⟩=E at*;generalize WY s.tr ⟨z,o,u,p,d,y,v⟩=T at*;generalize YJ s.tr ⟨z,o,u,p,d,y,v⟩=V at*;generalize XM s ⟨z,o,u,p,d,y,v⟩=SW at*;unfold J8 at*;simp only at*;go_enter func129,ntmps129;go_upto_region 1 with fail;generalize W.alloc (FT #[I0 z,I0 o,I0 u,S0 p,S0 d,I0 y,I0 v] 93)=W1 at*;obtain⟨kx,hkx⟩:∃kx,W.heap.size=kx:=⟨_,rfl⟩;rw[hkx];rw[hkx]at t0 t1 t2 t3 t4 t5 t6 HT1;clear hkx;go_wp2_with fail;refine(G5 CA _ _ _ (G5 HC1).n.seq (G5 HC1).i.seq).mono ?_;rintro e w2 ⟨vn2,vs2,ve2,rfl,on2,oi2,oe2,hb2⟩;obtain⟨bn,fn,rfl⟩:=IY on2;obtain⟨bi,fi,rfl⟩:=IY oi2;obtain⟨be,fe,rfl⟩:=IY oe2;have hal:=G7 w2 (FT #[I0 T.z,FQ bn T.ns.length fn,FQ bi T.ss.length fi] 61);have HC2:=G6 (((G5 HC1).next hb2).next hal);have HT2:=G6 (((G5 HT1).next hb2).next hal);have HZ1:=(G5 HC1).below.size;have HBE:=G6 (G8 (G8 (G5 HBA) hb2) hal);have HON:=G6 ((on2.next hal).lower HZ1);have HOI:=G6 ((oi2.next hal).lower HZ1);have HOE:=G6 (oe2.next hal);have HTB:Hid ((w2.alloc (FT #[I0 T.z,FQ bn T.ns.length fn,FQ bi T.ss.length fi] 61)).heap[w2.heap.size]?=FZ (FT #[I0 T.z,FQ bn T.ns.length fn,FQ bi T.ss.length fi] 61 (0,0))):=G6 (heap_alloc_new w2 _);clear on2 oi2 oe2 hb2 hal HZ1 HC1 HT1 CA x0 x1 x2 x3 x4 x5 x6 x7 x8 x9 t0 t1 t2 t3 t4 t5 t6;go_upto_region 2 with fail;generalize w2.heap.size=kt at*;generalize w2.alloc (FT #[I0 T.z,FQ bn T.ns.length fn,FQ bi T.ss.length fi] 61)=W2 at*;by_cases hE:E=0
 .subst hE;obtain⟨x0,x1,x2,x3,x4,x5,x6,x7,x8,x9⟩:=(G5 HC2).box.cells;go_wp2_with fail;refine(G5 CFi _ _ _ (G5 HC2).o.seq (G5 HOE).seq).mono ?_;rintro e w3 ⟨vn3,vl3,rfl,on3,⟨g3,rfl,hg3,or3⟩,hb3⟩;obtain⟨bN,fN,rfl⟩:=IY on3;have HC3:=G6 ((G5 HC2).next hb3);have hz2:=(G5 HC2).below.size;have CS3:=G6 ((G5 HON).next hb3);have CS4:=G6 ((G5 HOI).next hb3);have HT3:=(G5 HT2).next hb3;have CK5:=G6 ((hb3.block kt (AB.1 (G5 HTB)).1).trans (G5 HTB));have CS5:=G6 (on3.lower hz2);have CS6:Hid (GZ w3 w.heap.size (FQ (FZ ⟨g3,0,FX⟩) (LG s.ws V).length (s.ws.length+1)) (LG s.ws V)):=G6 (.inr ⟨g3,_,rfl,by omega,or3⟩);have t1:=HT3.c1;have t2:=HT3.c2;simp only at t1 t2;clear on3 hg3 or3 hb3 hz2 HC2 HON HOI HT2 HTB HOE CFi x0 x1 x2 x3 x4 x5 x6 x7 x8 x9 HT3;by_cases ho:o=2
  .have hsw:=(G5 HSW).1 ho;subst hsw;subst ho;go_wp2_with fail;refine(G5 CD _ _ (G5 CS6).seq).mono ?_;rintro e w4 ⟨g4,rfl,hg4,or4,hb4⟩;have hz3:=(G5 HC3).below.size;have HCX:=G6 ((G5 HC3).next hb4);have CK6:=G6 ((G5 CS3).next hb4);have CK7:=G6 ((G5 CS4).next hb4);have BN5:=G6 ((hb4.block kt (AB.1 (G5 CK5)).1).trans (G5 CK5));have CK8:=G6 ((G5 CS5).next hb4);have CK9:Hid (GZ w4 w.heap.size (FQ (FZ ⟨g4,0,FX⟩) (nG (LG s.ws V) u).length ((LG s.ws V).length+1)) (nG (LG s.ws V) u)):=G6 (.inr ⟨g4,_,rfl,by omega,or4⟩);clear hg4 or4 hb4 hz3 HC3 CS3 CS4 CK5 CS5 CS6 CD t1 t2;have HTR:=G6 ((G5 HCX).tree (t':=T) (vn':=FQ bn T.ns.length fn) (vs':=FQ bi T.ss.length fi) (G5 CK6) (G5 CK7) (G5 CK9));obtain⟨x0,x1,x2,x3,x4,x5,x6,x7,x8,x9⟩:=(G5 HCX).box.cells;have xf6:=(G5 HCX).box.GN 6;have xf7:=(G5 HCX).box.GN 7;have xf8:=(G5 HCX).box.GN 8;have xf9:=(G5 HCX).box.GN 9;have k0:w4.cell? ⟨kt,0,FX⟩=FZ (I0 T.z):=by simp[AV,G5 BN5]
   have k1:w4.cell? ⟨kt,1,FX⟩=FZ (FQ bn T.ns.length fn):=by simp[AV,G5 BN5]
   have k2:w4.cell? ⟨kt,2,FX⟩=FZ (FQ bi T.ss.length fi):=by simp[AV,G5 BN5]
   go_upto_region 8 with fail;have CV2:=G6 (oU (G5 CK8) (G5 HCX).box (I0 T.z) (FQ bn T.ns.length fn) (FQ bi T.ss.length fi) (FQ (FZ ⟨g4,0,FX⟩) (nG (LG s.ws V) u).length ((LG s.ws V).length+1)));generalize (((w4.setCell ⟨ka,6,FX⟩ (I0 T.z)).setCell ⟨ka,7,FX⟩ (FQ bn T.ns.length fn)).setCell ⟨ka,8,FX⟩ (FQ bi T.ss.length fi)).setCell ⟨ka,9,FX⟩ (FQ (FZ ⟨g4,0,FX⟩) (nG (LG s.ws V) u).length ((LG s.ws V).length+1))=W5 at*;clear x0 x1 x2 x3 x4 x5 x6 x7 x8 x9 xf6 xf7 xf8 xf9 k0 k1 k2 HCX CK6 CK7 CK9 CK8 BN5;have n0:W5.cell? ⟨kn,0,FX⟩=FZ (FQ aN N.length cN):=by simp[AV,(G5 HTR).nb]
   go_wp2_with (at_builtin;refine fZ rfl _ _ rfl w.heap.size w.heap.size (FQ aN N.length cN) _ N (OX s.ws V) rfl rfl (G5 HTR).t (G5 CV2) (G5 HNL) (G5 HTR).below.size ?_);intro a6 c6 w6 ho6 hg6;have HFI:=G6 ((G5 HTR).note hg6 ho6);have m0:w6.cell? ⟨kn,0,FX⟩=FZ (FQ aN N.length cN):=hg6.cell n0 (fun e=>XO (G5 HTR).t (G5 HTR).nb (by decide) e.symm);have mf:w6.frozen? ⟨kn,0,FX⟩=false:=by
    have:=(hg6.block kn (AB.1 (G5 HTR).nb).1 (fun e=>XO (G5 HTR).t (G5 HTR).nb (by decide) e.symm)).trans (G5 HTR).nb;simp[F7,this]
   clear ho6 hg6 n0;go_wp2_with fail;go_ret;exact⟨rfl,(G5 HFI).below,fun h=>absurd rfl h,fun _=>⟨ad,nd,cd,al,cl,bn,fn,bi,fi,(FZ ⟨g4,0,FX⟩),((LG s.ws V).length+1),a6,c6,by rw[G5 HSS];exact G5 HFI⟩⟩
  .have hsw:=(G5 HSW).2 ho;subst hsw;have HCX:=HC3;have CK6:=CS3;have CK7:=CS4;have BN5:=CK5;have CK8:=CS5;have CK9:=CS6;clear HC3 CS3 CS4 CK5 CS5 CS6 CD;have HTR:=G6 ((G5 HCX).tree (t':=T) (vn':=FQ bn T.ns.length fn) (vs':=FQ bi T.ss.length fi) (G5 CK6) (G5 CK7) (G5 CK9));obtain⟨x0,x1,x2,x3,x4,x5,x6,x7,x8,x9⟩:=(G5 HCX).box.cells;have xf6:=(G5 HCX).box.GN 6;have xf7:=(G5 HCX).box.GN 7;have xf8:=(G5 HCX).box.GN 8;have xf9:=(G5 HCX).box.GN 9;have k0:w3.cell? ⟨kt,0,FX⟩=FZ (I0 T.z):=by simp[AV,G5 BN5]
   have k1:w3.cell? ⟨kt,1,FX⟩=FZ (FQ bn T.ns.length fn):=by simp[AV,G5 BN5]
   have k2:w3.cell? ⟨kt,2,FX⟩=FZ (FQ bi T.ss.length fi):=by simp[AV,G5 BN5]
   go_upto_region 8 with fail;have CV2:=G6 (oU (G5 CK8) (G5 HCX).box (I0 T.z) (FQ bn T.ns.length fn) (FQ bi T.ss.length fi) (FQ (FZ ⟨g3,0,FX⟩) (LG s.ws V).length (s.ws.length+1)));generalize (((w3.setCell ⟨ka,6,FX⟩ (I0 T.z)).setCell ⟨ka,7,FX⟩ (FQ bn T.ns.length fn)).setCell ⟨ka,8,FX⟩ (FQ bi T.ss.length fi)).setCell ⟨ka,9,FX⟩ (FQ (FZ ⟨g3,0,FX⟩) (LG s.ws V).length (s.ws.length+1))=W5 at*;clear x0 x1 x2 x3 x4 x5 x6 x7 x8 x9 xf6 xf7 xf8 xf9 k0 k1 k2 HCX CK6 CK7 CK9 CK8 BN5;have n0:W5.cell? ⟨kn,0,FX⟩=FZ (FQ aN N.length cN):=by simp[AV,(G5 HTR).nb]
   go_wp2_with (at_builtin;refine fZ rfl _ _ rfl w.heap.size w.heap.size (FQ aN N.length cN) _ N (OX s.ws V) rfl rfl (G5 HTR).t (G5 CV2) (G5 HNL) (G5 HTR).below.size ?_);intro a6 c6 w6 ho6 hg6;have HFI:=G6 ((G5 HTR).note hg6 ho6);have m0:w6.cell? ⟨kn,0,FX⟩=FZ (FQ aN N.length cN):=hg6.cell n0 (fun e=>XO (G5 HTR).t (G5 HTR).nb (by decide) e.symm);have mf:w6.frozen? ⟨kn,0,FX⟩=false:=by
    have:=(hg6.block kn (AB.1 (G5 HTR).nb).1 (fun e=>XO (G5 HTR).t (G5 HTR).nb (by decide) e.symm)).trans (G5 HTR).nb;simp[F7,this]
   clear ho6 hg6 n0;go_wp2_with fail;go_ret;exact⟨rfl,(G5 HFI).below,fun h=>absurd rfl h,fun _=>⟨ad,nd,cd,al,cl,bn,fn,bi,fi,(FZ ⟨g3,0,FX⟩),(s.ws.length+1),a6,c6,by rw[G5 HSS];exact G5 HFI⟩⟩
 .go_wp2_with fail;go_ret;exact⟨rfl,(G5 HC2).below,fun _=>G5 HBE,fun h=>absurd h hE⟩
noncomputable def stP(p:Sv×List Nt)(x:GI):Sv×List Nt:=(fV p.1 x,p.2++OX p.1.ws (YJ p.1.tr x))
noncomputable def csP(s:Sv)(xs:List GI)(i:Nat):Sv×List Nt:=(xs.take i).foldl stP (s,[])
theorem rX(s:Sv)(xs:List GI):csP s xs 0=(s,[]):=by simp[csP]
theorem AD9(h:xs[i]?=FZ x):csP s xs (i+1)=stP (csP s xs i) x:=by
 unfold csP;rw[Q8 h,List.foldl_append];rfl
structure Chn(s:Sv)(xs:List GI)(k:Nat):Prop where
 le:k<=xs.length
 ok:∀i x,i<k->xs[i]?=FZ x->WG (csP s xs i).1.tr x=0
 stop:∀x,xs[k]?=FZ x->WG (csP s xs k).1.tr x≠0
structure BN6(s:Sv)(xs:List GI):Prop where
 wf:WfT s.tr
 sh:nI s.ws
 wl:s.ws.length*32<=140737488351232
 xd:∀x∈xs,x.d.length<=140737488355328
 xp:∀x∈xs,x.p.length<=140737488355328
theorem xM(ws:List Wa)(s:Int):(nG ws s).length<=ws.length:=List.length_filter_le _ _
theorem BY4(hB:BN6 s xs)(h:Chn s xs k):∀i,i<=k->
  (WfT (csP s xs i).1.tr/\nI (csP s xs i).1.ws/\(csP s xs i).2.length+(csP s xs i).1.ws.length<=s.ws.length)/\
  ((csP s xs i).1.up=s.up/\(csP s xs i).1.fs=s.fs/\(csP s xs i).1.id=s.id/\(csP s xs i).1.ep=s.ep/\(csP s xs i).1.ts=s.ts/\(csP s xs i).1.dn=s.dn):=by
 intro i
 induction i with
 |zero=>
  intro _;rw[rX];exact⟨⟨hB.wf,hB.sh,by simp⟩,rfl,rfl,rfl,rfl,rfl,rfl⟩
 |succ i ih=>
  intro hi;obtain⟨⟨a1,a2,a3⟩,b1,b2,b3,b4,b5,b6⟩:=ih (by omega);obtain⟨x,hx⟩:∃x,xs[i]?=FZ x:=⟨_,AL (by have:=h.le;omega)⟩;have h0:=h.ok i x (by omega) hx;rw[AD9 hx];generalize csP s xs i=c at*;have hl:=iI (YJ c.1.tr x) c.1.ws;refine⟨⟨(YK h0).1.wf,?_,?_⟩,b1,b2,b3,b4,b5,b6⟩
  .show nI (XM c.1 x);unfold XM
   split
   .exact fun y hy=>ZU a2 _ y (EH.1 hy).1
   .exact ZU a2 _
  .show (c.2++OX c.1.ws (YJ c.1.tr x)).length+(XM c.1 x).length<=s.ws.length;have:(XM c.1 x).length<=(LG c.1.ws (YJ c.1.tr x)).length:=by
    unfold XM
    split
    .exact xM _ _
    .exact A8 _
   rw[AO];omega
theorem C61(hB:BN6 s xs)(h:Chn s xs k)(hi:i<=k)(hx:xs[i]?=FZ x):CFit (csP s xs i).1 (csP s xs i).2 x:=by
 obtain⟨⟨a1,a2,a3⟩,_⟩:=BY4 hB h i hi;have hm:=List.mem_of_getElem? hx;have:=hB.wl;exact⟨a1,hB.xd x hm,hB.xp x hm,a2,by omega,by omega⟩
def CV5(s:Sv)(t:GI)(safe:Bool)(E:Int)(s':Sv):Prop:=
 (t.z<=J4 s.ts/\E=13/\s'=sv0)\/(¬t.z<=J4 s.ts/\E≠0/\s'=sv0/\∃d1,NH 155 (fun x=>#[x,J8 t,.bool safe]) s.fs d1 E)\/
 (¬t.z<=J4 s.ts/\E=0/\∃d1,s'=⟨s.up,d1,s.id,s.ep,s.ts++[t],s.dn,s.tr,s.ws⟩/\ZE 155 (fun x=>#[x,J8 t,.bool safe]) s.fs d1 0)
def CL9(w:FU)(q:Nat)(s:Sv)(E:Int)(e:Ending)(w':FU):Prop:=
 ∃ad nd cd al nl cl an nn cn ai ni ci aw nw cw,e=.returned (.tuple #[.agg #[.bool s.up,FQ ad nd cd,I0 s.id,I0 s.ep,FQ al nl cl,I0 s.dn,I0 s.tr.z,FQ an nn cn,FQ ai ni ci,FQ aw nw cw],I0 E])/\
  Hid (IQ w' (FQ ad nd cd) s.fs/\NV w' (FQ al nl cl) s.ts/\IU w' (FQ an nn cn) s.tr.ns/\IU w' (FQ ai ni ci) s.tr.ss/\UJ (FQ ai ni ci) q/\IU w' (FQ aw nw cw) s.ws/\OA w.heap.size (FQ ai ni ci))/\B0 w w'
theorem pJ{w':FU}{q:Nat}(he:e=.returned (.tuple #[svZ,I0 E]))(hb:B0 w w'):CL9 w q sv0 E e w':=
 ⟨FX,0,0,FX,0,0,FX,0,0,FX,0,0,FX,0,0,he,G6 ⟨IQ.nil _,NV.nil _,IU.nil _,IU.nil _,wY _ _ _,IU.nil _,UM _ _ _⟩,hb⟩
theorem MH[Lay α]{xs:List α}(h:GZ W B v xs):OA B v:=by
 intro b off n c e;rcases h with⟨rfl,_⟩|⟨g,cap,rfl,hB,_⟩
 .simp at e
 .simp only[AP,BD,Addr.mk.injEq]at e;omega
def fA(w:FU)(s:Sv)(E:Int)(e:Ending)(w':FU):Prop:=
 ∃ad nd cd al nl cl an nn cn ai ni ci aw nw cw,e=.returned (.tuple #[.agg #[.bool s.up,FQ ad nd cd,I0 s.id,I0 s.ep,FQ al nl cl,I0 s.dn,I0 s.tr.z,FQ an nn cn,FQ ai ni ci,FQ aw nw cw],I0 E])/\
  Hid (SvV w' (.agg #[.bool s.up,FQ ad nd cd,I0 s.id,I0 s.ep,FQ al nl cl,I0 s.dn,I0 s.tr.z,FQ an nn cn,FQ ai ni ci,FQ aw nw cw]) s/\OA w.heap.size (FQ ai ni ci))/\B0 w w'
theorem KU[Lay α]{F:Nat->Prop}{xs:List α}(h:GZ W B v xs)(ht:Touch F W V)(hf:∀k,v.ownBlock=FZ k->¬F k):GZ V B v xs:=by
 rcases h with h|⟨g,cap,rfl,hB,h⟩
 .exact .inl h
 .obtain⟨rest,h1,h2⟩:=h;have hlt:=(AB.1 h1).1;exact .inr ⟨g,cap,rfl,hB,rest,(ht.block g hlt (hf g rfl)).trans h1,h2⟩
theorem QU[Lay α]{xs:List α}(h:GZ W B v xs)(hk:v.ownBlock=FZ k):B<=k:=by
 rcases h with⟨rfl,_⟩|⟨g,cap,rfl,hB,_⟩
 .simp[D8]at hk
 .simp[D8]at hk;omega
def FrT(w:FU)(e:Ending):Prop:=∀x0 x1 x2 x3 x4 x5 x6 x7 x8 x9 z:FV,e=.returned (.tuple #[.agg #[x0,x1,x2,x3,x4,x5,x6,x7,x8,x9],z])->OA w.heap.size x1/\OA w.heap.size x4/\OA w.heap.size x7/\OA w.heap.size x9
theorem BY9{x0 x1 x2 x3 x4 x5 x6 x7 x8 x9 z:FV}(h:OA w.heap.size x1/\OA w.heap.size x4/\OA w.heap.size x7/\OA w.heap.size x9):FrT w (.returned (.tuple #[.agg #[x0,x1,x2,x3,x4,x5,x6,x7,x8,x9],z])):=by
 intro u0 u1 u2 u3 u4 u5 u6 u7 u8 u9 t e;simp only[Ending.returned.injEq,Value.tuple.injEq,Value.agg.injEq,Array.mk.injEq,List.cons.injEq]at e;obtain⟨⟨_,rfl,_,_,rfl,_,_,rfl,_,rfl,_⟩,_⟩:=e;exact h
theorem FrT.lower(h:FrT W e)(hw:w.heap.size<=W.heap.size):FrT w e:=fun _ _ _ _ _ _ _ _ _ _ _ he=>by
 obtain⟨h1,h2,h3,h4⟩:=h _ _ _ _ _ _ _ _ _ _ _ he;exact⟨h1.lower hw,h2.lower hw,h3.lower hw,h4.lower hw⟩
theorem AE6(he:e=.returned (.tuple #[svZ,I0 E])):FrT w e:=by
 rw[he];exact BY9 ⟨UM _ _ _,UM _ _ _,UM _ _ _,UM _ _ _⟩
theorem A45(s s':Sv)(t:GI)(safe:Bool)(E:Int)(hT:CV5 s t safe E s')(hp:t.p.length<=140737488355328)(hdl:t.d.length<=140737488355328)(hn:s.ts.length<=1000000000)(W w1:FU)(q:Nat)(hq:q<W.heap.size)
  (ad al an ai aw:Option Addr) (nd cd cl cn ci cw B1 B2:Nat) (h1:W.heap.size<=B1) (h2:B1<=B2) (od:GZ w1 W.heap.size (FQ ad nd cd) s.fs) (_hd1:∀k,(Value.slice ad nd cd).ownBlock=FZ k->k<B1)
  (ol:GZ w1 B1 (FQ al s.ts.length cl) s.ts) (hl2:∀k,(Value.slice al s.ts.length cl).ownBlock=FZ k->k<B2) (on:GZ w1 B2 (FQ an s.tr.ns.length cn) s.tr.ns) (oi:GZ w1 B2 (FQ ai s.tr.ss.length ci) s.tr.ss) (ow:GZ w1 B2 (FQ aw s.ws.length cw) s.ws) (hb1:B0 W w1):
  FW prog 111 #[.agg #[.bool s.up,FQ ad nd cd,I0 s.id,I0 s.ep,FQ al s.ts.length cl,I0 s.dn,I0 s.tr.z,FQ an s.tr.ns.length cn,FQ ai s.tr.ss.length ci,FQ aw s.ws.length cw],J8 t,.bool safe] w1 fun e w'=>CL9 W q s' E e w'/\FrT W e:=by
 have hd:=VJ.1 od.seq;have hl:=PK.1 ol.seq;rcases hT with⟨hz,rfl,rfl⟩|⟨hz,hE,rfl,d1,G⟩|⟨hz,rfl,d1,rfl,G⟩
 .exact(B55 s.up s.id s.ep s.dn s.tr.z s.fs s.ts t safe _ _ an ai aw _ cn _ ci _ cw w1 hd hl hz).mono fun e w' h=>⟨pJ h.1 (G8 hb1 h.2),AE6 h.1⟩
 .exact(C74 s.up s.id s.ep s.dn s.tr.z s.fs s.ts t safe _ _ an ai aw _ cn _ ci _ cw w1 hd hl hz E d1 hE G).mono fun e w' h=>⟨pJ h.1 (G8 hb1 h.2),AE6 h.1⟩
 .refine(B57 s.up s.id s.ep s.dn s.tr.z s.fs s.ts t safe _ _ an ai aw _ cn _ ci _ cw w1 hd hl hz d1 W.heap.size hb1.size (ol.lower h1) hn hp hdl G).mono fun e w' h=>?_;obtain⟨⟨a,n,c,a2,c2,he,hd',ol',_,ht⟩,hfd⟩:=h;have hs:∀ {α:Type} [Lay α] {v:FV} {xs:List α},GZ w1 B2 v xs->GZ w' B2 v xs:=fun ho=>KU ho ht (fun k hk hf=>by have:=QU ho hk;have:=hl2 k hf;omega);refine⟨⟨a,n,c,a2,_,c2,an,_,cn,ai,_,ci,aw,_,cw,he,G6 ⟨hd',PK.1 ol'.seq,(hs on).seq,(hs oi).seq,YS oi (by omega),(hs ow).seq,(MH oi).lower (by omega)⟩,?_⟩,?_⟩;rotate_left
  .have f1:=hfd _ _ _ _ _ _ _ _ _ _ _ he;rw[he];exact BY9 ⟨f1.lower hb1.size,MH ol',(MH on).lower (by omega),(MH ow).lower (by omega)⟩
  exact hb1.trans (ht.below (B:=W.heap.size) hb1.size (fun k hk=>by have:=QU ol hk;omega))
theorem A46(s s':Sv)(v:FV)(t:GI)(safe:Bool)(E:Int)(w:FU)(hv:SvV w v s)(hf:BY2 s)(hT:CV5 s t safe E s')(hp:t.p.length<=140737488355328)(hdl:t.d.length<=140737488355328)(hn:s.ts.length<=1000000000):
  FW prog 94 #[v,J8 t,.bool safe] w fun e w'=>fA w s' E e w'/\FrT w e:=by
 have CC:=G6 (fun W (hW:B0 w W)=>ZQ s v W (hv.next hW) hf);have CX:=G6 (A45 s s' t safe E hT hp hdl hn);obtain⟨ad,nd,cd,al,cl,an,cn,ai,ci,aw,cw,rfl,d1,l1,n1,s1,k1⟩:=hv.five;clear hv d1 l1 n1 s1 k1 hf hT hp hdl hn;obtain⟨up,fs,id,ep,ts,dn,⟨tz,tns,tss⟩,ws⟩:=s;obtain⟨z,o,s,p,d,y,u⟩:=t;unfold J8 at*;simp only at*;go_enter func94,ntmps94;go_upto_region 1 with fail;have X:=G6 (EB.start w up id ep dn tz (FQ ad nd cd) (FQ al ts.length cl) (FQ an tns.length cn) (FQ ai tss.length ci) (FQ aw ws.length cw) ⟨z,o,s,p,d,y,u⟩);have HB0:=G6 (EB.AE5 w (FT #[.bool up,FQ ad nd cd,I0 id,I0 ep,FQ al ts.length cl,I0 dn,I0 tz,FQ an tns.length cn,FQ ai tss.length ci,FQ aw ws.length cw] 64) (FT #[I0 z,I0 o,I0 s,S0 p,S0 d,I0 y,I0 u] 93) (FT #[.bool false,N0,I0 0,I0 0,N0,I0 0,I0 0,N0,N0,N0] 64));simp only at X;generalize ((w.alloc (FT #[.bool up,FQ ad nd cd,I0 id,I0 ep,FQ al ts.length cl,I0 dn,I0 tz,FQ an tns.length cn,FQ ai tss.length ci,FQ aw ws.length cw] 64)).alloc (FT #[I0 z,I0 o,I0 s,S0 p,S0 d,I0 y,I0 u] 93)).alloc (FT #[.bool false,N0,I0 0,I0 0,N0,I0 0,I0 0,N0,N0,N0] 64)=W0 at*;have K1:∀V,B0 W0 V->V.cell? ⟨w.heap.size+1,0,FX⟩=FZ (I0 z)/\V.cell? ⟨w.heap.size+1,1,FX⟩=FZ (I0 o)/\V.cell? ⟨w.heap.size+1,2,FX⟩=FZ (I0 s)/\V.cell? ⟨w.heap.size+1,3,FX⟩=FZ (S0 p)/\V.cell? ⟨w.heap.size+1,4,FX⟩=FZ (S0 d)/\V.cell? ⟨w.heap.size+1,5,FX⟩=FZ (I0 y)/\V.cell? ⟨w.heap.size+1,6,FX⟩=FZ (I0 u):=fun V hV=>by
  have h:=((G5 X).next hV).x;exact⟨h.c0,h.c1,h.c2,h.c3,h.c4,h.c5,h.c6⟩
 have HK1:=G6 K1;obtain⟨x0,x1,x2,x3,x4,x5,x6,x7,x8,x9⟩:=(G5 X).s.cells;obtain⟨e0,e1,e2,e3,e4,e5,e6⟩:=K1 W0 (AA _ _);have hq:=(G5 X).lt;clear K1
 go_region_with (first
  |(go_at_call 110;refine(G5 CC _ (G5 HB0).drew).mono ?_;rintro e w1 ⟨bd,md,fd,bl,fl,bn,fn,bi,fi,bw,fw,B1,B2,rfl,h1,h2,od,hd1,ol,hl2,on,oi,ow,hb1⟩;have HB1:=G6 (I9 hb1);obtain⟨m0,m1,m2,m3,m4,m5,m6⟩:=G5 HK1 _ (G5 HB1);have CY:=G6 (G5 CX _ _ (w.heap.size+1+1) (by show w.heap.size+1+1<W0.heap.size;omega) _ _ _ _ _ _ _ _ _ _ _ _ _ h1 h2 od hd1 ol hl2 on oi ow hb1);have X1:=G6 ((G5 X).next (G5 HB1));clear h1 h2 od hd1 ol hl2 on oi ow hb1)
  |(go_at_call 111;refine(G5 CY).mono ?_;rintro e w2 ⟨⟨gd,nd2,cd2,gl,nl2,cl2,gn,nn2,cn2,gi,ni2,ci2,gw,nw2,cw2,rfl,H2,hb2⟩,hft⟩;have HFT:=G6 hft;clear hft;have X2:=(G5 X).next (I9 hb2);have R2:=X2.r;obtain⟨r0,r1,r2,r3,r4,r5,r6,r7,r8,r9⟩:=R2.cells;have rf0:=R2.GN 0;have rf1:=R2.GN 1;have rf2:=R2.GN 2;have rf3:=R2.GN 3;have rf4:=R2.GN 4;have rf5:=R2.GN 5;have rf6:=R2.GN 6;have rf7:=R2.GN 7;have rf8:=R2.GN 8;have rf9:=R2.GN 9;have D2:=G6 R2.gW;have HB2:=G6 (G8 (G5 HB0) (I9 hb2));clear hb2 R2 X2))
 all_goals
  go_wp2_with fail;refine bodyPost_ret (v:=.tuple #[.agg #[.bool s'.up,FQ gd nd2 cd2,I0 s'.id,I0 s'.ep,FQ gl nl2 cl2,I0 s'.dn,I0 s'.tr.z,FQ gn nn2 cn2,FQ gi ni2 ci2,FQ gw nw2 cw2],I0 E]) (by simp[results,results94,go_sem,r0,r1,r2,r3,r4,r5,r6,r7,r8,r9]) rfl ?_;obtain⟨g1,g2,g3,g4,g5,g6,g7⟩:=G5 H2;exact⟨⟨gd,nd2,cd2,gl,nl2,cl2,gn,nn2,cn2,gi,ni2,ci2,gw,nw2,cw2,rfl,G6 ⟨bJ (s:=s') (G5 D2) g1 g2 g3 g4 g5 g6,g7.lower (by show w.heap.size<=W0.heap.size;omega)⟩,JU (G5 HB2) (by omega) _ _ _ _ _ _ _ _ _ _⟩,(G5 HFT).lower (by show w.heap.size<=W0.heap.size;omega)⟩
theorem CB.dput(h:CB w W up vd id ep vl dn z vn vs vw)(q:Nat)(u:FV)(hq:w.heap.size+2<=q):CB w (W.setCell ⟨q,0,FX⟩ u) up vd id ep vl dn z vn vs vw:=
 ⟨h.below.setCell (by simp only;omega) u,h.s.other (by omega),h.r.other (by omega)⟩
def CV7(l:List GI)(k:Nat)(z:Int):Prop:=(k=0/\z=-1)\/∃x,0<k/\l[k-1]?=FZ x/\z=x.z
theorem AP7(s:Sv)(v:FV)(vl:FV)(l:List GI)(epo:Int)(w:FU)(hv:SvV w v s)(hvl:NV w vl l)(hf:BY2 s)(hll:l.length<=1000000000)(hk:(KY s.ts l:Int)<s.dn):
  FW prog 73 #[v,vl,I0 epo] w (pG w 13):=by
 obtain⟨ad,nd,cd,al,cl,an,cn,ai,ci,aw,cw,rfl,d1,l1,n1,s1,k1⟩:=hv.five;have CC:=G6 (fun W (hW:B0 w W)=>oV _ vl s.ts l W (l1.next hW) (hvl.next hW) (by have:=hf.l;omega) (by omega));obtain⟨lb,lc,rfl⟩:=MF hvl;clear hv d1 l1 n1 s1 k1 hvl hf hll;obtain⟨up,fs,id,ep,ts,dn,⟨tz,tns,tss⟩,ws⟩:=s;simp only at*;generalize KY ts l=k at*;go_enter func73,ntmps73;go_wp2_with fail;have X0:=G6 (CB.start w up id ep dn tz (FQ ad nd cd) (FQ al ts.length cl) (FQ an tns.length cn) (FQ ai tss.length ci) (FQ aw ws.length cw));generalize (w.alloc (FT #[.bool up,FQ ad nd cd,I0 id,I0 ep,FQ al ts.length cl,I0 dn,I0 tz,FQ an tns.length cn,FQ ai tss.length ci,FQ aw ws.length cw] 64)).alloc (FT #[.bool false,N0,I0 0,I0 0,N0,I0 0,I0 0,N0,N0,N0] 64)=W0 at*;refine(G5 CC _ (G5 X0).below).mono ?_;rintro e w1 ⟨rfl,hb1⟩;have X1:=G6 ((G5 X0).next hb1);have x5:=(G5 X1).s.cells.2.2.2.2.2.1;clear hb1 X0 CC;obtain⟨r0,r1,r2,r3,r4,r5,r6,r7,r8,r9⟩:=(G5 X1).r.cells;have rf0:=(G5 X1).r.GN 0;have rf1:=(G5 X1).r.GN 1;have rf2:=(G5 X1).r.GN 2;have rf3:=(G5 X1).r.GN 3;have rf4:=(G5 X1).r.GN 4;have rf5:=(G5 X1).r.GN 5;have rf6:=(G5 X1).r.GN 6;have rf7:=(G5 X1).r.GN 7;have rf8:=(G5 X1).r.GN 8;have rf9:=(G5 X1).r.GN 9;go_wp2_with fail;exact bodyPost_ret (v:=.tuple #[.agg #[.bool false,N0,I0 0,I0 0,N0,I0 0,I0 0,N0,N0,N0],I0 13]) (by simp[results,results73,go_sem,r0,r1,r2,r3,r4,r5,r6,r7,r8,r9]) rfl (kZ rfl (G5 X1).zero)
def RF(w W:FU)(s:Sv):Prop:=∃ad nd cd al nl cl an nn cn ai ni ci aw nw cw,CB w W s.up (FQ ad nd cd) s.id s.ep (FQ al nl cl) s.dn s.tr.z (FQ an nn cn) (FQ ai ni ci) (FQ aw nw cw)/\UJ (FQ ai ni ci) (w.heap.size+1)/\
 SvV W (.agg #[.bool s.up,FQ ad nd cd,I0 s.id,I0 s.ep,FQ al nl cl,I0 s.dn,I0 s.tr.z,FQ an nn cn,FQ ai ni ci,FQ aw nw cw]) s
theorem NV.take(h:NV w (FQ a ts.length c) ts)(hk:k<=ts.length):NV w (FQ a k c) (ts.take k):=by
 rcases h with⟨a',cap,e,rfl,hc⟩|⟨b,off,cap,e,h1,h2,h3,h0,h4⟩
 .simp only[AP]at e;obtain⟨rfl,_,rfl⟩:=e;obtain rfl:k=0:=by simpa using hk
  exact .inl ⟨a,c,rfl,by simp,hc⟩
 .simp only[AP]at e;obtain⟨rfl,_,rfl⟩:=e;by_cases k0:k=0
  .subst k0;exact .inl ⟨_,c,rfl,by simp,h2⟩
  .have hl:(ts.take k).length=k:=by simp;omega
   refine .inr ⟨b,off,c,by rw[hl],by omega,h2,h3,by intro e;rw[e]at hl;simp at hl;omega,fun j v hj=>h4 j v ?_⟩;have e:ts=ts.take k++ts.drop k:=(DN k ts).symm;rw[e,RV,List.getElem?_append_left (AU.1 hj).1];exact hj
theorem CB.PL(h:CB w W up0 vd0 id0 ep0 vl0 dn0 z0 vn0 vs0 vw0)(up:Bool)(id ep dn z:Int)(vd vl vn vs vw:FV):
  CB w (Go.Proofs.YthcncjimjclfpaaGreatDoor.PL W w.heap.size (.bool up) vd (I0 id) (I0 ep) vl (I0 dn) (I0 z) vn vs vw) up vd id ep vl dn z vn vs vw:=by
 refine⟨JU h.below (A8 _) _ _ _ _ _ _ _ _ _ _,?_,?_⟩
 .unfold IK Go.Proofs.YthcncjimjclfpaaGreatDoor.PL;rw[GL _ (GL _ (GL _ (GL _ (GL _ (GL _ (GL _ (GL _ (GL _ (GL _ h.s)))))))))];simp
 .unfold Go.Proofs.YthcncjimjclfpaaGreatDoor.PL;exact(IK.other (IK.other (IK.other (IK.other (IK.other (IK.other (IK.other (IK.other (IK.other (IK.other h.r (by omega)) (by omega)) (by omega)) (by omega)) (by omega)) (by omega)) (by omega)) (by omega)) (by omega)) (by omega))
theorem NV.drop{l:List GI}(h:NV w (FQ a l.length c) l)(hk:k<=l.length):
  (c=k->NV w (FQ a (l.length-k) 0) (l.drop k))/\(c≠k->NV w (FQ (Option.map (fun x=>x.add (k*7)) a) (l.length-k) (c-k)) (l.drop k)):=by
 have hlen:(l.drop k).length=l.length-k:=by simp
 rcases h with⟨a',cap,e,rfl,hc⟩|⟨b,off,cap,e,h1,h2,h3,h0,h4⟩
 .simp only[AP]at e;obtain⟨rfl,_,rfl⟩:=e;exact⟨fun _=>.inl ⟨a,0,by simp,by simp,AY _⟩,fun _=>.inl ⟨Option.map (fun x=>x.add (k*7)) a,c-k,by simp,by simp,by omega⟩⟩
 .simp only[AP]at e;obtain⟨rfl,_,rfl⟩:=e;by_cases hd:l.drop k=[]
  .have h0':l.length-k=0:=by rw[<-hlen,hd];rfl
   exact⟨fun _=>.inl ⟨_,_,by rw[h0'],hd,by simp⟩,fun _=>.inl ⟨_,_,by rw[h0'],hd,by omega⟩⟩
  .have hlt:0<l.length-k:=by rw[<-hlen];exact List.length_pos_iff.2 hd
   refine⟨fun e=>by omega,fun _=>.inr ⟨b,off+k*7,c-k,by rw[hlen,Option.map_some,Addr.add_lit],by omega,by omega,h3,hd,fun j v hj=>?_⟩⟩;have e:KG l=KG (l.take k)++KG (l.drop k):=by rw[<-RV,DN]
   have hl7:(KG (l.take k)).length=k*7:=by rw[aY];simp;omega
   have:=h4 (k*7+j) v (by rw[e,List.getElem?_append_right (by omega),hl7,Nat.add_sub_cancel_left];exact hj);rwa[<-Nat.add_assoc]at this
theorem CB.putE(h:CB w W up vd id ep vl dn z vn vs vw)(e:Int):CB w (W.setCell ⟨w.heap.size,3,FX⟩ (I0 e)) up vd id e vl dn z vn vs vw:=by
 refine⟨h.below.setCell (by simp) _,?_,h.r.other (by omega)⟩;unfold IK;rw[GL (I0 e) h.s];rfl
def lG(w:FU)(s:Sv)(N:List Nt)(E:Int)(e:Ending)(w':FU):Prop:=∃v a c,e=.returned (.tuple #[v,FQ a N.length c,I0 E])/\SvV w' v s/\IU w' (FQ a N.length c) N/\B0 w w'
theorem AP9{w':FU}(he:e=.returned (.tuple #[.agg #[.bool false,N0,I0 0,I0 0,N0,I0 0,I0 0,N0,N0,N0],N0,I0 E]))(hb:B0 w w'):lG w sv0 [] E e w':=
 ⟨_,FX,0,he,SvV.zero w',IU.nil w',hb⟩
theorem BO5(hb:B0 w W)(hk:w.heap.size<=k):B0 w (PL W k (.bool false) (N0) (I0 0) (I0 0) (N0) (I0 0) (I0 0) (N0) (N0) (N0)):=JU hb hk _ _ _ _ _ _ _ _ _ _
theorem BO6{lo hi:Nat}(h:NV w (FQ a ts.length c) ts)(h1:lo<=hi)(h2:hi<=ts.length):
  (c=lo->NV w (FQ a (hi-lo) 0) ((ts.drop lo).take (hi-lo)))/\(c≠lo->NV w (FQ (Option.map (fun x=>x.add (lo*7)) a) (hi-lo) (c-lo)) ((ts.drop lo).take (hi-lo))):=by
 have hl:(ts.drop lo).length=ts.length-lo:=by simp
 obtain⟨d1,d2⟩:=h.drop (k:=lo) (by omega);rw[<-hl]at d1 d2;exact⟨fun e=>(d1 e).take (by omega),fun e=>(d2 e).take (by omega)⟩
theorem CI.done(h:CI w W ka kn kr s N vd vl vn vs vw vN)(n:Int):CI w (W.setCell ⟨ka,5,FX⟩ (I0 n)) ka kn kr ⟨s.up,s.fs,s.id,s.ep,s.ts,n,s.tr,s.ws⟩ N vd vl vn vs vw vN:=by
 have b1:IK (W.setCell ⟨ka,5,FX⟩ (I0 n)) ka s.up vd s.id s.ep vl n s.tr.z vn vs vw:=GL (j:=5) _ h.box;refine⟨b1,(BF _ _ _ _ (Ne.symm h.ne)).trans h.nb,QK h.d h.box (by decide) _,QK h.l h.box (by decide) _,QK h.n h.box (by decide) _,QK h.i h.box (by decide) _,QK h.o h.box (by decide) _,QK h.t h.box (by decide) _,h.below.setCell h.ha _,h.ha,h.hn,h.ne,h.r.other h.r1,h.r1,h.r2,h.hr⟩
theorem fB[Lay α]{xs:List α}(h:GZ W B v xs)(hb:IK W k up vd id ep vl dn z vn vs vw)(hne:64≠Lay.ty α)(x0 x1 x2 x3 x4 x5 x6 x7 x8 x9:FV):GZ (PL W k x0 x1 x2 x3 x4 x5 x6 x7 x8 x9) B v xs:=by
 have hk:=bQ h hb hne;unfold PL;exact(((((((((h.other hk _).other hk _).other hk _).other hk _).other hk _).other hk _).other hk _).other hk _).other hk _).other hk _
theorem CI.out(h:CI w W ka kn kr s N vd vl vn vs vw vN)(x0 x1 x2 x3 x4 x5 x6 x7 x8 x9:FV):
  SvV (PL W kr x0 x1 x2 x3 x4 x5 x6 x7 x8 x9) (.agg #[.bool s.up,vd,I0 s.id,I0 s.ep,vl,I0 s.dn,I0 s.tr.z,vn,vs,vw]) s/\IU (PL W kr x0 x1 x2 x3 x4 x5 x6 x7 x8 x9) vN N/\B0 w (PL W kr x0 x1 x2 x3 x4 x5 x6 x7 x8 x9):=
 ⟨⟨vd,vl,vn,vs,vw,rfl,VJ.1 (fB h.d h.r (by decide) _ _ _ _ _ _ _ _ _ _).seq,PK.1 (fB h.l h.r (by decide) _ _ _ _ _ _ _ _ _ _).seq,(fB h.n h.r (by decide) _ _ _ _ _ _ _ _ _ _).seq,(fB h.i h.r (by decide) _ _ _ _ _ _ _ _ _ _).seq,(fB h.o h.r (by decide) _ _ _ _ _ _ _ _ _ _).seq⟩,(fB h.t h.r (by decide) _ _ _ _ _ _ _ _ _ _).seq,JU h.below h.hr _ _ _ _ _ _ _ _ _ _⟩
theorem BO7{w W1 w1:FU}{s:Sv}{ad al an ai aw:Option Addr}{nd cd cl cn ci cw:Nat}{bd bl bn bi bw:Option Addr}{md fd fl fn fi fw B1 B2:Nat}(h:CB w W1 s.up (FQ ad nd cd) s.id s.ep (FQ al s.ts.length cl) s.dn s.tr.z (FQ an s.tr.ns.length cn) (FQ ai s.tr.ss.length ci) (FQ aw s.ws.length cw))
  (h1:W1.heap.size<=B1) (h2:B1<=B2) (od:GZ w1 W1.heap.size (FQ bd md fd) s.fs) (ol:GZ w1 B1 (FQ bl s.ts.length fl) s.ts) (on:GZ w1 B2 (FQ bn s.tr.ns.length fn) s.tr.ns) (oi:GZ w1 B2 (FQ bi s.tr.ss.length fi) s.tr.ss) (ow:GZ w1 B2 (FQ bw s.ws.length fw) s.ws) (hb:B0 W1 w1):
  CI w ((w1.alloc (FT #[.bool s.up,FQ bd md fd,I0 s.id,I0 s.ep,FQ bl s.ts.length fl,I0 s.dn,I0 s.tr.z,FQ bn s.tr.ns.length fn,FQ bi s.tr.ss.length fi,FQ bw s.ws.length fw] 64)).alloc (FT #[N0] 35)) w1.heap.size (w1.heap.size+1) (w.heap.size+1) s [] (FQ bd md fd) (FQ bl s.ts.length fl) (FQ bn s.tr.ns.length fn) (FQ bi s.tr.ss.length fi) (FQ bw s.ws.length fw) (N0):=by
 have hz:=h.below.size;have hz1:=hb.size;have hr:=h.r.lt;have a1:=G7 w1 (FT #[.bool s.up,FQ bd md fd,I0 s.id,I0 s.ep,FQ bl s.ts.length fl,I0 s.dn,I0 s.tr.z,FQ bn s.tr.ns.length fn,FQ bi s.tr.ss.length fi,FQ bw s.ws.length fw] 64);have a2:=G7 (w1.alloc (FT #[.bool s.up,FQ bd md fd,I0 s.id,I0 s.ep,FQ bl s.ts.length fl,I0 s.dn,I0 s.tr.z,FQ bn s.tr.ns.length fn,FQ bi s.tr.ss.length fi,FQ bw s.ws.length fw] 64)) (FT #[N0] 35);have b:=G8 a1 a2;refine⟨(IK.new w1 s.up s.id s.ep s.dn s.tr.z _ _ _ _ _).next a2,?_,(od.next b).lower hz,(ol.next b).lower (by omega),(on.next b).lower (by omega),(oi.next b).lower (by omega),(ow.next b).lower (by omega),.inl ⟨rfl,rfl⟩,G8 (G8 h.below hb) b,by omega,by omega,by omega,(h.r.next hb).next b,by omega,by omega,by omega⟩;have:=heap_alloc_new (w1.alloc (FT #[.bool s.up,FQ bd md fd,I0 s.id,I0 s.ep,FQ bl s.ts.length fl,I0 s.dn,I0 s.tr.z,FQ bn s.tr.ns.length fn,FQ bi s.tr.ss.length fi,FQ bw s.ws.length fw] 64)) (FT #[N0] 35);rwa[show (w1.alloc (FT #[.bool s.up,FQ bd md fd,I0 s.id,I0 s.ep,FQ bl s.ts.length fl,I0 s.dn,I0 s.tr.z,FQ bn s.tr.ns.length fn,FQ bi s.tr.ss.length fi,FQ bw s.ws.length fw] 64)).heap.size=w1.heap.size+1 by simp]at this
def FrS(w:FU)(e:Ending):Prop:=∀x0 x1 x2 x3 x4 x5 x6 x7 x8 x9 y z:FV,e=.returned (.tuple #[.agg #[x0,x1,x2,x3,x4,x5,x6,x7,x8,x9],y,z])->OA w.heap.size x8/\OA w.heap.size x1/\OA w.heap.size x4/\OA w.heap.size x7/\OA w.heap.size x9/\OA w.heap.size y
theorem CM0{x0 x1 x2 x3 x4 x5 x6 x7 x8 x9 y z:FV}(h:OA w.heap.size x8/\OA w.heap.size x1/\OA w.heap.size x4/\OA w.heap.size x7/\OA w.heap.size x9/\OA w.heap.size y):FrS w (.returned (.tuple #[.agg #[x0,x1,x2,x3,x4,x5,x6,x7,x8,x9],y,z])):=by
 intro u0 u1 u2 u3 u4 u5 u6 u7 u8 u9 t r e;simp only[Ending.returned.injEq,Value.tuple.injEq,Value.agg.injEq,Array.mk.injEq,List.cons.injEq]at e;obtain⟨⟨_,rfl,_,_,rfl,_,_,rfl,rfl,rfl,_⟩,rfl,_⟩:=e;exact h
theorem xX(s:Sv)(v:FV)(dN nN k:Nat)(xs:List GI)(w:FU)(hv:SvV w v s)(hf:BY2 s)(hdn:s.dn=dN)(h1:dN<=nN)(h2:nN<=s.ts.length)(hxs:xs=(s.ts.drop dN).take (nN-dN))(hC:Chn s xs k)(hB:BN6 s xs):
  FW prog 95 #[v,I0 nN] w fun e w'=>(k=xs.length->lG w ⟨(csP s xs k).1.up,(csP s xs k).1.fs,(csP s xs k).1.id,(csP s xs k).1.ep,(csP s xs k).1.ts,nN,(csP s xs k).1.tr,(csP s xs k).1.ws⟩ (csP s xs k).2 0 e w'/\FrS w e)/\(∀x,xs[k]?=FZ x->lG w sv0 [] (WG (csP s xs k).1.tr x) e w'):=by
 have CC:=G6 (fun W (hW:B0 w W)=>ZQ s v W (hv.next hW) hf);obtain⟨ad,nd,cd,al,cl,an,cn,ai,ci,aw,cw,rfl,d1,l1,n1,s1,k1⟩:=hv.five;have hxl:xs.length=nN-dN:=by rw[hxs];simp;omega
 have HLS:=G6 (fun W (hW:B0 w W)=>BO6 (l1.next hW) h1 h2);rw[<-hxs]at HLS;have hcl:s.ts.length<=cl/\cl<=9223372036854775807:=by
  rcases l1 with⟨_,_,e,e0,hm⟩|⟨_,_,_,e,h3,h4,_⟩
  .simp only[AP]at e;rw[e0]at e⊢;simp only[maxLen]at hm;simp;omega
  .simp only[AP]at e;simp only[maxLen]at h4;omega
 have hll:s.ts.length*72<=140737488355328:=hf.l;have HC:=G6 hC;have HBs:=G6 hB;have hkl:=hC.le;clear hv d1 l1 n1 s1 k1 hxs hC hB hf;have hdi:¬s.dn<0:=by omega
 have hni:¬ (nN:Int)<s.dn:=by omega
 have HDN:=G6 hdn;clear hdn;have hnl:¬ (nN:Int)>(s.ts.length:Int):=by omega
 go_enter func95,ntmps95;go_upto_region 1 with fail;have X1:=G6 (CB.start w s.up s.id s.ep s.dn s.tr.z (FQ ad nd cd) (FQ al s.ts.length cl) (FQ an s.tr.ns.length cn) (FQ ai s.tr.ss.length ci) (FQ aw s.ws.length cw));generalize (w.alloc (FT #[.bool s.up,FQ ad nd cd,I0 s.id,I0 s.ep,FQ al s.ts.length cl,I0 s.dn,I0 s.tr.z,FQ an s.tr.ns.length cn,FQ ai s.tr.ss.length ci,FQ aw s.ws.length cw] 64)).alloc (FT #[.bool false,N0,I0 0,I0 0,N0,I0 0,I0 0,N0,N0,N0] 64)=W1 at*;obtain⟨x0,x1,x2,x3,x4,x5,x6,x7,x8,x9⟩:=(G5 X1).s.cells;go_upto_region 4 with fail;go_wp2_with fail
 with_reducible refine(G5 CC _ (G5 X1).below).mono ?_
 rintro e w1 ⟨bd,md,fd,bl,fl,bn,fn,bi,fi,bw,fw,B1,B2,rfl,g1,g2,od,hd1,ol,hl2,on,oi,ow,hb1⟩;have CI0:=G6 (BO7 (G5 X1) g1 g2 od ol on oi ow hb1);have X2:=G6 (((G5 X1).next hb1).next (G8 (G7 w1 (FT #[.bool s.up,FQ bd md fd,I0 s.id,I0 s.ep,FQ bl s.ts.length fl,I0 s.dn,I0 s.tr.z,FQ bn s.tr.ns.length fn,FQ bi s.tr.ss.length fi,FQ bw s.ws.length fw] 64)) (G7 (w1.alloc (FT #[.bool s.up,FQ bd md fd,I0 s.id,I0 s.ep,FQ bl s.ts.length fl,I0 s.dn,I0 s.tr.z,FQ bn s.tr.ns.length fn,FQ bi s.tr.ss.length fi,FQ bw s.ws.length fw] 64)) (FT #[N0] 35))));clear g1 g2 od hd1 ol hl2 on oi ow hb1 X1 CC x0 x1 x2 x3 x4 x5 x6 x7 x8 x9;go_upto_region 7 with fail;generalize (w1.alloc (FT #[.bool s.up,FQ bd md fd,I0 s.id,I0 s.ep,FQ bl s.ts.length fl,I0 s.dn,I0 s.tr.z,FQ bn s.tr.ns.length fn,FQ bi s.tr.ss.length fi,FQ bw s.ws.length fw] 64)).alloc (FT #[N0] 35)=W2 at*;generalize w1.heap.size+1=kn at*;generalize w1.heap.size=ka at*;have x4:=(G5 X2).s.cells.2.2.2.2.1;rw[G5 HDN]
 go_cut [41,42,43]from 36 (fun t41 t42 t43 wx=>∃la lcc,t41=FQ la (nN-dN) lcc/\t42=I0 ((nN-dN:Nat):Int)/\t43=I0 0/\wx=W2/\Hid (∀W,B0 w W->NV W (FQ la (nN-dN) lcc) xs))
 case first=>
  by_cases hlc:cl=dN
  .subst hlc;go_wp2_with fail
   all_goals go_meet
   all_goals exact⟨_,_,rfl,rfl,rfl,rfl,G6 fun W hW=>(G5 HLS W hW).1 (by first|rfl|trivial)⟩
  .go_wp2_with fail
   all_goals go_meet
   all_goals exact⟨_,_,rfl,rfl,rfl,rfl,G6 fun W hW=>(G5 HLS W hW).2 hlc⟩
 case rest=>
  obtain⟨la,lcc,rfl,rfl,rfl,rfl,HLX⟩:=hcut;rw[<-hxl]at HLX⊢;have HXL:=G6 hxl;have hx63:xs.length<=1000000000000000:=by omega
  clear HLS hxl h1 h2 hcl hll hdi hni hnl X2 x4;go_wp2_with fail
  go_loopg [43] xs.length (fun kx s43 wr=>∃i:Nat,s43=I0 i/\i<=k/\xs.length-i<=kx/\Hid (∃ad nd cd al cl an cn ai ci aw cw aN cN,CI w wr ka kn (w.heap.size+1) (csP s xs i).1 (csP s xs i).2 (FQ ad nd cd) (FQ al (csP s xs i).1.ts.length cl) (FQ an (csP s xs i).1.tr.ns.length cn) (FQ ai (csP s xs i).1.tr.ss.length ci) (FQ aw (csP s xs i).1.ws.length cw) (FQ aN (csP s xs i).2.length cN)))
  case atStart=>exact⟨0,rfl,AY _,A8 _,G6 (by rw[rX];exact⟨_,_,_,_,_,_,_,_,_,_,_,_,_,G5 CI0⟩)⟩
  case round=>
   obtain⟨i,rfl,hi,hgi,HI⟩:=hrel;by_cases hlt:i<xs.length
   .obtain⟨x,hx⟩:∃x,xs[i]?=FZ x:=⟨_,AL hlt⟩;obtain⟨ead,CS7,ecd,eal,ecl,ean,ecn,eai,eci,eaw,ecw,eaN,ecN,hci⟩:=G5 HI;obtain⟨b,o,c,he,hb,q,hq9⟩:=ZO (G5 HLX wr hci.below) hx;simp only[AP]at he;obtain⟨rfl,he2,rfl⟩:=he;clear he2 hq9;have e0:=q.z hx;have e1:=q.o hx;have e2:=q.s hx;have e3:=q.p hx;have e4:=q.d hx;have e5:=q.v hx;have e6:=q.w hx;have hii:(i:Int)<(xs.length:Int):=by omega
    have hal:=G7 wr (FT #[I0 x.z,I0 x.o,I0 x.s,S0 x.p,S0 x.d,I0 x.v,I0 x.w] 93);have HC1:=G6 (A40 w _ ka kn (w.heap.size+1) (csP s xs i).1 (csP s xs i).2 x ead eal ean eai eaw eaN CS7 ecd ecl ecn eci ecw ecN (hci.next hal) (C61 (G5 HBs) (G5 HC) hi hx));have HT1:=TAt.new wr x;have HX:=G6 hx;have HR0:=G6 (hci.r.next hal);have HB1:=G6 (G8 hci.below hal);have t0:=HT1.c0;have t1:=HT1.c1;have t2:=HT1.c2;have t3:=HT1.c3;have t4:=HT1.c4;have t5:=HT1.c5;have t6:=HT1.c6;clear q hb hx hal HT1 hci HI;obtain⟨z,op,u,p,d,y,vv⟩:=x;unfold J8 at HC1;simp only at e0 e1 e2 e3 e4 e5 e6 t0 t1 t2 t3 t4 t5 t6;go_upto_region 10 with fail;generalize wr.alloc (FT #[I0 z,I0 op,I0 u,S0 p,S0 d,I0 y,I0 vv] 93)=W6 at*;generalize wr.heap.size=kx at*;clear e0 e1 e2 e3 e4 e5 e6;go_wp2_with fail;refine(G5 HC1).mono ?_;rintro e w7 ⟨rfl,hout⟩;have HO:=G6 hout;clear HC1 hout t0 t1 t2 t3 t4 t5 t6;have HX':=G5 HX;obtain⟨E,hE⟩:∃E,WG (csP s xs i).1.tr ⟨z,op,u,p,d,y,vv⟩=E:=⟨_,rfl⟩;rw[hE]at HO;rw[hE];by_cases hik:i<k
    .obtain rfl:E=0:=by rw[<-hE];exact(G5 HC).ok i _ hik HX'
     have HIN:Hid (∃ad nd cd al cl an cn ai ci aw cw aN cN,CI w w7 ka kn (w.heap.size+1) (csP s xs (i+1)).1 (csP s xs (i+1)).2 (FQ ad nd cd) (FQ al (csP s xs (i+1)).1.ts.length cl) (FQ an (csP s xs (i+1)).1.tr.ns.length cn) (FQ ai (csP s xs (i+1)).1.tr.ss.length ci) (FQ aw (csP s xs (i+1)).1.ws.length cw) (FQ aN (csP s xs (i+1)).2.length cN)):=G6 (by
      rw[AD9 HX'];simp only[stP,AO];exact(G5 HO).2.2 rfl)
     clear HO hE HX';go_wp2_with fail
     go_roundg (xs.length-(i+1))
     case measure=>omega
     case rel=>exact⟨i+1,rfl,by omega,A8 _,HIN⟩
    .obtain rfl:i=k:=by omega
     have hE0:E≠0:=by rw[<-hE];exact(G5 HC).stop _ HX'
     have HR7:=(G5 HR0).next ((G5 HO).2.1 hE0);have HBw:=G6 (BO5 (G5 HO).1 (show w.heap.size<=w.heap.size+1 by omega));unfold PL at HBw;obtain⟨r0,r1,r2,r3,r4,r5,r6,r7,r8,r9⟩:=HR7.cells;have rf0:=HR7.GN 0;have rf1:=HR7.GN 1;have rf2:=HR7.GN 2;have rf3:=HR7.GN 3;have rf4:=HR7.GN 4;have rf5:=HR7.GN 5;have rf6:=HR7.GN 6;have rf7:=HR7.GN 7;have rf8:=HR7.GN 8;have rf9:=HR7.GN 9;have HE:=G6 hE;clear HR7 HO HR0 hE HX';go_wp2_with fail;refine bodyPost_ret (v:=.tuple #[.agg #[.bool false,N0,I0 0,I0 0,N0,I0 0,I0 0,N0,N0,N0],N0,I0 E]) (by simp[results,results95,go_sem,r0,r1,r2,r3,r4,r5,r6,r7,r8,r9]) rfl ?_;refine⟨fun h=>by omega,fun x' hx'=>?_⟩;rw[G5 HX]at hx'
     cases hx'
     rw[G5 HE];exact AP9 rfl (G5 HBw)
   .obtain rfl:i=k:=by omega
    have hik:i=xs.length:=by omega
    obtain⟨ead,CS7,ecd,eal,ecl,ean,ecn,eai,eci,eaw,ecw,eaN,ecN,hci⟩:=G5 HI;obtain⟨S,hS⟩:∃S,(csP s xs i).1=S:=⟨_,rfl⟩;obtain⟨NN,hNN⟩:∃NN,(csP s xs i).2=NN:=⟨_,rfl⟩;rw[hS,hNN]at hci;have HD:=G6 (hci.done nN);have HFR:=G6 (C9 (MH hci.i) (C9 (MH hci.d) (C9 (MH hci.l) (C9 (MH hci.n) (C9 (MH hci.o) (MH hci.t))))));have x5:=hci.box.cells.2.2.2.2.2.1;have xf5:=hci.box.GN 5;have HS:=G6 hS;have HNN:=G6 hNN;have HIK:=G6 hik;have hki:¬ ((i:Int)<(xs.length:Int)):=by omega
    clear hci HI hS hNN hik;go_upto_region 15 with fail;generalize wr.setCell ⟨ka,5,FX⟩ (I0 nN)=W8 at*;clear x5 xf5;obtain⟨x0,x1,x2,x3,x4,x5,x6,x7,x8,x9⟩:=(G5 HD).box.cells;have n0:W8.cell? ⟨kn,0,FX⟩=FZ (FQ eaN NN.length ecN):=by simp[AV,(G5 HD).nb]
    obtain⟨r0,r1,r2,r3,r4,r5,r6,r7,r8,r9⟩:=(G5 HD).r.cells;have rf0:=(G5 HD).r.GN 0;have rf1:=(G5 HD).r.GN 1;have rf2:=(G5 HD).r.GN 2;have rf3:=(G5 HD).r.GN 3;have rf4:=(G5 HD).r.GN 4;have rf5:=(G5 HD).r.GN 5;have rf6:=(G5 HD).r.GN 6;have rf7:=(G5 HD).r.GN 7;have rf8:=(G5 HD).r.GN 8;have rf9:=(G5 HD).r.GN 9;have C79:=G6 ((G5 HD).out (.bool S.up) (FQ ead CS7 ecd) (I0 S.id) (I0 S.ep) (FQ eal S.ts.length ecl) (I0 nN) (I0 S.tr.z) (FQ ean S.tr.ns.length ecn) (FQ eai S.tr.ss.length eci) (FQ eaw S.ws.length ecw));have hl1:=(G5 HD).box.lt;have hl2:=(G5 HD).r.lt;have HB8:=G6 (G5 HD).below;have hne1:w.heap.size+1≠ka:=(G5 HD).r1;have hne2:w.heap.size+1≠kn:=(G5 HD).r2;have hne3:ka≠w.heap.size+1:=fun h=>hne1 h.symm;have hne4:kn≠w.heap.size+1:=fun h=>hne2 h.symm;clear HD;simp only at x0 x1 x2 x3 x4 x5 x6 x7 x8 x9;unfold PL at C79;go_region
    all_goals go_wp2_with fail
    all_goals refine bodyPost_ret (v:=.tuple #[.agg #[.bool S.up,FQ ead CS7 ecd,I0 S.id,I0 S.ep,FQ eal S.ts.length ecl,I0 nN,I0 S.tr.z,FQ ean S.tr.ns.length ecn,FQ eai S.tr.ss.length eci,FQ eaw S.ws.length ecw],FQ eaN NN.length ecN,I0 0]) (by simp[results,results95,go_sem,r0,r1,r2,r3,r4,r5,r6,r7,r8,r9]) rfl ?_
    all_goals rw[G5 HS,G5 HNN]
    all_goals refine fun _=>⟨⟨_,_,_,rfl,?_,?_,?_⟩,CM0 (G5 HFR)⟩
    all_goals first
     |exact(G5 C79).1.next ((AA _ _).drew)
     |exact(G5 C79).2.1.next ((AA _ _).drew)
     |exact(G5 C79).2.2.drew
     |exact(G5 C79).1
     |exact(G5 C79).2.1
     |exact(G5 C79).2.2
noncomputable def CV8(id:Int):Sv:=⟨true,[P6 []],id,ZB [],[],0,RP,[]⟩
theorem B60:oZ 44 (fun x=>#[x]) [] [] [P6 []] 0:=
 gB [] [P6 []] 0 (fun v W hv=>by
  have h:=A14 v [] NW 7 W hv (JQ XT) (.inr ⟨XT,⟨[],[],sD _⟩,rfl⟩);exact h)
  (MV fun v W hv=>bG v [] [] [] NW [] W hv (JQ XT) XT bT (by decide) (sD _) (by decide))
theorem B61(id:Int)(h0:0<=id)(h1:id<3)(w:FU):FW prog 31 #[I0 id,.agg #[N0]] w (bH w (CV8 id) 0):=
 AE4 (N0) [] [P6 []] [] id w (IQ.nil w) (by intro f hf;simp at hf) h0 h1 B60
noncomputable def OE(m:List GI)(i:Nat):Tr:=(m.take i).foldl WY RP
theorem XW(m:List GI):OE m 0=RP:=by simp[OE]
theorem XY{m:List GI}(h:m[i]?=FZ x):OE m (i+1)=WY (OE m i) x:=by
 unfold OE;rw[Q8 h,List.foldl_append];rfl
theorem VN(m:List GI)(x:GI)(h:i<=m.length):OE (m++[x]) i=OE m i:=by
 unfold OE;rw[List.take_append_of_le_length h]
theorem B62(xs:List GI):∀ (s:Sv) (N:List Nt),(xs.foldl stP (s,N)).1.tr=xs.foldl WY s.tr:=by
 induction xs with
 |nil=>intro s N;rfl
 |cons x xs ih=>
  intro s N;simp only[List.foldl_cons];exact ih (fV s x) _
structure CM2(s:Sv)(t:GI)(s':Sv):Prop where
 z:¬t.z<=J4 s.ts
 p:t.p.length<=140737488355328
 d:t.d.length<=140737488355328
 n:s.ts.length<=1000000000
 g:∃d1,s'=⟨s.up,d1,s.id,s.ep,s.ts++[t],s.dn,s.tr,s.ws⟩/\ZE 155 (fun x=>#[x,J8 t,.bool true]) s.fs d1 0
theorem A54(hf:BY2 s){d:List DF}(g:LW d)(e:Int)(k:Nat):BY2 ⟨s.up,d,s.id,e,s.ts.take k,s.dn,s.tr,s.ws⟩:=
 ⟨by have:=g.few;simp only;omega,JQ g,by have:=hf.l;simp only[List.length_take];omega,fun x hx=>hf.lf x (List.mem_of_mem_take hx),hf.n,hf.nf,hf.si,hf.wa,hf.wf⟩
theorem C81(h:∀W,B0 w W->NV W (FQ a ts.length c) ts):ts.length<=c:=by
 rcases h w (AA _ _)with⟨a',cap,e,rfl,_⟩|⟨b,off,cap,e,h1,_⟩
 .simp
 .simp only[AP]at e;omega
def SF0(w W:FU)(s:Sv)(al:Option Addr)(cl:Nat)(an:Option Addr)(cn:Nat)(ai:Option Addr)(ci:Nat)(aw:Option Addr)(cw:Nat):Prop:=
 ∃ad nd cd,CB w W s.up (FQ ad nd cd) s.id s.ep (FQ al s.ts.length cl) s.dn s.tr.z (FQ an s.tr.ns.length cn) (FQ ai s.tr.ss.length ci) (FQ aw s.ws.length cw)/\
 SvV W (.agg #[.bool s.up,FQ ad nd cd,I0 s.id,I0 s.ep,FQ al s.ts.length cl,I0 s.dn,I0 s.tr.z,FQ an s.tr.ns.length cn,FQ ai s.tr.ss.length ci,FQ aw s.ws.length cw]) s
theorem SF0.next{al an ai aw:Option Addr}{cl cn ci cw:Nat}(h:SF0 w W s al cl an cn ai ci aw cw)(hb:B0 W V):SF0 w V s al cl an cn ai ci aw cw:=by
 obtain⟨ad,nd,cd,h1,h2⟩:=h;exact⟨ad,nd,cd,h1.next hb,h2.next hb⟩
theorem BP1{w P:FU}{s:Sv}{ts:List GI}{k:Nat}{ad ad0 al an ai aw:Option Addr}{nd cd nd0 cd0 cl cn ci cw:Nat}{ep0:Int}(h:CB w P s.up (FQ ad0 nd0 cd0) s.id ep0 (FQ al ts.length cl) s.dn s.tr.z (FQ an s.tr.ns.length cn) (FQ ai s.tr.ss.length ci) (FQ aw s.ws.length cw))(hd:IQ P (FQ ad nd cd) s.fs)
  (hs:(∀W,B0 w W->NV W (FQ al ts.length cl) ts)/\(∀W,B0 w W->IU W (FQ an s.tr.ns.length cn) s.tr.ns)/\(∀W,B0 w W->IU W (FQ ai s.tr.ss.length ci) s.tr.ss)/\∀W,B0 w W->IU W (FQ aw s.ws.length cw) s.ws) (hk:k<=ts.length) (ht:s.ts=ts.take k:=by rfl):
  SF0 w (((P.setCell ⟨w.heap.size,1,FX⟩ (FQ ad nd cd)).setCell ⟨w.heap.size,3,FX⟩ (I0 s.ep)).setCell ⟨w.heap.size,4,FX⟩ (FQ al k cl)) s al cl an cn ai ci aw cw:=by
 have hlen:s.ts.length=k:=by rw[ht];simp;omega
 have hb:=((h.below.setCell (p:=⟨w.heap.size,1,FX⟩) (by simp) (FQ ad nd cd)).setCell (p:=⟨w.heap.size,3,FX⟩) (by simp) (I0 s.ep)).setCell (p:=⟨w.heap.size,4,FX⟩) (by simp) (FQ al k cl);have u0:=h.s.gW;have u1:dL (P.setCell ⟨w.heap.size,1,FX⟩ (FQ ad nd cd)) w.heap.size:=u0.set (by simp);have u2:dL ((P.setCell ⟨w.heap.size,1,FX⟩ (FQ ad nd cd)).setCell ⟨w.heap.size,3,FX⟩ (I0 s.ep)) w.heap.size:=u1.set (by simp);refine⟨ad,nd,cd,by rw[hlen];exact((h.put 1 (FQ ad nd cd) rfl).putE s.ep).put 4 (FQ al k cl) rfl,_,_,_,_,_,rfl,SN (SN (SN hd u0 _) u1 _) u2 _,?_,hs.2.1 _ hb,hs.2.2.1 _ hb,hs.2.2.2 _ hb⟩;rw[hlen,ht];exact(hs.1 _ hb).take hk
def LF(w W:FU)(q:Nat)(s:Sv):Prop:=
 ∃ad nd cd al cl an cn ai ci aw cw,B0 w W/\IK W (w.heap.size+1) false (N0) 0 0 (N0) 0 0 (N0) (N0) (N0)/\
  IK W q s.up (FQ ad nd cd) s.id s.ep (FQ al s.ts.length cl) s.dn s.tr.z (FQ an s.tr.ns.length cn) (FQ ai s.tr.ss.length ci) (FQ aw s.ws.length cw)/\w.heap.size+2<=q/\
  IQ W (FQ ad nd cd) s.fs/\GZ W (w.heap.size+2) (FQ al s.ts.length cl) s.ts/\GZ W (w.heap.size+2) (FQ an s.tr.ns.length cn) s.tr.ns/\GZ W (w.heap.size+2) (FQ ai s.tr.ss.length ci) s.tr.ss/\GZ W (w.heap.size+2) (FQ aw s.ws.length cw) s.ws/\
  (∀k,(Value.slice al s.ts.length cl).ownBlock=FZ k->k≠q/\(Value.slice an s.tr.ns.length cn).ownBlock≠FZ k/\(Value.slice ai s.tr.ss.length ci).ownBlock≠FZ k/\(Value.slice aw s.ws.length cw).ownBlock≠FZ k)/\
  (Value.slice an s.tr.ns.length cn).ownBlock≠FZ q/\(Value.slice ai s.tr.ss.length ci).ownBlock≠FZ q/\(Value.slice aw s.ws.length cw).ownBlock≠FZ q
theorem VO[Lay α]{xs:List α}(h:GZ W B v xs)(hk:W.heap.size<=k):v.ownBlock≠FZ k:=fun e=>by have:=h.low k e;omega
theorem BP2{w W w1:FU}{s:Sv}{ad al an ai aw:Option Addr}{nd cd cl cn ci cw B1 B2:Nat}(hW:B0 w W)(hr:IK W (w.heap.size+1) false (N0) 0 0 (N0) 0 0 (N0) (N0) (N0))(h1:W.heap.size<=B1)(h2:B1<=B2)
  (od:GZ w1 W.heap.size (FQ ad nd cd) s.fs) (ol:GZ w1 B1 (FQ al s.ts.length cl) s.ts) (hl2:∀k,(Value.slice al s.ts.length cl).ownBlock=FZ k->k<B2) (on:GZ w1 B2 (FQ an s.tr.ns.length cn) s.tr.ns) (oi:GZ w1 B2 (FQ ai s.tr.ss.length ci) s.tr.ss) (ow:GZ w1 B2 (FQ aw s.ws.length cw) s.ws) (hb:B0 W w1):
  LF w (w1.alloc (FT #[.bool s.up,FQ ad nd cd,I0 s.id,I0 s.ep,FQ al s.ts.length cl,I0 s.dn,I0 s.tr.z,FQ an s.tr.ns.length cn,FQ ai s.tr.ss.length ci,FQ aw s.ws.length cw] 64)) w1.heap.size s:=by
 have hl:=hr.lt;have hal:=G7 w1 (FT #[.bool s.up,FQ ad nd cd,I0 s.id,I0 s.ep,FQ al s.ts.length cl,I0 s.dn,I0 s.tr.z,FQ an s.tr.ns.length cn,FQ ai s.tr.ss.length ci,FQ aw s.ws.length cw] 64);refine⟨ad,nd,cd,al,cl,an,cn,ai,ci,aw,cw,G8 (G8 hW hb) hal,(hr.next hb).next hal,IK.new w1 s.up s.id s.ep s.dn s.tr.z _ _ _ _ _,by have:=hb.size;omega,VJ.1 (od.next hal).seq,(ol.next hal).lower (by omega),(on.next hal).lower (by omega),(oi.next hal).lower (by omega),(ow.next hal).lower (by omega),fun k hk=>⟨?_,?_,?_,?_⟩,VO on (A8 _),VO oi (A8 _),VO ow (A8 _)⟩
 .rintro rfl;exact VO ol (A8 _) hk
 .intro e;have:=QU on e;have:=hl2 k hk;omega
 .intro e;have:=QU oi e;have:=hl2 k hk;omega
 .intro e;have:=QU ow e;have:=hl2 k hk;omega
theorem lI(h:IK W k up0 vd0 id0 ep0 vl0 dn0 z0 vn0 vs0 vw0)(up:Bool)(id ep dn z:Int)(vd vl vn vs vw:FV):
  IK (PL W k (.bool up) vd (I0 id) (I0 ep) vl (I0 dn) (I0 z) vn vs vw) k up vd id ep vl dn z vn vs vw:=by
 unfold IK at*;unfold PL;rw[GL _ (GL _ (GL _ (GL _ (GL _ (GL _ (GL _ (GL _ (GL _ (GL _ h)))))))))];simp
theorem B63{q:Nat}(h:IK W k up0 vd0 id0 ep0 vl0 dn0 z0 vn0 vs0 vw0)(hk:k≠q)(x0 x1 x2 x3 x4 x5 x6 x7 x8 x9:FV):IK (PL W q x0 x1 x2 x3 x4 x5 x6 x7 x8 x9) k up0 vd0 id0 ep0 vl0 dn0 z0 vn0 vs0 vw0:=by
 unfold PL;exact(IK.other (IK.other (IK.other (IK.other (IK.other (IK.other (IK.other (IK.other (IK.other (IK.other h hk) hk) hk) hk) hk) hk) hk) hk) hk) hk)
theorem IK.touch{F:Nat->Prop}(h:IK W k up vd id ep vl dn z vn vs vw)(ht:Touch F W V)(hk:¬F k):IK V k up vd id ep vl dn z vn vs vw:=(ht.block k h.lt hk).trans h
theorem C82{w W V:FU}{q:Nat}{s:Sv}{d1:List DF}{tn:List GI}{ad al an ai aw a a2:Option Addr}{nd cd cl cn ci cw n c c2:Nat}(hb:B0 w W)(hr:IK W (w.heap.size+1) false (N0) 0 0 (N0) 0 0 (N0) (N0) (N0))
  (ha:IK W q s.up (FQ ad nd cd) s.id s.ep (FQ al s.ts.length cl) s.dn s.tr.z (FQ an s.tr.ns.length cn) (FQ ai s.tr.ss.length ci) (FQ aw s.ws.length cw)) (hq:w.heap.size+2<=q)
  (ol:GZ W (w.heap.size+2) (FQ al s.ts.length cl) s.ts) (on:GZ W (w.heap.size+2) (FQ an s.tr.ns.length cn) s.tr.ns) (oi:GZ W (w.heap.size+2) (FQ ai s.tr.ss.length ci) s.tr.ss) (ow:GZ W (w.heap.size+2) (FQ aw s.ws.length cw) s.ws)
  (sep:∀k,(Value.slice al s.ts.length cl).ownBlock=FZ k->k≠q/\(Value.slice an s.tr.ns.length cn).ownBlock≠FZ k/\(Value.slice ai s.tr.ss.length ci).ownBlock≠FZ k/\(Value.slice aw s.ws.length cw).ownBlock≠FZ k)
  (n1:(Value.slice an s.tr.ns.length cn).ownBlock≠FZ q) (n2:(Value.slice ai s.tr.ss.length ci).ownBlock≠FZ q) (n3:(Value.slice aw s.ws.length cw).ownBlock≠FZ q)
  (ht:Touch (fun k=>(Value.slice al s.ts.length cl).ownBlock=FZ k) W V) (D:IQ V (FQ a n c) d1) (L:GZ V (w.heap.size+2) (FQ a2 tn.length c2) tn) (hl:(Value.slice a2 tn.length c2).ownBlock=(Value.slice al s.ts.length cl).ownBlock\/∃k,(Value.slice a2 tn.length c2).ownBlock=FZ k/\W.heap.size<=k):
  IK V q s.up (FQ ad nd cd) s.id s.ep (FQ al s.ts.length cl) s.dn s.tr.z (FQ an s.tr.ns.length cn) (FQ ai s.tr.ss.length ci) (FQ aw s.ws.length cw)/\
  LF w (PL V q (.bool s.up) (FQ a n c) (I0 s.id) (I0 s.ep) (FQ a2 tn.length c2) (I0 s.dn) (I0 s.tr.z) (FQ an s.tr.ns.length cn) (FQ ai s.tr.ss.length ci) (FQ aw s.ws.length cw)) q ⟨s.up,d1,s.id,s.ep,tn,s.dn,s.tr,s.ws⟩:=by
 have ha':=ha.touch ht (fun e=>(sep q e).1 rfl);have hr':=hr.touch ht (fun e=>by have:=QU ol e;omega);have hqW:=ha.lt;have hb':=hb.trans (ht.below (B:=w.heap.size) hb.size (fun k hk=>by have:=QU ol hk;omega));have CV9:=KU on ht (fun k hk hf=>(sep k hf).2.1 hk);have CW0:=KU oi ht (fun k hk hf=>(sep k hf).2.2.1 hk);have keepW:=KU ow ht (fun k hk hf=>(sep k hf).2.2.2 hk);have lq:(Value.slice a2 tn.length c2).ownBlock≠FZ q:=by
  intro e;rcases hl with h|⟨k,h,hk⟩
  .rw[h]at e;exact(sep q e).1 rfl
  .rw[h]at e;simp only[BD]at e;omega
 refine⟨ha',a,n,c,a2,c2,an,cn,ai,ci,aw,cw,JU hb' (by omega) _ _ _ _ _ _ _ _ _ _,B63 hr' (by omega) _ _ _ _ _ _ _ _ _ _,lI ha' _ _ _ _ _ _ _ _ _ _,hq,pI ha'.gW D,XV L lq _ _ _ _ _ _ _ _ _ _,XV CV9 n1 _ _ _ _ _ _ _ _ _ _,XV CW0 n2 _ _ _ _ _ _ _ _ _ _,XV keepW n3 _ _ _ _ _ _ _ _ _ _,fun k hk=>?_,n1,n2,n3⟩;simp only at hk⊢;rcases hl with h|⟨k',h,hk'⟩
 .rw[h]at hk;exact sep k hk
 .rw[h]at hk;simp only[BD]at hk;subst hk;exact⟨by omega,VO on hk',VO oi hk',VO ow hk'⟩
theorem B64(s:Sv)(v:FV)(vl:FV)(l:List GI)(epo:Int)(w:FU)(hv:SvV w v s)(hvl:NV w vl l)(hf:BY2 s)(hll:l.length<=1000000000)(ht:ZV w)(hk:¬ (KY s.ts l:Int)<s.dn)(z:Int)(d2 d3:List DF)(hz:CV7 l (KY s.ts l) z)(G:NH 108 (fun g=>#[g,I0 z]) s.fs d2 0)(R:lC 109 (fun g=>#[g,I0 epo]) d2 d3 0)(gd:LW d3)(st:Nat->Sv)(h0:st 0=⟨s.up,d3,s.id,epo,s.ts.take (KY s.ts l),s.dn,s.tr,s.ws⟩)(HT:∀i x,(l.drop (KY s.ts l))[i]?=FZ x->CM2 (st i) x (st (i+1))):
  FW prog 73 #[v,vl,I0 epo] w (fA w (st (l.drop (KY s.ts l)).length) 0):=by
 obtain⟨ad,nd,cd,al,cl,an,cn,ai,ci,aw,cw,rfl,d1,l1,n1,s1,k1⟩:=hv.five;have CC:=G6 (fun W (hW:B0 w W)=>oV _ vl s.ts l W (l1.next hW) (hvl.next hW) (by have:=hf.l;omega) (by omega));have HG:=G6 (fun W (hW:B0 w W)=>G _ W (d1.next hW));have HLR:=G6 (fun(j:Nat) (x:GI) (hx:l[j]?=FZ x) W (hW:B0 w W)=>ZO (hvl.next hW) hx);obtain⟨lb,lc,rfl⟩:=MF hvl;have HR:=G6 R;have HTK:=G6 HT;have HLV:=G6 (fun W (hW:B0 w W)=>hvl.next hW);have HS0:=G6 (C9 (fun W (hW:B0 w W)=>l1.next hW) (C9 (fun W (hW:B0 w W)=>n1.next hW) (C9 (fun W (hW:B0 w W)=>s1.next hW) (fun W (hW:B0 w W)=>k1.next hW))));have HFit:=G6 (A54 hf gd epo (KY s.ts l));have HTab:=G6 (fun W (hW:B0 w W)=>ht.next hW);clear hv d1 l1 n1 s1 k1 hvl hf G R ht HT gd;obtain⟨up,fs,id,ep,ts,dn,⟨tz,tns,tss⟩,ws⟩:=s;simp only at*;go_enter func73,ntmps73;go_wp2_with fail;have X0:=G6 (CB.start w up id ep dn tz (FQ ad nd cd) (FQ al ts.length cl) (FQ an tns.length cn) (FQ ai tss.length ci) (FQ aw ws.length cw));generalize (w.alloc (FT #[.bool up,FQ ad nd cd,I0 id,I0 ep,FQ al ts.length cl,I0 dn,I0 tz,FQ an tns.length cn,FQ ai tss.length ci,FQ aw ws.length cw] 64)).alloc (FT #[.bool false,N0,I0 0,I0 0,N0,I0 0,I0 0,N0,N0,N0] 64)=W0 at*;refine(G5 CC _ (G5 X0).below).mono ?_;rintro e w1 ⟨rfl,hb1⟩;have X1:=G6 ((G5 X0).next hb1);have x5:=(G5 X1).s.cells.2.2.2.2.2.1;clear hb1 X0 CC;have x1:=(G5 X1).s.cells.2.1;have hkl:=(XP ts l).2;have hkt:=(XP ts l).1;generalize KY ts l=k at*;have hnk:¬ ((k:Int)<dn):=by omega
 go_upto_if 27 with fail
 go_cut [9]from 15 (fun t9 wx=>t9=I0 z/\wx=w1)
 case first=>
  rcases hz with⟨rfl,rfl⟩|⟨x,hk0,hx,rfl⟩
  .go_wp2_with fail
   go_meet
   exact⟨rfl,rfl⟩
  .obtain⟨m,rfl⟩:∃m,k=m+1:=⟨k-1,by omega⟩;simp only[Nat.add_sub_cancel]at hx;obtain⟨b,o,c,he,hb,q,hm1,_⟩:=G5 HLR m x hx w1 (G5 X1).below;simp only[AP]at he;obtain⟨rfl,_,rfl⟩:=he;have e0:=q.z hx;generalize x.z=z at*;have i1:(m:Int)<(l.length:Int):=by omega
   have i2:(0:Int)<((m+1:Nat):Int):=by omega
   have i3:IntKind.i64.wrap (((m+1:Nat):Int)-1)=(m:Int):=by rw[IntKind.wrap_i64];omega
   have i4:(((m+1:Nat):Int)-1)=(m:Int):=by omega
   clear q hx;go_wp2_with fail
   go_meet
   exact⟨rfl,rfl⟩
 case rest=>
  obtain⟨rfl,rfl⟩:=hcut;clear HLR;go_wp2_with fail;refine(G5 HG _ (G5 X1).below).mono ?_;rintro e w2 ⟨a2,n2,c2,rfl,D2,hb2⟩;have hal:=G7 w2 (FT #[FQ a2 n2 c2] 54);have X2:=G6 (((G5 X1).next hb2).next hal);have A2:=G6 (KH.new w2 (FQ a2 n2 c2));have F2:=G6 ((G5 D2).next hal);have Q2:=G6 (show w.heap.size+2<=w2.heap.size from((G5 X1).next hb2).lt);clear hb2 hal X1 D2 HG x1 x5;have ca:=(G5 A2).c;have fa:=(G5 A2).f;go_wp2_with fail;generalize w2.heap.size=q2 at*;generalize w2.alloc (FT #[FQ a2 n2 c2] 54)=W2 at*;refine(G5 HR _ _ (G5 HTab _ (G5 X2).below) (G5 F2)).mono ?_;rintro e w3 ⟨a3,n3,c3,rfl,D3,hb3⟩;have X3:=(G5 X2).next hb3;have A3:=(G5 A2).next hb3;have ca3:=A3.c;have fa3:=A3.f;have Y3:=X3.dput q2 (FQ a3 n3 c3) (by have:=G5 Q2;omega);have E3:=QL (G5 D3) A3 (FQ a3 n3 c3);have B3:=A3.set (FQ a3 n3 c3);have HX3:=G6 Y3;have HD3:=G6 E3;have HA3:=G6 B3;clear hb3 X2 A2 F2 D3 X3 A3 Y3 E3 B3 HR ca fa;go_upto_region 13 with fail;generalize w3.setCell ⟨q2,0,FX⟩ (FQ a3 n3 c3)=W3 at*;clear ca3 fa3;have hcap:ts.length<=cl:=C81 (G5 HS0).1;have ca5:=(G5 HA3).c;have x4:=(G5 HX3).s.cells.2.2.2.2.1;have x1:=(G5 HX3).s.cells.2.1;have x3:=(G5 HX3).s.cells.2.2.2.1;have xf1:=(G5 HX3).s.GN 1;have xf3:=(G5 HX3).s.GN 3;have xf4:=(G5 HX3).s.GN 4;have hnq:q2≠w.heap.size:=by have:=G5 Q2;omega
  have k0:(0:Int)<=(k:Int):=by omega
  have kk1:(k:Int)<=(cl:Int):=by omega
  have k2:k<=cl:=by omega
  have RF4:=G6 (BP1 (s:=⟨up,d3,id,epo,ts.take k,dn,⟨tz,tns,tss⟩,ws⟩) (G5 HX3) (G5 HD3) (G5 HS0) hkt)
  go_cut [14]from 16 (fun _ wx=>Hid (SF0 w wx ⟨up,d3,id,epo,ts.take k,dn,⟨tz,tns,tss⟩,ws⟩ al cl an cn ai ci aw cw))
  case first=>
   go_region
   all_goals go_wp2_with fail
   all_goals go_meet
   all_goals exact G6 ((G5 RF4).next (AA _ _).drew)
  case rest=>
   have HRF:=hcut;clear hcut RF4 ca5 x4 x1 x3 xf1 xf3 xf4 HX3 HD3 HA3;generalize ts.take k=tk at*;obtain⟨ad4,nd4,cd4,CB4,SV4⟩:=G5 HRF;simp only at CB4 SV4;obtain⟨x0,x1,x2,x3,x4,x5,x6,x7,x8,x9⟩:=CB4.s.cells;have CPY:=G6 (ZQ (⟨up,d3,id,epo,tk,dn,⟨tz,tns,tss⟩,ws⟩:Sv) _ wc SV4 (G5 HFit));have HBR:=G6 (C9 CB4.below CB4.r);clear SV4 CB4 HRF HFit HS0;go_wp2_with fail;refine(G5 CPY).mono ?_;rintro e w5 ⟨bd,md,fd,bl,fl,bn,fn,bi,fi,bw,fw,B1,B2,rfl,h1,h2,od,hd1,ol,hl2,on,oi,ow,hb5⟩;simp only at od ol hl2 on oi ow;have LF5:=G6 (BP2 (s:=(⟨up,d3,id,epo,tk,dn,⟨tz,tns,tss⟩,ws⟩:Sv)) (G5 HBR).1 (G5 HBR).2 h1 h2 od ol hl2 on oi ow hb5);simp only at LF5;clear h1 h2 od hd1 ol hl2 on oi ow hb5 HBR CPY x0 x1 x2 x3 x4 x5 x6 x7 x8 x9;go_upto_region 15 with fail;generalize w5.heap.size=q5 at*;generalize w5.alloc (FT #[.bool up,FQ bd md fd,I0 id,I0 epo,FQ bl tk.length fl,I0 dn,I0 tz,FQ bn tns.length fn,FQ bi tss.length fi,FQ bw ws.length fw] 64)=W5 at*
   go_cut [71,72,73]from 15 (fun t71 t72 t73 wx=>∃la lcc,t71=FQ la (l.length-k) lcc/\t72=I0 ((l.length-k:Nat):Int)/\t73=I0 0/\wx=W5/\Hid (∀W,B0 w W->NV W (FQ la (l.length-k) lcc) (l.drop k)))
   case first=>
    by_cases hlc:lc=k
    .subst hlc;go_wp2_with fail
     all_goals go_meet
     all_goals exact⟨_,_,rfl,rfl,rfl,rfl,G6 fun W hW=>((G5 HLV W hW).drop hkl).1 rfl⟩
    .go_wp2_with fail
     all_goals go_meet
     all_goals exact⟨_,_,rfl,rfl,rfl,rfl,G6 fun W hW=>((G5 HLV W hW).drop hkl).2 hlc⟩
   case rest=>
    obtain⟨la,lcc,rfl,rfl,rfl,rfl,HLD⟩:=hcut;clear HLV hcap hnq k0 kk1 k2 hkt;go_wp2_with fail
    go_loopg [73] (l.length-k) (fun kx s73 wr=>∃i:Nat,s73=I0 i/\i<=l.length-k/\l.length-k-i<=kx/\Hid (LF w wr q5 (st i)))
    case atStart=>exact⟨0,rfl,AY _,by omega,G6 (by rw[h0];exact G5 LF5)⟩
    case round=>
     obtain⟨i,rfl,hi,hgi,hR⟩:=hrel;by_cases hlt:i<l.length-k
     .clear h0 LF5;obtain⟨x,hx⟩:∃x,(l.drop k)[i]?=FZ x:=⟨_,AL (by simp;omega)⟩;obtain⟨gad,gnd,gcd,gal,gcl,gan,gcn,gai,gci,gaw,gcw,hbw,hr,ha,hq,hd,ol,on,oi,ow,sep,n1,n2,n3⟩:=G5 hR;obtain⟨b,o,c,he,hb,q,hq9⟩:=ZO (G5 HLD wr hbw) hx;simp only[AP]at he;obtain⟨rfl,he2,rfl⟩:=he;clear he2 hq9;have e0:=q.z hx;have e1:=q.o hx;have e2:=q.s hx;have e3:=q.p hx;have e4:=q.d hx;have e5:=q.v hx;have e6:=q.w hx;obtain⟨tz',tp',td',tn',d1,hst,G⟩:=G5 HTK i x hx;obtain⟨xz,xo,xs,xp,xd,xv,xw⟩:=x;have hal:=G7 wr (FT #[I0 xz,I0 xo,I0 xs,S0 xp,S0 xd,I0 xv,I0 xw] 93);have CT:=G6 (CL8 (st i).up (st i).id (st i).ep (st i).dn (st i).tr.z (st i).fs (st i).ts (⟨xz,xo,xs,xp,xd,xv,xw⟩:GI) true (FQ gad gnd gcd) (FQ gal (st i).ts.length gcl) gan gai gaw (st i).tr.ns.length gcn (st i).tr.ss.length gci (st i).ws.length gcw _ (hd.next hal) (PK.1 (ol.next hal).seq) tz' d1 (w.heap.size+2) (by have:=ha.lt;have:=hal.size;omega) (ol.next hal) tn' tp' td' G);unfold J8 at CT;simp only at e0 e1 e2 e3 e4 e5 e6 CT;have LS:=G6 (fun V a n c a2 c2 (tn:List GI) (T:Touch _ _ V) (D:IQ V (FQ a n c) d1) (L:GZ V (w.heap.size+2) (FQ a2 tn.length c2) tn) hl=>C82 (s:=(st i)) (G8 hbw hal) (hr.next hal) (ha.next hal) hq (ol.next hal) (on.next hal) (oi.next hal) (ow.next hal) sep n1 n2 n3 T D L hl);obtain⟨x0,x1,x2,x3,x4,x5,x6,x7,x8,x9⟩:=(ha.next hal).cells;have CF8:(i:Int)<((l.length-k:Nat):Int):=by omega
      clear q hx hal hbw hr ha hd ol on oi ow sep n1 n2 n3 hR tz' tp' td' tn' G;go_wp2_with fail;generalize wr.alloc (FT #[I0 xz,I0 xo,I0 xs,S0 xp,S0 xd,I0 xv,I0 xw] 93)=W6 at*;refine(G5 CT).mono ?_;rintro e w7 ⟨a7,n7,c7,b7,f7,rfl,D7,L7,hl7,T7⟩;obtain⟨HA7,LF7⟩:=G5 LS w7 a7 n7 c7 b7 f7 ((st i).ts++[(⟨xz,xo,xs,xp,xd,xv,xw⟩:GI)]) T7 D7 L7 hl7;rw[<-hst]at LF7;generalize (st i).ts++[(⟨xz,xo,xs,xp,xd,xv,xw⟩:GI)]=tn at*;have HLF7:=G6 LF7;clear x0 x1 x2 x3 x4 x5 x6 x7 x8 x9;obtain⟨x0,x1,x2,x3,x4,x5,x6,x7,x8,x9⟩:=HA7.cells;have xf0:=HA7.GN 0;have xf1:=HA7.GN 1;have xf2:=HA7.GN 2;have xf3:=HA7.GN 3;have xf4:=HA7.GN 4;have xf5:=HA7.GN 5;have xf6:=HA7.GN 6;have xf7:=HA7.GN 7;have xf8:=HA7.GN 8;have xf9:=HA7.GN 9;clear LF7 D7 L7 hl7 T7 HA7 LS CT hst e0 e1 e2 e3 e4 e5 e6;unfold PL at HLF7;go_wp2_with fail
      go_roundg (l.length-k-(i+1))
      case measure=>omega
      case rel=>exact⟨i+1,rfl,by omega,A8 _,HLF7⟩
     .obtain rfl:i=l.length-k:=by omega
      obtain⟨gad,gnd,gcd,gal,gcl,gan,gcn,gai,gci,gaw,gcw,hbw,hr,ha,hq,hd,ol,on,oi,ow,sep,n1,n2,n3⟩:=G5 hR;obtain⟨x0,x1,x2,x3,x4,x5,x6,x7,x8,x9⟩:=ha.cells;obtain⟨r0,r1,r2,r3,r4,r5,r6,r7,r8,r9⟩:=hr.cells;have rf0:=hr.GN 0;have rf1:=hr.GN 1;have rf2:=hr.GN 2;have rf3:=hr.GN 3;have rf4:=hr.GN 4;have rf5:=hr.GN 5;have rf6:=hr.GN 6;have rf7:=hr.GN 7;have rf8:=hr.GN 8;have rf9:=hr.GN 9;have PN:=G6 (bJ (s:=st (l.length-k)) hr.gW hd (PK.1 ol.seq) on.seq oi.seq (YS oi (by omega)) ow.seq);have HB9:=G6 hbw;have FR9:=G6 (MH oi);have hdl:(l.drop k).length=l.length-k:=by simp
      clear hbw hr ha hd ol on oi ow sep n1 n2 n3 hR;go_wp2_with fail;refine bodyPost_ret (v:=.tuple #[.agg #[.bool (st (l.length-k)).up,FQ gad gnd gcd,I0 (st (l.length-k)).id,I0 (st (l.length-k)).ep,FQ gal (st (l.length-k)).ts.length gcl,I0 (st (l.length-k)).dn,I0 (st (l.length-k)).tr.z,FQ gan (st (l.length-k)).tr.ns.length gcn,FQ gai (st (l.length-k)).tr.ss.length gci,FQ gaw (st (l.length-k)).ws.length gcw],I0 0]) (by simp[results,results73,go_sem,r0,r1,r2,r3,r4,r5,r6,r7,r8,r9]) rfl ?_;rw[hdl];exact⟨gad,gnd,gcd,gal,_,gcl,gan,_,gcn,gai,_,gci,gaw,_,gcw,rfl,G6 ⟨G5 PN,(G5 FR9).lower (by omega)⟩,JU (G5 HB9) (by omega) _ _ _ _ _ _ _ _ _ _⟩
def YZ(e:Int):DF:=⟨JG,QT (L6 e 0),[]⟩
theorem BZ1:bl JG NW=true:=by decide
theorem fC(s t:List UInt8):Gap [⟨NW,s,t⟩] [] [⟨NW,s,t⟩] JG:=⟨rfl,by simp,by simp[BZ1]⟩
theorem bY(a b s t:List UInt8):There [⟨JG,a,b⟩,⟨NW,s,t⟩] [] ⟨JG,a,b⟩ [⟨NW,s,t⟩] JG:=(fC s t).ins (f':=⟨JG,a,b⟩) rfl
theorem lJ(a b s t:List UInt8):There [⟨JG,a,b⟩,⟨NW,s,t⟩] [⟨JG,a,b⟩] ⟨NW,s,t⟩ [] NW:=⟨rfl,rfl,by simp[BZ1],by simp⟩
theorem TP{a b s t:List UInt8}(h1:a.length+b.length<=1048576)(h2:s.length+t.length<=1048576):LW [⟨JG,a,b⟩,⟨NW,s,t⟩]:=
 rG (bU h2) (fC s t) ZN (by simp) (f':=⟨JG,a,b⟩) rfl h1
theorem C83{m:List GI}{e:Int}(he:zIn e=true)(hm:(IC m).length<=1048576):lC 109 (fun x=>#[x,I0 e]) [P6 m] [YZ e,P6 m] 0:=by
 have hx:=aX (L6 e 0);have g0:LW [P6 m]:=bU (by simpa using hm);have g1:LW [⟨JG,[],QT (L6 e 0)⟩,P6 m]:=TP (by simp;omega) (by simpa using hm);refine A50 [P6 m] [] [⟨JG,[],QT (L6 e 0)⟩,P6 m] [YZ e,P6 m] e 7 0 (U4 he (by decide)).2 (by decide) (wK fun v W hv=>?_) (MV fun v W hv=>?_) (MV fun v W hv=>?_)
 .exact AZ6 v [P6 m] JG 7 W hv (JQ g0) (.inr ⟨g0,⟨_,_,fC (IC m) []⟩,rfl⟩)
 .exact bG v [P6 m] [] [P6 m] JG (QT (L6 e 0)) W hv (JQ g0) g0 ZN (by simp) (fC (IC m) []) (by omega)
 .have:=YQ v _ [] [P6 m] ⟨JG,[],QT (L6 e 0)⟩ JG W hv (JQ g1) g1 (bY [] (QT (L6 e 0)) (IC m) []);simpa [YZ]using this
theorem C84(h:Logs ts){j:Nat}(hx:ts[j]?=FZ x):TJ x.z ts=ts.take (j+1):=by
 obtain⟨hj,hxe⟩:=AU.1 hx;have hr:=List.pairwise_iff_getElem.1 h.rise;unfold TJ;have p1:∀t∈ts.take (j+1),decide (t.z<=x.z)=true:=by
  intro t ht;obtain⟨i,hi,rfl⟩:=List.getElem_of_mem ht;have hi':i<j+1:=by simp at hi;omega
  simp only[List.getElem_take,decide_eq_true_eq];rw[<-hxe];by_cases e:i=j
  .subst e;exact Int.le_refl _
  .have:=hr i j (by omega) hj (by omega);omega
 have e0:=List.takeWhile_append_of_pos (l₂:=ts.drop (j+1)) p1;rw[DN]at e0;rw[e0]
 cases hd:ts.drop (j+1)with
 |nil=>simp
 |cons y r=>
  have hy:ts[j+1]?=FZ y:=by
   have:=congrArg (fun l=>l[0]?) hd;simpa using this
  obtain⟨hk,rfl⟩:=AU.1 hy;have:=hr j (j+1) hj hk (by omega);rw[hxe]at this;rw[List.takeWhile_cons_of_neg (by simp;omega),DL]
theorem BP4{d:List GI}(h:d[i]?=FZ x):d=d.take i++x::d.drop (i+1):=by
 obtain⟨hk,rfl⟩:=AU.1 h;simp
theorem lX{α:Type}[Lay α]{w:FU}{ops:Array Oper}{rest:List Oper}{o:Oper}{a:Act}{Q:Exit->Act->FU->Prop}(hgd:o.guard=FX)(s x:Operand)(T:TypeId)
  (ho:o.op=.call {callee:=.builtin .append,args:=#[s,x],argTypes:=#[T,T]})
  (i0:TypeInfo) (z:FV) (bytes:Nat) (hU:prog.underlying T=FZ (.slice (Lay.ty α))) (hi0:prog.info? (Lay.ty α)=FZ i0) (hz0:i0.zero=FZ z) (hz1:i0.size=Lay.k α) (hz2:i0.bytes=bytes) (hzs:z.cells.size=Lay.k α) (hk0:0<Lay.k α)
  (v:FV) (ns:List α) (hs:a.eval s=v) (B:Nat) (hown:GZ w B v ns) (q:Nat) (hx:a.eval x=FQ (FZ ⟨q,0,FX⟩) 1 1) (t:α) (hnews:JF w q t) (hl:(ns.length+1)*bytes<=140737488355328) (hm:ns.length+1<=maxLen) (hB:B<=w.heap.size)
  (h:∀a' c' w',GZ w' B (FQ a' (ns.length+1) c') (ns++[t])->w.grownBy w' v.ownBlock->wpList prog ops Q rest (a.put o.dst (FQ a' (ns.length+1) c')) w'):
  wpList prog ops Q (o::rest) a w:=by
 refine wpList_plain hgd fun K hK=>?_;obtain⟨v',w',hr,h2,h3,_⟩:=run_append_own (P:=prog) w B T o.type (Lay.ty α) i0 z (Lay.k α) bytes hU hi0 hz0 hz1 hz2 hzs hk0 v ns.length (G9 ns) hown.row ⟨q,0,FX⟩ 1 1 (Lay.cs t) (by rw[Lay.len,Nat.one_mul]) (RS hnews) (Lay.one t) hm hl hB;have h2':GZ w' B v' (ns++[t]):=GZ.LD (by rw[AO,JE];exact h2);obtain⟨a',c',rfl,_⟩:=h2'.slice;rw[AO,List.length_singleton]at h2' hr;unfold Oper.wp execOp;simp only[ho,resolve,invoke,builtin,Sem.run_bind,Sem.run_pure,Result.andThen_ok,List.map_toArray,List.map_cons,List.map_nil,hs,hx,hr];exact hK _ _ (h a' c' w' h2' h3)
