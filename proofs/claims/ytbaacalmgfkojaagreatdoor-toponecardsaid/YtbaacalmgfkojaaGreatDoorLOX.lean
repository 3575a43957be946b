/-
  Part.
-/
import Derived.Test.YtbaacalmgfkojaaGreatDoorLOS
import Derived.Test.YtbaacalmgfkojaaGreatDoorLOW
import Derived.Test.YtbaacalmgfkojaaGreatDoorLOR
set_option maxRecDepth 20000
set_option maxHeartbeats 8000000
namespace Go.Proofs.YtbaacalmgfkojaaGreatDoor
open Go.RowKit Go.Proofs.Tryz
open _root_.Nat renaming le_refl->A8,zero_le->AY
open Go.RowKit.Below renaming refl->AA,heap_setCell->BF
open _root_.Array renaming getElem?_eq_some_iff->AB
open _root_.List renaming getElem?_eq_getElem->AL,length_append->AO,mem_cons->BO,take_append_drop->DN,mem_filter->EH
open Go.Value.slice renaming injEq->AP
open Go.World renaming cell?->AV,frozen?->F7
open _root_.Option.some renaming injEq->BD
open Go.Value renaming ownBlock->D8,slice->FQ
open Go.Obj renaming cells->FT
open Go renaming World->FU,Value->FV,Calls->FW
open _root_.Option renaming none->FX,some->FZ
variable{α:Type}{W w V:FU}{B k c ka kn kr i:Nat}{v vd vl vn vs vw vN:FV}{up:Bool}{id ep dn z E:Int}{s:Sv}{N:List Nt}{x:GI}{xs:List GI}{e:Ending}{a:Option Addr}
noncomputable def WO(s:Sv)(x:GI):List Wa:=if x.o=2 then kX (L6 s.ws (Y9 s.tr x)) x.s else L6 s.ws (Y9 s.tr x)
noncomputable def dS(s:Sv)(x:GI):Sv:=⟨s.up,s.fs,s.id,s.ep,s.ts,s.dn,iH s.tr x,WO s x⟩
theorem WQ[Lay α]{xs:List α}{c:Array FV}{T:TypeId}{fz:Nat×Nat}(h:GZ W B v xs)(hk:W.heap[k]?=FZ (FT c T fz))(hne:T≠Lay.ty α):v.ownBlock≠FZ k:=by
 intro e;rcases h with⟨rfl,_⟩|⟨g,cap,rfl,_,rest,h1,_⟩
 .simp[D8]at e
 .simp only[D8,BD]at e;subst e;rw[h1]at hk;simp at hk;exact hne hk.2.1.symm
theorem AZ3{β:Type}[Lay α][Lay β]{C:Nat}{u:FV}{xs:List α}{ys:List β}(h:GZ W B u xs)(k:GZ W C v ys)(hne:Lay.ty α≠Lay.ty β):∀q,u.ownBlock=FZ q->FZ q≠v.ownBlock:=by
 intro q hq e;rcases h with⟨rfl,rfl⟩|⟨g,cap,rfl,_,rest,h1,_⟩
 .simp[D8]at hq
 .rcases k with⟨rfl,rfl⟩|⟨g',cap',rfl,_,rest',h1',_⟩
  .simp[D8]at e
  .simp only[D8,BD]at hq e;subst hq e;rw[h1]at h1';simp at h1';exact hne h1'.2
theorem aC[Lay α]{xs:List α}(h:GZ W B v xs)(hb:IC W k up vd id ep vl dn z vn vs vw)(hne:49≠Lay.ty α):v.ownBlock≠FZ k:=by
 unfold IC at hb;exact WQ h hb hne
structure CI(w W:FU)(ka kn kr:Nat)(s:Sv)(N:List Nt)(vd vl vn vs vw vN:FV):Prop where
 box:IC W ka s.up vd s.id s.ep vl s.dn s.tr.z vn vs vw
 nb:W.heap[kn]?=FZ (FT #[vN] 34 (0,0))
 d:GZ W w.heap.size vd s.fs
 l:GZ W w.heap.size vl s.ts
 n:GZ W w.heap.size vn s.tr.ns
 i:GZ W w.heap.size vs s.tr.ss
 o:GZ W w.heap.size vw s.ws
 t:GZ W w.heap.size vN N
 below:B0 w W
 ha:w.heap.size<=ka
 hn:w.heap.size<=kn
 ne:ka≠kn
 r:IC W kr false (N0) 0 0 (N0) 0 0 (N0) (N0) (N0)
 r1:kr≠ka
 r2:kr≠kn
 hr:w.heap.size<=kr
theorem CI.next(h:CI w W ka kn kr s N vd vl vn vs vw vN)(hb:B0 W V):CI w V ka kn kr s N vd vl vn vs vw vN:=
 ⟨h.box.next hb,(hb.block kn (AB.1 h.nb).1).trans h.nb,h.d.next hb,h.l.next hb,h.n.next hb,h.i.next hb,h.o.next hb,h.t.next hb,G8 h.below hb,h.ha,h.hn,h.ne,h.r.next hb,h.r1,h.r2,h.hr⟩
theorem PZ[Lay α]{j:Nat}{xs:List α}(h:GZ W B v xs)(hb:IC W k up vd id ep vl dn z vn vs vw)(hne:49≠Lay.ty α)(u:FV):GZ (W.setCell ⟨k,j,FX⟩ u) B v xs:=
 h.other (aC h hb hne) u
theorem CI.tree{vn' vs' vw':FV}{t':Tr}{ws':List Wa}(h:CI w W ka kn kr s N vd vl vn vs vw vN)(hn':GZ W w.heap.size vn' t'.ns)(hs':GZ W w.heap.size vs' t'.ss)(hw':GZ W w.heap.size vw' ws'):
  CI w ((((W.setCell ⟨ka,6,FX⟩ (I0 t'.z)).setCell ⟨ka,7,FX⟩ vn').setCell ⟨ka,8,FX⟩ vs').setCell ⟨ka,9,FX⟩ vw') ka kn kr ⟨s.up,s.fs,s.id,s.ep,s.ts,s.dn,t',ws'⟩ N vd vl vn' vs' vw' vN:=by
 have b1:IC (W.setCell ⟨ka,6,FX⟩ (I0 t'.z)) ka s.up vd s.id s.ep vl s.dn t'.z vn vs vw:=GL (j:=6) _ h.box;have b2:IC ((W.setCell ⟨ka,6,FX⟩ (I0 t'.z)).setCell ⟨ka,7,FX⟩ vn') ka s.up vd s.id s.ep vl s.dn t'.z vn' vs vw:=GL (j:=7) _ b1;have b3:IC (((W.setCell ⟨ka,6,FX⟩ (I0 t'.z)).setCell ⟨ka,7,FX⟩ vn').setCell ⟨ka,8,FX⟩ vs') ka s.up vd s.id s.ep vl s.dn t'.z vn' vs' vw:=GL (j:=8) _ b2;have b4:IC ((((W.setCell ⟨ka,6,FX⟩ (I0 t'.z)).setCell ⟨ka,7,FX⟩ vn').setCell ⟨ka,8,FX⟩ vs').setCell ⟨ka,9,FX⟩ vw') ka s.up vd s.id s.ep vl s.dn t'.z vn' vs' vw':=GL (j:=9) _ b3;have keep:∀ {α:Type} [Lay α] {v:FV} {xs:List α},GZ W w.heap.size v xs->49≠Lay.ty α->GZ ((((W.setCell ⟨ka,6,FX⟩ (I0 t'.z)).setCell ⟨ka,7,FX⟩ vn').setCell ⟨ka,8,FX⟩ vs').setCell ⟨ka,9,FX⟩ vw') w.heap.size v xs:=
  fun h0 hne=>PZ (PZ (PZ (PZ h0 h.box hne _) b1 hne _) b2 hne _) b3 hne _
 refine⟨b4,?_,keep h.d (by decide),keep h.l (by decide),keep hn' (by decide),keep hs' (by decide),keep hw' (by decide),keep h.t (by decide),(((h.below.setCell h.ha _).setCell h.ha _).setCell h.ha _).setCell h.ha _,h.ha,h.hn,h.ne,(((h.r.other h.r1).other h.r1).other h.r1).other h.r1,h.r1,h.r2,h.hr⟩;exact(BF _ _ _ _ (Ne.symm h.ne)).trans ((BF _ _ _ _ (Ne.symm h.ne)).trans ((BF _ _ _ _ (Ne.symm h.ne)).trans ((BF _ _ _ _ (Ne.symm h.ne)).trans h.nb)))
theorem CI.note{N':List Nt}{vN':FV}(h:CI w W ka kn kr s N vd vl vn vs vw vN)(hg:W.grownBy V vN.ownBlock)(ho:GZ V w.heap.size vN' N'):
  CI w (V.setCell ⟨kn,0,FX⟩ vN') ka kn kr s N' vd vl vn vs vw vN':=by
 have na:FZ ka≠vN.ownBlock:=fun e=>aC h.t h.box (by decide) e.symm;have nn:FZ kn≠vN.ownBlock:=fun e=>WQ h.t h.nb (by decide) e.symm;have bV:IC V ka s.up vd s.id s.ep vl s.dn s.tr.z vn vs vw:=(hg.block ka h.box.lt na).trans h.box;have nV:V.heap[kn]?=FZ (FT #[vN] 34 (0,0)):=(hg.block kn (AB.1 h.nb).1 nn).trans h.nb;have keep:∀ {α:Type} [Lay α] {v:FV} {xs:List α},GZ W w.heap.size v xs->Lay.ty α≠254->34≠Lay.ty α->GZ (V.setCell ⟨kn,0,FX⟩ vN') w.heap.size v xs:=fun h0 h1 h2=>by
  have k:=h0.grown hg (AZ3 h0 h.t h1);exact k.other (WQ k nV h2) _
 refine⟨bV.other h.ne,?_,keep h.d (by decide) (by decide),keep h.l (by decide) (by decide),keep h.n (by decide) (by decide),keep h.i (by decide) (by decide),keep h.o (by decide) (by decide),ho.other (WQ ho nV (by decide)) _,(h.below.grown hg h.below.size (fun g e=>?_)).setCell h.hn _,h.ha,h.hn,h.ne,IC.other ((hg.block kr h.r.lt (fun e=>aC h.t h.r (by decide) e.symm)).trans h.r) h.r2,h.r1,h.r2,h.hr⟩
 .rw[GL _ nV];rfl
 .rcases h.t with⟨e1,_⟩|⟨g',cap,e1,hB,_⟩
  .rw[e1]at e;simp[D8]at e
  .rw[e1]at e;simp only[D8,BD]at e;omega
theorem IV[Lay α]{xs:List α}(h:GZ W B v xs):∃a c,v=FQ a xs.length c:=by
 obtain⟨a,c,e,_⟩:=h.slice;exact⟨a,c,e⟩
theorem AZ4(W:FU)(ty:TypeId)(B C:Nat)(v u:FV)(N T:List Nt)(hv:GZ W B v N)(hu:GZ W C u T)(hl:(N.length+T.length)*32<=140737488355328)(hB:B<=W.heap.size):
  ∃v' w',(Builtin.append_ #[34,34] ty #[v,u]).run prog W=.ok v' w'/\GZ w' B v' (N++T)/\W.grownBy w' v.ownBlock:=by
 obtain⟨i0,hi0,hz0,hz1,hz2⟩:=AU1;rcases hu with⟨rfl,rfl⟩|⟨g,cap,rfl,_,hr⟩
 .refine⟨v,W,run_append_owned_none (P:=prog) (w:=W) B 34 ty 254 i0 3 underlying34 hi0 v N.length (G9 N) hv.row,by rw[List.append_nil];exact hv,⟨rfl,rfl,rfl,A8 _,fun _ _ _=>rfl⟩⟩
 .obtain⟨v',w',h1,h2,h3,_⟩:=run_append_own (P:=prog) W B 34 ty 254 i0 _ 3 32 underlying34 hi0 hz0 hz1 hz2 rfl (by decide) v N.length (G9 N) hv.row ⟨g,0,FX⟩ T.length cap (G9 T) (GX T) (fun j x hj=>by rw[Addr.add_lit];exact hr.row j x hj) (JL T) (by simp only[maxLen];omega) hl hB;exact⟨v',w',h1,GZ.KY (by rw[AO,H7];exact h2),h3⟩
theorem dU{w:FU}{ops:Array Oper}{rest:List Oper}{o:Oper}{a:Act}{Q:Exit->Act->FU->Prop}(hgd:o.guard=FX)(s x:Operand)
  (ho:o.op=.call {callee:=.builtin .append,args:=#[s,x],argTypes:=#[34,34]})
  (B C:Nat) (v u:FV) (N T:List Nt) (hs:a.eval s=v) (hx:a.eval x=u) (hv:GZ w B v N) (hu:GZ w C u T) (hl:(N.length+T.length)*32<=140737488355328) (hB:B<=w.heap.size)
  (h:∀a' c' w',GZ w' B (FQ a' (N++T).length c') (N++T)->w.grownBy w' v.ownBlock->wpList prog ops Q rest (a.put o.dst (FQ a' (N++T).length c')) w'):wpList prog ops Q (o::rest) a w:=by
 refine wpList_plain hgd fun K hK=>?_;obtain⟨v',w',hr,h2,h3⟩:=AZ4 w o.type B C v u N T hv hu hl hB;obtain⟨a',c',rfl⟩:=IV h2;unfold Oper.wp execOp;simp only[ho,resolve,invoke,builtin,Sem.run_bind,Sem.run_pure,Result.andThen_ok,List.map_toArray,List.map_cons,List.map_nil,hs,hx,hr];exact hK _ _ (h a' c' w' h2 h3)
theorem mZ{T:List Nt}(h:GZ W B v T)(hb:IC W ka up vd id ep vl dn z vn vs vw)(x6 x7 x8 x9:FV):GZ ((((W.setCell ⟨ka,6,FX⟩ x6).setCell ⟨ka,7,FX⟩ x7).setCell ⟨ka,8,FX⟩ x8).setCell ⟨ka,9,FX⟩ x9) B v T:=by
 have hk:=aC h hb (by decide);exact(((h.other hk x6).other hk x7).other hk x8).other hk x9
structure CFit(s:Sv)(N:List Nt)(x:GI):Prop where
 wf:WfT s.tr
 xd:x.d.length<=140737488355328
 xp:x.p.length<=140737488355328
 sh:kZ s.ws
 wl:s.ws.length*32<=140737488351232
 nl:(N.length+s.ws.length)*32<=140737488351232
def CO4(w W w':FU)(ka kn kr:Nat)(s:Sv)(N:List Nt)(x:GI)(E:Int)(T:Tr)(V:List Ev)(SW:List Wa):Prop:=
 B0 w w'/\(E≠0->B0 W w')/\
 (E=0->∃ad nd cd al cl an cn ai ci aw cw aN cN,CI w w' ka kn kr (dS s x) (N++OO s.ws V) (FQ ad nd cd) (FQ al s.ts.length cl) (FQ an T.ns.length cn) (FQ ai T.ss.length ci) (FQ aw SW.length cw) (FQ aN (N.length+(OO s.ws V).length) cN))
theorem YT{ws:List Wa}(h:kZ ws)(es:List Ev):kZ (L6 ws es):=fun x hx=>h x (AT5 ws es x hx)
theorem AJ6{t:Tr}(hw:WfT t)(hp:x.p.length<=140737488355328):BR4 (Y9 t x):=by
 have hdl:∀p:List UInt8,(IG p).length<=140737488355328:=fun p=>by have:=VZ p;omega
 intro e he;by_cases h:XZ t x=0
 .rw[Y9,if_pos h,oU]at he;by_cases h2:x.o=2
  .rw[if_pos h2]at he;obtain⟨q,hq,he⟩:=List.mem_flatMap.1 he;obtain⟨n,hn,rfl⟩:=List.mem_map.1 hq;have hn':=hw.CD1 n (EH.1 hn).1;simp only[BO,List.not_mem_nil,or_false]at he;rcases he with rfl|rfl
   .exact hn'.1
   .exact hdl _
  .rw[if_neg h2]at he;by_cases h3:x.o=3
   .rw[if_pos h3]at he;simp only[BO,List.not_mem_nil,or_false]at he;rcases he with rfl|rfl
    .exact hp
    .exact hdl _
   .rw[if_neg h3]at he;by_cases h4:x.o=4
    .rw[if_pos h4]at he;simp only[BO,List.not_mem_nil,or_false]at he;rcases he with rfl|rfl
     .exact hp
     .exact hdl _
    .rw[if_neg h4]at he;by_cases h5:x.o=5
     .rw[if_pos h5]at he;simp only[BO,List.not_mem_nil,or_false]at he;subst he;exact hp
     .rw[if_neg h5]at he;simp at he
 .rw[Y9,if_neg h]at he;simp at he
theorem A02(w W:FU)(ka kn kr:Nat)(s:Sv)(N:List Nt)(x:GI)(ad al an ai aw aN:Option Addr)(nd cd cl cn ci cw cN:Nat)
  (h:CI w W ka kn kr s N (FQ ad nd cd) (FQ al s.ts.length cl) (FQ an s.tr.ns.length cn) (FQ ai s.tr.ss.length ci) (FQ aw s.ws.length cw) (FQ aN N.length cN)) (hf:CFit s N x):
  FW prog 131 #[J7 x,P0 ka,P0 kn] W fun e w'=>e=.returned (I0 (XZ s.tr x))/\CO4 w W w' ka kn kr s N x (XZ s.tr x) (iH s.tr x) (Y9 s.tr x) (WO s x):=by
 have h1:=h.next (G7 W (FT #[I0 x.z,I0 x.o,I0 x.s,S0 x.p,S0 x.d,I0 x.v,I0 x.w] 52));have T1:=TAt.new W x;have CA:=G6 (fun vn vs V (h2:IL V vn s.tr.ns) (h3:IL V vs s.tr.ss)=>vH s.tr vn vs x V h2 h3 hf.wf hf.xd);have CFi:=G6 (fun v u V (h2:IL V v s.ws) (h3:IL V u (Y9 s.tr x))=>BH6 v u s.ws (Y9 s.tr x) V h2 h3 hf.sh (AJ6 hf.wf hf.xp) hf.wl (AY7 s.tr x).2.2);have hfl:=fJ (Y9 s.tr x) s.ws;have CD:=G6 (fun v V (h2:IL V v (L6 s.ws (Y9 s.tr x)))=>BH7 v x.s (L6 s.ws (Y9 s.tr x)) V h2 (YT hf.sh _) (by have:=hf.wl;omega));have HNL:Hid ((N.length+(OO s.ws (Y9 s.tr x)).length)*32<=140737488355328):=G6 (by have:=hf.nl;omega);have HSW:Hid ((x.o=2->WO s x=kX (L6 s.ws (Y9 s.tr x)) x.s)/\(x.o≠2->WO s x=L6 s.ws (Y9 s.tr x))):=G6 ⟨fun e=>by simp[WO,e],fun e=>by simp[WO,e]⟩;have HC1:=G6 h1;have HBA:=G6 (G7 W (FT #[I0 x.z,I0 x.o,I0 x.s,S0 x.p,S0 x.d,I0 x.v,I0 x.w] 52));have HT1:=G6 T1;have HSS:Hid (dS s x=⟨s.up,s.fs,s.id,s.ep,s.ts,s.dn,iH s.tr x,WO s x⟩):=G6 rfl;obtain⟨x0,x1,x2,x3,x4,x5,x6,x7,x8,x9⟩:=h1.box.cells;have t0:=T1.c0;have t1:=T1.c1;have t2:=T1.c2;have t3:=T1.c3;have t4:=T1.c4;have t5:=T1.c5;have t6:=T1.c6;unfold aA at CA;clear h h1 T1 hf hfl;obtain⟨z,o,u,p,d,y,v⟩:=x;generalize XZ s.tr ⟨z,o,u,p,d,y,v⟩=E at*;generalize iH s.tr ⟨z,o,u,p,d,y,v⟩=T at*;generalize Y9 s.tr ⟨z,o,u,p,d,y,v⟩=V at*;generalize WO s ⟨z,o,u,p,d,y,v⟩=SW at*;unfold J7 at*;simp only at*;go_enter func131,ntmps131;go_upto_region 1 with fail;generalize W.alloc (FT #[I0 z,I0 o,I0 u,S0 p,S0 d,I0 y,I0 v] 52)=W1 at*;obtain⟨kx,hkx⟩:∃kx,W.heap.size=kx:=⟨_,rfl⟩;rw[hkx];rw[hkx]at t0 t1 t2 t3 t4 t5 t6 HT1;clear hkx;go_wp2_with fail;refine(G5 CA _ _ _ (G5 HC1).n.seq (G5 HC1).i.seq).mono ?_;rintro e w2 ⟨vn2,vs2,ve2,rfl,on2,oi2,oe2,hb2⟩;obtain⟨bn,fn,rfl⟩:=IV on2;obtain⟨bi,fi,rfl⟩:=IV oi2;obtain⟨be,fe,rfl⟩:=IV oe2;have hal:=G7 w2 (FT #[I0 T.z,FQ bn T.ns.length fn,FQ bi T.ss.length fi] 46);have HC2:=G6 (((G5 HC1).next hb2).next hal);have HT2:=G6 (((G5 HT1).next hb2).next hal);have HZ1:=(G5 HC1).below.size;have HBE:=G6 (G8 (G8 (G5 HBA) hb2) hal);have HON:=G6 ((on2.next hal).lower HZ1);have HOI:=G6 ((oi2.next hal).lower HZ1);have HOE:=G6 (oe2.next hal);have HTB:Hid ((w2.alloc (FT #[I0 T.z,FQ bn T.ns.length fn,FQ bi T.ss.length fi] 46)).heap[w2.heap.size]?=FZ (FT #[I0 T.z,FQ bn T.ns.length fn,FQ bi T.ss.length fi] 46 (0,0))):=G6 (heap_alloc_new w2 _);clear on2 oi2 oe2 hb2 hal HZ1 HC1 HT1 CA x0 x1 x2 x3 x4 x5 x6 x7 x8 x9 t0 t1 t2 t3 t4 t5 t6;go_upto_region 2 with fail;generalize w2.heap.size=kt at*;generalize w2.alloc (FT #[I0 T.z,FQ bn T.ns.length fn,FQ bi T.ss.length fi] 46)=W2 at*;by_cases hE:E=0
 .subst hE;obtain⟨x0,x1,x2,x3,x4,x5,x6,x7,x8,x9⟩:=(G5 HC2).box.cells;go_wp2_with fail;refine(G5 CFi _ _ _ (G5 HC2).o.seq (G5 HOE).seq).mono ?_;rintro e w3 ⟨vn3,vl3,rfl,on3,⟨g3,rfl,hg3,or3⟩,hb3⟩;obtain⟨bN,fN,rfl⟩:=IV on3;have HC3:=G6 ((G5 HC2).next hb3);have hz2:=(G5 HC2).below.size;have CM2:=G6 ((G5 HON).next hb3);have CM3:=G6 ((G5 HOI).next hb3);have HT3:=(G5 HT2).next hb3;have CD3:=G6 ((hb3.block kt (AB.1 (G5 HTB)).1).trans (G5 HTB));have CM4:=G6 (on3.lower hz2);have CM5:Hid (GZ w3 w.heap.size (FQ (FZ ⟨g3,0,FX⟩) (L6 s.ws V).length (s.ws.length+1)) (L6 s.ws V)):=G6 (.inr ⟨g3,_,rfl,by omega,or3⟩);have t1:=HT3.c1;have t2:=HT3.c2;simp only at t1 t2;clear on3 hg3 or3 hb3 hz2 HC2 HON HOI HT2 HTB HOE CFi x0 x1 x2 x3 x4 x5 x6 x7 x8 x9 HT3;by_cases ho:o=2
  .have hsw:=(G5 HSW).1 ho;subst hsw;subst ho;go_wp2_with fail;refine(G5 CD _ _ (G5 CM5).seq).mono ?_;rintro e w4 ⟨g4,rfl,hg4,or4,hb4⟩;have hz3:=(G5 HC3).below.size;have HCX:=G6 ((G5 HC3).next hb4);have CD4:=G6 ((G5 CM2).next hb4);have CD5:=G6 ((G5 CM3).next hb4);have BH8:=G6 ((hb4.block kt (AB.1 (G5 CD3)).1).trans (G5 CD3));have CD6:=G6 ((G5 CM4).next hb4);have CD7:Hid (GZ w4 w.heap.size (FQ (FZ ⟨g4,0,FX⟩) (kX (L6 s.ws V) u).length ((L6 s.ws V).length+1)) (kX (L6 s.ws V) u)):=G6 (.inr ⟨g4,_,rfl,by omega,or4⟩);clear hg4 or4 hb4 hz3 HC3 CM2 CM3 CD3 CM4 CM5 CD t1 t2;have HTR:=G6 ((G5 HCX).tree (t':=T) (vn':=FQ bn T.ns.length fn) (vs':=FQ bi T.ss.length fi) (G5 CD4) (G5 CD5) (G5 CD7));obtain⟨x0,x1,x2,x3,x4,x5,x6,x7,x8,x9⟩:=(G5 HCX).box.cells;have xf6:=(G5 HCX).box.GN 6;have xf7:=(G5 HCX).box.GN 7;have xf8:=(G5 HCX).box.GN 8;have xf9:=(G5 HCX).box.GN 9;have k0:w4.cell? ⟨kt,0,FX⟩=FZ (I0 T.z):=by simp[AV,G5 BH8]
   have k1:w4.cell? ⟨kt,1,FX⟩=FZ (FQ bn T.ns.length fn):=by simp[AV,G5 BH8]
   have k2:w4.cell? ⟨kt,2,FX⟩=FZ (FQ bi T.ss.length fi):=by simp[AV,G5 BH8]
   go_upto_region 8 with fail;have CO5:=G6 (mZ (G5 CD6) (G5 HCX).box (I0 T.z) (FQ bn T.ns.length fn) (FQ bi T.ss.length fi) (FQ (FZ ⟨g4,0,FX⟩) (kX (L6 s.ws V) u).length ((L6 s.ws V).length+1)));generalize (((w4.setCell ⟨ka,6,FX⟩ (I0 T.z)).setCell ⟨ka,7,FX⟩ (FQ bn T.ns.length fn)).setCell ⟨ka,8,FX⟩ (FQ bi T.ss.length fi)).setCell ⟨ka,9,FX⟩ (FQ (FZ ⟨g4,0,FX⟩) (kX (L6 s.ws V) u).length ((L6 s.ws V).length+1))=W5 at*;clear x0 x1 x2 x3 x4 x5 x6 x7 x8 x9 xf6 xf7 xf8 xf9 k0 k1 k2 HCX CD4 CD5 CD7 CD6 BH8;have n0:W5.cell? ⟨kn,0,FX⟩=FZ (FQ aN N.length cN):=by simp[AV,(G5 HTR).nb]
   go_wp2_with (at_builtin;refine dU rfl _ _ rfl w.heap.size w.heap.size (FQ aN N.length cN) _ N (OO s.ws V) rfl rfl (G5 HTR).t (G5 CO5) (G5 HNL) (G5 HTR).below.size ?_);intro a6 c6 w6 ho6 hg6;have HFI:=G6 ((G5 HTR).note hg6 ho6);have m0:w6.cell? ⟨kn,0,FX⟩=FZ (FQ aN N.length cN):=hg6.cell n0 (fun e=>WQ (G5 HTR).t (G5 HTR).nb (by decide) e.symm);have mf:w6.frozen? ⟨kn,0,FX⟩=false:=by
    have:=(hg6.block kn (AB.1 (G5 HTR).nb).1 (fun e=>WQ (G5 HTR).t (G5 HTR).nb (by decide) e.symm)).trans (G5 HTR).nb;simp[F7,this]
   clear ho6 hg6 n0;go_wp2_with fail;go_ret;exact⟨rfl,(G5 HFI).below,fun h=>absurd rfl h,fun _=>⟨ad,nd,cd,al,cl,bn,fn,bi,fi,(FZ ⟨g4,0,FX⟩),((L6 s.ws V).length+1),a6,c6,by rw[G5 HSS];exact G5 HFI⟩⟩
  .have hsw:=(G5 HSW).2 ho;subst hsw;have HCX:=HC3;have CD4:=CM2;have CD5:=CM3;have BH8:=CD3;have CD6:=CM4;have CD7:=CM5;clear HC3 CM2 CM3 CD3 CM4 CM5 CD;have HTR:=G6 ((G5 HCX).tree (t':=T) (vn':=FQ bn T.ns.length fn) (vs':=FQ bi T.ss.length fi) (G5 CD4) (G5 CD5) (G5 CD7));obtain⟨x0,x1,x2,x3,x4,x5,x6,x7,x8,x9⟩:=(G5 HCX).box.cells;have xf6:=(G5 HCX).box.GN 6;have xf7:=(G5 HCX).box.GN 7;have xf8:=(G5 HCX).box.GN 8;have xf9:=(G5 HCX).box.GN 9;have k0:w3.cell? ⟨kt,0,FX⟩=FZ (I0 T.z):=by simp[AV,G5 BH8]
   have k1:w3.cell? ⟨kt,1,FX⟩=FZ (FQ bn T.ns.length fn):=by simp[AV,G5 BH8]
   have k2:w3.cell? ⟨kt,2,FX⟩=FZ (FQ bi T.ss.length fi):=by simp[AV,G5 BH8]
   go_upto_region 8 with fail;have CO5:=G6 (mZ (G5 CD6) (G5 HCX).box (I0 T.z) (FQ bn T.ns.length fn) (FQ bi T.ss.length fi) (FQ (FZ ⟨g3,0,FX⟩) (L6 s.ws V).length (s.ws.length+1)));generalize (((w3.setCell ⟨ka,6,FX⟩ (I0 T.z)).setCell ⟨ka,7,FX⟩ (FQ bn T.ns.length fn)).setCell ⟨ka,8,FX⟩ (FQ bi T.ss.length fi)).setCell ⟨ka,9,FX⟩ (FQ (FZ ⟨g3,0,FX⟩) (L6 s.ws V).length (s.ws.length+1))=W5 at*;clear x0 x1 x2 x3 x4 x5 x6 x7 x8 x9 xf6 xf7 xf8 xf9 k0 k1 k2 HCX CD4 CD5 CD7 CD6 BH8;have n0:W5.cell? ⟨kn,0,FX⟩=FZ (FQ aN N.length cN):=by simp[AV,(G5 HTR).nb]
   go_wp2_with (at_builtin;refine dU rfl _ _ rfl w.heap.size w.heap.size (FQ aN N.length cN) _ N (OO s.ws V) rfl rfl (G5 HTR).t (G5 CO5) (G5 HNL) (G5 HTR).below.size ?_);intro a6 c6 w6 ho6 hg6;have HFI:=G6 ((G5 HTR).note hg6 ho6);have m0:w6.cell? ⟨kn,0,FX⟩=FZ (FQ aN N.length cN):=hg6.cell n0 (fun e=>WQ (G5 HTR).t (G5 HTR).nb (by decide) e.symm);have mf:w6.frozen? ⟨kn,0,FX⟩=false:=by
    have:=(hg6.block kn (AB.1 (G5 HTR).nb).1 (fun e=>WQ (G5 HTR).t (G5 HTR).nb (by decide) e.symm)).trans (G5 HTR).nb;simp[F7,this]
   clear ho6 hg6 n0;go_wp2_with fail;go_ret;exact⟨rfl,(G5 HFI).below,fun h=>absurd rfl h,fun _=>⟨ad,nd,cd,al,cl,bn,fn,bi,fi,(FZ ⟨g3,0,FX⟩),(s.ws.length+1),a6,c6,by rw[G5 HSS];exact G5 HFI⟩⟩
 .go_wp2_with fail;go_ret;exact⟨rfl,(G5 HC2).below,fun _=>G5 HBE,fun h=>absurd h hE⟩
noncomputable def stP(p:Sv×List Nt)(x:GI):Sv×List Nt:=(dS p.1 x,p.2++OO p.1.ws (Y9 p.1.tr x))
noncomputable def csP(s:Sv)(xs:List GI)(i:Nat):Sv×List Nt:=(xs.take i).foldl stP (s,[])
theorem qG(s:Sv)(xs:List GI):csP s xs 0=(s,[]):=by simp[csP]
theorem A89(h:xs[i]?=FZ x):csP s xs (i+1)=stP (csP s xs i) x:=by
 unfold csP;rw[PI h,List.foldl_append];rfl
structure Chn(s:Sv)(xs:List GI)(k:Nat):Prop where
 le:k<=xs.length
 ok:∀i x,i<k->xs[i]?=FZ x->XZ (csP s xs i).1.tr x=0
 stop:∀x,xs[k]?=FZ x->XZ (csP s xs k).1.tr x≠0
structure BH9(s:Sv)(xs:List GI):Prop where
 wf:WfT s.tr
 sh:kZ s.ws
 wl:s.ws.length*32<=140737488351232
 xd:∀x∈xs,x.d.length<=140737488355328
 xp:∀x∈xs,x.p.length<=140737488355328
theorem vK(ws:List Wa)(s:Int):(kX ws s).length<=ws.length:=List.length_filter_le _ _
theorem BR8(hB:BH9 s xs)(h:Chn s xs k):∀i,i<=k->
  (WfT (csP s xs i).1.tr/\kZ (csP s xs i).1.ws/\(csP s xs i).2.length+(csP s xs i).1.ws.length<=s.ws.length)/\
  ((csP s xs i).1.up=s.up/\(csP s xs i).1.fs=s.fs/\(csP s xs i).1.id=s.id/\(csP s xs i).1.ep=s.ep/\(csP s xs i).1.ts=s.ts/\(csP s xs i).1.dn=s.dn):=by
 intro i
 induction i with
 |zero=>
  intro _;rw[qG];exact⟨⟨hB.wf,hB.sh,by simp⟩,rfl,rfl,rfl,rfl,rfl,rfl⟩
 |succ i ih=>
  intro hi;obtain⟨⟨a1,a2,a3⟩,b1,b2,b3,b4,b5,b6⟩:=ih (by omega);obtain⟨x,hx⟩:∃x,xs[i]?=FZ x:=⟨_,AL (by have:=h.le;omega)⟩;have h0:=h.ok i x (by omega) hx;rw[A89 hx];generalize csP s xs i=c at*;have hl:=fJ (Y9 c.1.tr x) c.1.ws;refine⟨⟨(ZK h0).1.wf,?_,?_⟩,b1,b2,b3,b4,b5,b6⟩
  .show kZ (WO c.1 x);unfold WO
   split
   .exact fun y hy=>YT a2 _ y (EH.1 hy).1
   .exact YT a2 _
  .show (c.2++OO c.1.ws (Y9 c.1.tr x)).length+(WO c.1 x).length<=s.ws.length;have:(WO c.1 x).length<=(L6 c.1.ws (Y9 c.1.tr x)).length:=by
    unfold WO
    split
    .exact vK _ _
    .exact A8 _
   rw[AO];omega
theorem BZ1(hB:BH9 s xs)(h:Chn s xs k)(hi:i<=k)(hx:xs[i]?=FZ x):CFit (csP s xs i).1 (csP s xs i).2 x:=by
 obtain⟨⟨a1,a2,a3⟩,_⟩:=BR8 hB h i hi;have hm:=List.mem_of_getElem? hx;have:=hB.wl;exact⟨a1,hB.xd x hm,hB.xp x hm,a2,by omega,by omega⟩
def CO8(s:Sv)(t:GI)(safe:Bool)(E:Int)(s':Sv):Prop:=
 (t.z<=IZ s.ts/\E=13/\s'=sv0)\/(¬t.z<=IZ s.ts/\E≠0/\s'=sv0/\∃d1,MX 157 (fun x=>#[x,J7 t,.bool safe]) s.fs d1 E)\/
 (¬t.z<=IZ s.ts/\E=0/\∃d1,s'=⟨s.up,d1,s.id,s.ep,s.ts++[t],s.dn,s.tr,s.ws⟩/\YF 157 (fun x=>#[x,J7 t,.bool safe]) s.fs d1 0)
def CE7(w:FU)(q:Nat)(s:Sv)(E:Int)(e:Ending)(w':FU):Prop:=
 ∃ad nd cd al nl cl an nn cn ai ni ci aw nw cw,e=.returned (.tuple #[.agg #[.bool s.up,FQ ad nd cd,I0 s.id,I0 s.ep,FQ al nl cl,I0 s.dn,I0 s.tr.z,FQ an nn cn,FQ ai ni ci,FQ aw nw cw],I0 E])/\
  Hid (IK w' (FQ ad nd cd) s.fs/\NI w' (FQ al nl cl) s.ts/\IL w' (FQ an nn cn) s.tr.ns/\IL w' (FQ ai ni ci) s.tr.ss/\UJ (FQ ai ni ci) q/\IL w' (FQ aw nw cw) s.ws/\O7 w.heap.size (FQ ai ni ci))/\B0 w w'
theorem nK{w':FU}{q:Nat}(he:e=.returned (.tuple #[svZ,I0 E]))(hb:B0 w w'):CE7 w q sv0 E e w':=
 ⟨FX,0,0,FX,0,0,FX,0,0,FX,0,0,FX,0,0,he,G6 ⟨IK.nil _,NI.nil _,IL.nil _,IL.nil _,uV _ _ _,IL.nil _,U9 _ _ _⟩,hb⟩
theorem MF[Lay α]{xs:List α}(h:GZ W B v xs):O7 B v:=by
 intro b off n c e;rcases h with⟨rfl,_⟩|⟨g,cap,rfl,hB,_⟩
 .simp at e
 .simp only[AP,BD,Addr.mk.injEq]at e;omega
def dA(w:FU)(s:Sv)(E:Int)(e:Ending)(w':FU):Prop:=
 ∃ad nd cd al nl cl an nn cn ai ni ci aw nw cw,e=.returned (.tuple #[.agg #[.bool s.up,FQ ad nd cd,I0 s.id,I0 s.ep,FQ al nl cl,I0 s.dn,I0 s.tr.z,FQ an nn cn,FQ ai ni ci,FQ aw nw cw],I0 E])/\
  Hid (SvV w' (.agg #[.bool s.up,FQ ad nd cd,I0 s.id,I0 s.ep,FQ al nl cl,I0 s.dn,I0 s.tr.z,FQ an nn cn,FQ ai ni ci,FQ aw nw cw]) s/\O7 w.heap.size (FQ ai ni ci))/\B0 w w'
theorem KL[Lay α]{F:Nat->Prop}{xs:List α}(h:GZ W B v xs)(ht:Touch F W V)(hf:∀k,v.ownBlock=FZ k->¬F k):GZ V B v xs:=by
 rcases h with h|⟨g,cap,rfl,hB,h⟩
 .exact .inl h
 .obtain⟨rest,h1,h2⟩:=h;have hlt:=(AB.1 h1).1;exact .inr ⟨g,cap,rfl,hB,rest,(ht.block g hlt (hf g rfl)).trans h1,h2⟩
theorem QG[Lay α]{xs:List α}(h:GZ W B v xs)(hk:v.ownBlock=FZ k):B<=k:=by
 rcases h with⟨rfl,_⟩|⟨g,cap,rfl,hB,_⟩
 .simp[D8]at hk
 .simp[D8]at hk;omega
def FrT(w:FU)(e:Ending):Prop:=∀x0 x1 x2 x3 x4 x5 x6 x7 x8 x9 z:FV,e=.returned (.tuple #[.agg #[x0,x1,x2,x3,x4,x5,x6,x7,x8,x9],z])->O7 w.heap.size x1/\O7 w.heap.size x4/\O7 w.heap.size x7/\O7 w.heap.size x9
theorem BS3{x0 x1 x2 x3 x4 x5 x6 x7 x8 x9 z:FV}(h:O7 w.heap.size x1/\O7 w.heap.size x4/\O7 w.heap.size x7/\O7 w.heap.size x9):FrT w (.returned (.tuple #[.agg #[x0,x1,x2,x3,x4,x5,x6,x7,x8,x9],z])):=by
 intro u0 u1 u2 u3 u4 u5 u6 u7 u8 u9 t e;simp only[Ending.returned.injEq,Value.tuple.injEq,Value.agg.injEq,Array.mk.injEq,List.cons.injEq]at e;obtain⟨⟨_,rfl,_,_,rfl,_,_,rfl,_,rfl,_⟩,_⟩:=e;exact h
theorem FrT.lower(h:FrT W e)(hw:w.heap.size<=W.heap.size):FrT w e:=fun _ _ _ _ _ _ _ _ _ _ _ he=>by
 obtain⟨h1,h2,h3,h4⟩:=h _ _ _ _ _ _ _ _ _ _ _ he;exact⟨h1.lower hw,h2.lower hw,h3.lower hw,h4.lower hw⟩
theorem A96(he:e=.returned (.tuple #[svZ,I0 E])):FrT w e:=by
 rw[he];exact BS3 ⟨U9 _ _ _,U9 _ _ _,U9 _ _ _,U9 _ _ _⟩
theorem A07(s s':Sv)(t:GI)(safe:Bool)(E:Int)(hT:CO8 s t safe E s')(hp:t.p.length<=140737488355328)(hdl:t.d.length<=140737488355328)(hn:s.ts.length<=1000000000)(W w1:FU)(q:Nat)(hq:q<W.heap.size)
  (ad al an ai aw:Option Addr) (nd cd cl cn ci cw B1 B2:Nat) (h1:W.heap.size<=B1) (h2:B1<=B2) (od:GZ w1 W.heap.size (FQ ad nd cd) s.fs) (_hd1:∀k,(Value.slice ad nd cd).ownBlock=FZ k->k<B1)
  (ol:GZ w1 B1 (FQ al s.ts.length cl) s.ts) (hl2:∀k,(Value.slice al s.ts.length cl).ownBlock=FZ k->k<B2) (on:GZ w1 B2 (FQ an s.tr.ns.length cn) s.tr.ns) (oi:GZ w1 B2 (FQ ai s.tr.ss.length ci) s.tr.ss) (ow:GZ w1 B2 (FQ aw s.ws.length cw) s.ws) (hb1:B0 W w1):
  FW prog 113 #[.agg #[.bool s.up,FQ ad nd cd,I0 s.id,I0 s.ep,FQ al s.ts.length cl,I0 s.dn,I0 s.tr.z,FQ an s.tr.ns.length cn,FQ ai s.tr.ss.length ci,FQ aw s.ws.length cw],J7 t,.bool safe] w1 fun e w'=>CE7 W q s' E e w'/\FrT W e:=by
 have hd:=TA.1 od.seq;have hl:=OB.1 ol.seq;rcases hT with⟨hz,rfl,rfl⟩|⟨hz,hE,rfl,d1,G⟩|⟨hz,rfl,d1,rfl,G⟩
 .exact(B12 s.up s.id s.ep s.dn s.tr.z s.fs s.ts t safe _ _ an ai aw _ cn _ ci _ cw w1 hd hl hz).mono fun e w' h=>⟨nK h.1 (G8 hb1 h.2),A96 h.1⟩
 .exact(C04 s.up s.id s.ep s.dn s.tr.z s.fs s.ts t safe _ _ an ai aw _ cn _ ci _ cw w1 hd hl hz E d1 hE G).mono fun e w' h=>⟨nK h.1 (G8 hb1 h.2),A96 h.1⟩
 .refine(B14 s.up s.id s.ep s.dn s.tr.z s.fs s.ts t safe _ _ an ai aw _ cn _ ci _ cw w1 hd hl hz d1 W.heap.size hb1.size (ol.lower h1) hn hp hdl G).mono fun e w' h=>?_;obtain⟨⟨a,n,c,a2,c2,he,hd',ol',_,ht⟩,hfd⟩:=h;have hs:∀ {α:Type} [Lay α] {v:FV} {xs:List α},GZ w1 B2 v xs->GZ w' B2 v xs:=fun ho=>KL ho ht (fun k hk hf=>by have:=QG ho hk;have:=hl2 k hf;omega);refine⟨⟨a,n,c,a2,_,c2,an,_,cn,ai,_,ci,aw,_,cw,he,G6 ⟨hd',OB.1 ol'.seq,(hs on).seq,(hs oi).seq,XQ oi (by omega),(hs ow).seq,(MF oi).lower (by omega)⟩,?_⟩,?_⟩;rotate_left
  .have f1:=hfd _ _ _ _ _ _ _ _ _ _ _ he;rw[he];exact BS3 ⟨f1.lower hb1.size,MF ol',(MF on).lower (by omega),(MF ow).lower (by omega)⟩
  exact hb1.trans (ht.below (B:=W.heap.size) hb1.size (fun k hk=>by have:=QG ol hk;omega))
theorem A08(s s':Sv)(v:FV)(t:GI)(safe:Bool)(E:Int)(w:FU)(hv:SvV w v s)(hf:BR6 s)(hT:CO8 s t safe E s')(hp:t.p.length<=140737488355328)(hdl:t.d.length<=140737488355328)(hn:s.ts.length<=1000000000):
  FW prog 96 #[v,J7 t,.bool safe] w fun e w'=>dA w s' E e w'/\FrT w e:=by
 have CC:=G6 (fun W (hW:B0 w W)=>YQ s v W (hv.next hW) hf);have CX:=G6 (A07 s s' t safe E hT hp hdl hn);obtain⟨ad,nd,cd,al,cl,an,cn,ai,ci,aw,cw,rfl,d1,l1,n1,s1,k1⟩:=hv.five;clear hv d1 l1 n1 s1 k1 hf hT hp hdl hn;obtain⟨up,fs,id,ep,ts,dn,⟨tz,tns,tss⟩,ws⟩:=s;obtain⟨z,o,s,p,d,y,u⟩:=t;unfold J7 at*;simp only at*;go_enter func96,ntmps96;go_upto_region 1 with fail;have X:=G6 (EB.start w up id ep dn tz (FQ ad nd cd) (FQ al ts.length cl) (FQ an tns.length cn) (FQ ai tss.length ci) (FQ aw ws.length cw) ⟨z,o,s,p,d,y,u⟩);have HB0:=G6 (EB.A95 w (FT #[.bool up,FQ ad nd cd,I0 id,I0 ep,FQ al ts.length cl,I0 dn,I0 tz,FQ an tns.length cn,FQ ai tss.length ci,FQ aw ws.length cw] 49) (FT #[I0 z,I0 o,I0 s,S0 p,S0 d,I0 y,I0 u] 52) (FT #[.bool false,N0,I0 0,I0 0,N0,I0 0,I0 0,N0,N0,N0] 49));simp only at X;generalize ((w.alloc (FT #[.bool up,FQ ad nd cd,I0 id,I0 ep,FQ al ts.length cl,I0 dn,I0 tz,FQ an tns.length cn,FQ ai tss.length ci,FQ aw ws.length cw] 49)).alloc (FT #[I0 z,I0 o,I0 s,S0 p,S0 d,I0 y,I0 u] 52)).alloc (FT #[.bool false,N0,I0 0,I0 0,N0,I0 0,I0 0,N0,N0,N0] 49)=W0 at*;have K1:∀V,B0 W0 V->V.cell? ⟨w.heap.size+1,0,FX⟩=FZ (I0 z)/\V.cell? ⟨w.heap.size+1,1,FX⟩=FZ (I0 o)/\V.cell? ⟨w.heap.size+1,2,FX⟩=FZ (I0 s)/\V.cell? ⟨w.heap.size+1,3,FX⟩=FZ (S0 p)/\V.cell? ⟨w.heap.size+1,4,FX⟩=FZ (S0 d)/\V.cell? ⟨w.heap.size+1,5,FX⟩=FZ (I0 y)/\V.cell? ⟨w.heap.size+1,6,FX⟩=FZ (I0 u):=fun V hV=>by
  have h:=((G5 X).next hV).x;exact⟨h.c0,h.c1,h.c2,h.c3,h.c4,h.c5,h.c6⟩
 have HK1:=G6 K1;obtain⟨x0,x1,x2,x3,x4,x5,x6,x7,x8,x9⟩:=(G5 X).s.cells;obtain⟨e0,e1,e2,e3,e4,e5,e6⟩:=K1 W0 (AA _ _);have hq:=(G5 X).lt;clear K1
 go_region_with (first
  |(go_at_call 112;refine(G5 CC _ (G5 HB0).drew).mono ?_;rintro e w1 ⟨bd,md,fd,bl,fl,bn,fn,bi,fi,bw,fw,B1,B2,rfl,h1,h2,od,hd1,ol,hl2,on,oi,ow,hb1⟩;have HB1:=G6 (I8 hb1);obtain⟨m0,m1,m2,m3,m4,m5,m6⟩:=G5 HK1 _ (G5 HB1);have CY:=G6 (G5 CX _ _ (w.heap.size+1+1) (by show w.heap.size+1+1<W0.heap.size;omega) _ _ _ _ _ _ _ _ _ _ _ _ _ h1 h2 od hd1 ol hl2 on oi ow hb1);have X1:=G6 ((G5 X).next (G5 HB1));clear h1 h2 od hd1 ol hl2 on oi ow hb1)
  |(go_at_call 113;refine(G5 CY).mono ?_;rintro e w2 ⟨⟨gd,nd2,cd2,gl,nl2,cl2,gn,nn2,cn2,gi,ni2,ci2,gw,nw2,cw2,rfl,H2,hb2⟩,hft⟩;have HFT:=G6 hft;clear hft;have X2:=(G5 X).next (I8 hb2);have R2:=X2.r;obtain⟨r0,r1,r2,r3,r4,r5,r6,r7,r8,r9⟩:=R2.cells;have rf0:=R2.GN 0;have rf1:=R2.GN 1;have rf2:=R2.GN 2;have rf3:=R2.GN 3;have rf4:=R2.GN 4;have rf5:=R2.GN 5;have rf6:=R2.GN 6;have rf7:=R2.GN 7;have rf8:=R2.GN 8;have rf9:=R2.GN 9;have D2:=G6 R2.fA;have HB2:=G6 (G8 (G5 HB0) (I8 hb2));clear hb2 R2 X2))
 all_goals
  go_wp2_with fail;refine bodyPost_ret (v:=.tuple #[.agg #[.bool s'.up,FQ gd nd2 cd2,I0 s'.id,I0 s'.ep,FQ gl nl2 cl2,I0 s'.dn,I0 s'.tr.z,FQ gn nn2 cn2,FQ gi ni2 ci2,FQ gw nw2 cw2],I0 E]) (by simp[results,results96,go_sem,r0,r1,r2,r3,r4,r5,r6,r7,r8,r9]) rfl ?_;obtain⟨g1,g2,g3,g4,g5,g6,g7⟩:=G5 H2;exact⟨⟨gd,nd2,cd2,gl,nl2,cl2,gn,nn2,cn2,gi,ni2,ci2,gw,nw2,cw2,rfl,G6 ⟨ZX (s:=s') (G5 D2) g1 g2 g3 g4 g5 g6,g7.lower (by show w.heap.size<=W0.heap.size;omega)⟩,JJ (G5 HB2) (by omega) _ _ _ _ _ _ _ _ _ _⟩,(G5 HFT).lower (by show w.heap.size<=W0.heap.size;omega)⟩
theorem CB.dput(h:CB w W up vd id ep vl dn z vn vs vw)(q:Nat)(u:FV)(hq:w.heap.size+2<=q):CB w (W.setCell ⟨q,0,FX⟩ u) up vd id ep vl dn z vn vs vw:=
 ⟨h.below.setCell (by simp only;omega) u,h.s.other (by omega),h.r.other (by omega)⟩
def CP0(l:List GI)(k:Nat)(z:Int):Prop:=(k=0/\z=-1)\/∃x,0<k/\l[k-1]?=FZ x/\z=x.z
theorem AK7(s:Sv)(v:FV)(vl:FV)(l:List GI)(epo:Int)(w:FU)(hv:SvV w v s)(hvl:NI w vl l)(hf:BR6 s)(hll:l.length<=1000000000)(hk:(KQ s.ts l:Int)<s.dn):
  FW prog 75 #[v,vl,I0 epo] w (nI w 13):=by
 obtain⟨ad,nd,cd,al,cl,an,cn,ai,ci,aw,cw,rfl,d1,l1,n1,s1,k1⟩:=hv.five;have CC:=G6 (fun W (hW:B0 w W)=>nC _ vl s.ts l W (l1.next hW) (hvl.next hW) (by have:=hf.l;omega) (by omega));obtain⟨lb,lc,rfl⟩:=MB hvl;clear hv d1 l1 n1 s1 k1 hvl hf hll;obtain⟨up,fs,id,ep,ts,dn,⟨tz,tns,tss⟩,ws⟩:=s;simp only at*;generalize KQ ts l=k at*;go_enter func75,ntmps75;go_wp2_with fail;have X0:=G6 (CB.start w up id ep dn tz (FQ ad nd cd) (FQ al ts.length cl) (FQ an tns.length cn) (FQ ai tss.length ci) (FQ aw ws.length cw));generalize (w.alloc (FT #[.bool up,FQ ad nd cd,I0 id,I0 ep,FQ al ts.length cl,I0 dn,I0 tz,FQ an tns.length cn,FQ ai tss.length ci,FQ aw ws.length cw] 49)).alloc (FT #[.bool false,N0,I0 0,I0 0,N0,I0 0,I0 0,N0,N0,N0] 49)=W0 at*;refine(G5 CC _ (G5 X0).below).mono ?_;rintro e w1 ⟨rfl,hb1⟩;have X1:=G6 ((G5 X0).next hb1);have x5:=(G5 X1).s.cells.2.2.2.2.2.1;clear hb1 X0 CC;obtain⟨r0,r1,r2,r3,r4,r5,r6,r7,r8,r9⟩:=(G5 X1).r.cells;have rf0:=(G5 X1).r.GN 0;have rf1:=(G5 X1).r.GN 1;have rf2:=(G5 X1).r.GN 2;have rf3:=(G5 X1).r.GN 3;have rf4:=(G5 X1).r.GN 4;have rf5:=(G5 X1).r.GN 5;have rf6:=(G5 X1).r.GN 6;have rf7:=(G5 X1).r.GN 7;have rf8:=(G5 X1).r.GN 8;have rf9:=(G5 X1).r.GN 9;go_wp2_with fail;exact bodyPost_ret (v:=.tuple #[.agg #[.bool false,N0,I0 0,I0 0,N0,I0 0,I0 0,N0,N0,N0],I0 13]) (by simp[results,results75,go_sem,r0,r1,r2,r3,r4,r5,r6,r7,r8,r9]) rfl (jO rfl (G5 X1).zero)
def RF(w W:FU)(s:Sv):Prop:=∃ad nd cd al nl cl an nn cn ai ni ci aw nw cw,CB w W s.up (FQ ad nd cd) s.id s.ep (FQ al nl cl) s.dn s.tr.z (FQ an nn cn) (FQ ai ni ci) (FQ aw nw cw)/\UJ (FQ ai ni ci) (w.heap.size+1)/\
 SvV W (.agg #[.bool s.up,FQ ad nd cd,I0 s.id,I0 s.ep,FQ al nl cl,I0 s.dn,I0 s.tr.z,FQ an nn cn,FQ ai ni ci,FQ aw nw cw]) s
theorem NI.take{ts:List GI}(h:NI w (FQ a ts.length c) ts)(hk:k<=ts.length):NI w (FQ a k c) (ts.take k):=by
 rcases h with⟨a',cap,e,rfl,hc⟩|⟨b,off,cap,e,h1,h2,h3,h0,h4⟩
 .simp only[AP]at e;obtain⟨rfl,_,rfl⟩:=e;obtain rfl:k=0:=by simpa using hk
  exact .inl ⟨a,c,rfl,by simp,hc⟩
 .simp only[AP]at e;obtain⟨rfl,_,rfl⟩:=e;by_cases k0:k=0
  .subst k0;exact .inl ⟨_,c,rfl,by simp,h2⟩
  .have hl:(ts.take k).length=k:=by simp;omega
   refine .inr ⟨b,off,c,by rw[hl],by omega,h2,h3,by intro e;rw[e]at hl;simp at hl;omega,fun j v hj=>h4 j v ?_⟩;have e:ts=ts.take k++ts.drop k:=(DN k ts).symm;rw[e,QZ,List.getElem?_append_left (List.getElem?_eq_some_iff.1 hj).1];exact hj
theorem CB.OY{up0:Bool}{id0 ep0 dn0 z0:Int}{vd0 vl0 vn0 vs0 vw0:FV}(h:CB w W up0 vd0 id0 ep0 vl0 dn0 z0 vn0 vs0 vw0)(up:Bool)(id ep dn z:Int)(vd vl vn vs vw:FV):
  CB w (Go.Proofs.YtbaacalmgfkojaaGreatDoor.OY W w.heap.size (.bool up) vd (I0 id) (I0 ep) vl (I0 dn) (I0 z) vn vs vw) up vd id ep vl dn z vn vs vw:=by
 refine⟨JJ h.below (A8 _) _ _ _ _ _ _ _ _ _ _,?_,?_⟩
 .unfold IC Go.Proofs.YtbaacalmgfkojaaGreatDoor.OY;rw[GL _ (GL _ (GL _ (GL _ (GL _ (GL _ (GL _ (GL _ (GL _ (GL _ h.s)))))))))];simp
 .unfold Go.Proofs.YtbaacalmgfkojaaGreatDoor.OY;exact(IC.other (IC.other (IC.other (IC.other (IC.other (IC.other (IC.other (IC.other (IC.other (IC.other h.r (by omega)) (by omega)) (by omega)) (by omega)) (by omega)) (by omega)) (by omega)) (by omega)) (by omega)) (by omega))
theorem NI.drop{l:List GI}(h:NI w (FQ a l.length c) l)(hk:k<=l.length):
  (c=k->NI w (FQ a (l.length-k) 0) (l.drop k))/\(c≠k->NI w (FQ (Option.map (fun x=>x.add (k*7)) a) (l.length-k) (c-k)) (l.drop k)):=by
 have hlen:(l.drop k).length=l.length-k:=by simp
 rcases h with⟨a',cap,e,rfl,hc⟩|⟨b,off,cap,e,h1,h2,h3,h0,h4⟩
 .simp only[AP]at e;obtain⟨rfl,_,rfl⟩:=e;exact⟨fun _=>.inl ⟨a,0,by simp,by simp,AY _⟩,fun _=>.inl ⟨Option.map (fun x=>x.add (k*7)) a,c-k,by simp,by simp,by omega⟩⟩
 .simp only[AP]at e;obtain⟨rfl,_,rfl⟩:=e;by_cases hd:l.drop k=[]
  .have h0':l.length-k=0:=by rw[<-hlen,hd];rfl
   exact⟨fun _=>.inl ⟨_,_,by rw[h0'],hd,by simp⟩,fun _=>.inl ⟨_,_,by rw[h0'],hd,by omega⟩⟩
  .have hlt:0<l.length-k:=by rw[<-hlen];exact List.length_pos_iff.2 hd
   refine⟨fun e=>by omega,fun _=>.inr ⟨b,off+k*7,c-k,by rw[hlen,Option.map_some,Addr.add_lit],by omega,by omega,h3,hd,fun j v hj=>?_⟩⟩;have e:KF l=KF (l.take k)++KF (l.drop k):=by rw[<-QZ,DN]
   have hl7:(KF (l.take k)).length=k*7:=by rw[ZP];simp;omega
   have:=h4 (k*7+j) v (by rw[e,List.getElem?_append_right (by omega),hl7,Nat.add_sub_cancel_left];exact hj);rwa[<-Nat.add_assoc]at this
theorem CB.putE(h:CB w W up vd id ep vl dn z vn vs vw)(e:Int):CB w (W.setCell ⟨w.heap.size,3,FX⟩ (I0 e)) up vd id e vl dn z vn vs vw:=by
 refine⟨h.below.setCell (by simp) _,?_,h.r.other (by omega)⟩;unfold IC;rw[GL (I0 e) h.s];rfl
def jS(w:FU)(s:Sv)(N:List Nt)(E:Int)(e:Ending)(w':FU):Prop:=∃v a c,e=.returned (.tuple #[v,FQ a N.length c,I0 E])/\SvV w' v s/\IL w' (FQ a N.length c) N/\B0 w w'
theorem AK9{w':FU}(he:e=.returned (.tuple #[.agg #[.bool false,N0,I0 0,I0 0,N0,I0 0,I0 0,N0,N0,N0],N0,I0 E]))(hb:B0 w w'):jS w sv0 [] E e w':=
 ⟨_,FX,0,he,SvV.zero w',IL.nil w',hb⟩
theorem BI8(hb:B0 w W)(hk:w.heap.size<=k):B0 w (OY W k (.bool false) (N0) (I0 0) (I0 0) (N0) (I0 0) (I0 0) (N0) (N0) (N0)):=JJ hb hk _ _ _ _ _ _ _ _ _ _
theorem BI9{lo hi:Nat}{ts:List GI}(h:NI w (FQ a ts.length c) ts)(h1:lo<=hi)(h2:hi<=ts.length):
  (c=lo->NI w (FQ a (hi-lo) 0) ((ts.drop lo).take (hi-lo)))/\(c≠lo->NI w (FQ (Option.map (fun x=>x.add (lo*7)) a) (hi-lo) (c-lo)) ((ts.drop lo).take (hi-lo))):=by
 have hl:(ts.drop lo).length=ts.length-lo:=by simp
 obtain⟨d1,d2⟩:=h.drop (k:=lo) (by omega);rw[<-hl]at d1 d2;exact⟨fun e=>(d1 e).take (by omega),fun e=>(d2 e).take (by omega)⟩
theorem CI.done(h:CI w W ka kn kr s N vd vl vn vs vw vN)(n:Int):CI w (W.setCell ⟨ka,5,FX⟩ (I0 n)) ka kn kr ⟨s.up,s.fs,s.id,s.ep,s.ts,n,s.tr,s.ws⟩ N vd vl vn vs vw vN:=by
 have b1:IC (W.setCell ⟨ka,5,FX⟩ (I0 n)) ka s.up vd s.id s.ep vl n s.tr.z vn vs vw:=GL (j:=5) _ h.box;refine⟨b1,(BF _ _ _ _ (Ne.symm h.ne)).trans h.nb,PZ h.d h.box (by decide) _,PZ h.l h.box (by decide) _,PZ h.n h.box (by decide) _,PZ h.i h.box (by decide) _,PZ h.o h.box (by decide) _,PZ h.t h.box (by decide) _,h.below.setCell h.ha _,h.ha,h.hn,h.ne,h.r.other h.r1,h.r1,h.r2,h.hr⟩
theorem dD[Lay α]{xs:List α}(h:GZ W B v xs)(hb:IC W k up vd id ep vl dn z vn vs vw)(hne:49≠Lay.ty α)(x0 x1 x2 x3 x4 x5 x6 x7 x8 x9:FV):GZ (OY W k x0 x1 x2 x3 x4 x5 x6 x7 x8 x9) B v xs:=by
 have hk:=aC h hb hne;unfold OY;exact(((((((((h.other hk _).other hk _).other hk _).other hk _).other hk _).other hk _).other hk _).other hk _).other hk _).other hk _
theorem CI.out(h:CI w W ka kn kr s N vd vl vn vs vw vN)(x0 x1 x2 x3 x4 x5 x6 x7 x8 x9:FV):
  SvV (OY W kr x0 x1 x2 x3 x4 x5 x6 x7 x8 x9) (.agg #[.bool s.up,vd,I0 s.id,I0 s.ep,vl,I0 s.dn,I0 s.tr.z,vn,vs,vw]) s/\IL (OY W kr x0 x1 x2 x3 x4 x5 x6 x7 x8 x9) vN N/\B0 w (OY W kr x0 x1 x2 x3 x4 x5 x6 x7 x8 x9):=
 ⟨⟨vd,vl,vn,vs,vw,rfl,TA.1 (dD h.d h.r (by decide) _ _ _ _ _ _ _ _ _ _).seq,OB.1 (dD h.l h.r (by decide) _ _ _ _ _ _ _ _ _ _).seq,(dD h.n h.r (by decide) _ _ _ _ _ _ _ _ _ _).seq,(dD h.i h.r (by decide) _ _ _ _ _ _ _ _ _ _).seq,(dD h.o h.r (by decide) _ _ _ _ _ _ _ _ _ _).seq⟩,(dD h.t h.r (by decide) _ _ _ _ _ _ _ _ _ _).seq,JJ h.below h.hr _ _ _ _ _ _ _ _ _ _⟩
theorem BJ0{w W1 w1:FU}{s:Sv}{ad al an ai aw:Option Addr}{nd cd cl cn ci cw:Nat}{bd bl bn bi bw:Option Addr}{md fd fl fn fi fw B1 B2:Nat}(h:CB w W1 s.up (FQ ad nd cd) s.id s.ep (FQ al s.ts.length cl) s.dn s.tr.z (FQ an s.tr.ns.length cn) (FQ ai s.tr.ss.length ci) (FQ aw s.ws.length cw))
  (h1:W1.heap.size<=B1) (h2:B1<=B2) (od:GZ w1 W1.heap.size (FQ bd md fd) s.fs) (ol:GZ w1 B1 (FQ bl s.ts.length fl) s.ts) (on:GZ w1 B2 (FQ bn s.tr.ns.length fn) s.tr.ns) (oi:GZ w1 B2 (FQ bi s.tr.ss.length fi) s.tr.ss) (ow:GZ w1 B2 (FQ bw s.ws.length fw) s.ws) (hb:B0 W1 w1):
  CI w ((w1.alloc (FT #[.bool s.up,FQ bd md fd,I0 s.id,I0 s.ep,FQ bl s.ts.length fl,I0 s.dn,I0 s.tr.z,FQ bn s.tr.ns.length fn,FQ bi s.tr.ss.length fi,FQ bw s.ws.length fw] 49)).alloc (FT #[N0] 34)) w1.heap.size (w1.heap.size+1) (w.heap.size+1) s [] (FQ bd md fd) (FQ bl s.ts.length fl) (FQ bn s.tr.ns.length fn) (FQ bi s.tr.ss.length fi) (FQ bw s.ws.length fw) (N0):=by
 have hz:=h.below.size;have hz1:=hb.size;have hr:=h.r.lt;have a1:=G7 w1 (FT #[.bool s.up,FQ bd md fd,I0 s.id,I0 s.ep,FQ bl s.ts.length fl,I0 s.dn,I0 s.tr.z,FQ bn s.tr.ns.length fn,FQ bi s.tr.ss.length fi,FQ bw s.ws.length fw] 49);have a2:=G7 (w1.alloc (FT #[.bool s.up,FQ bd md fd,I0 s.id,I0 s.ep,FQ bl s.ts.length fl,I0 s.dn,I0 s.tr.z,FQ bn s.tr.ns.length fn,FQ bi s.tr.ss.length fi,FQ bw s.ws.length fw] 49)) (FT #[N0] 34);have b:=G8 a1 a2;refine⟨(IC.new w1 s.up s.id s.ep s.dn s.tr.z _ _ _ _ _).next a2,?_,(od.next b).lower hz,(ol.next b).lower (by omega),(on.next b).lower (by omega),(oi.next b).lower (by omega),(ow.next b).lower (by omega),.inl ⟨rfl,rfl⟩,G8 (G8 h.below hb) b,by omega,by omega,by omega,(h.r.next hb).next b,by omega,by omega,by omega⟩;have:=heap_alloc_new (w1.alloc (FT #[.bool s.up,FQ bd md fd,I0 s.id,I0 s.ep,FQ bl s.ts.length fl,I0 s.dn,I0 s.tr.z,FQ bn s.tr.ns.length fn,FQ bi s.tr.ss.length fi,FQ bw s.ws.length fw] 49)) (FT #[N0] 34);rwa[show (w1.alloc (FT #[.bool s.up,FQ bd md fd,I0 s.id,I0 s.ep,FQ bl s.ts.length fl,I0 s.dn,I0 s.tr.z,FQ bn s.tr.ns.length fn,FQ bi s.tr.ss.length fi,FQ bw s.ws.length fw] 49)).heap.size=w1.heap.size+1 by simp]at this
def FrS(w:FU)(e:Ending):Prop:=∀x0 x1 x2 x3 x4 x5 x6 x7 x8 x9 y z:FV,e=.returned (.tuple #[.agg #[x0,x1,x2,x3,x4,x5,x6,x7,x8,x9],y,z])->O7 w.heap.size x8/\O7 w.heap.size x1/\O7 w.heap.size x4/\O7 w.heap.size x7/\O7 w.heap.size x9/\O7 w.heap.size y
theorem CE8{x0 x1 x2 x3 x4 x5 x6 x7 x8 x9 y z:FV}(h:O7 w.heap.size x8/\O7 w.heap.size x1/\O7 w.heap.size x4/\O7 w.heap.size x7/\O7 w.heap.size x9/\O7 w.heap.size y):FrS w (.returned (.tuple #[.agg #[x0,x1,x2,x3,x4,x5,x6,x7,x8,x9],y,z])):=by
 intro u0 u1 u2 u3 u4 u5 u6 u7 u8 u9 t r e;simp only[Ending.returned.injEq,Value.tuple.injEq,Value.agg.injEq,Array.mk.injEq,List.cons.injEq]at e;obtain⟨⟨_,rfl,_,_,rfl,_,_,rfl,rfl,rfl,_⟩,rfl,_⟩:=e;exact h
theorem vV(s:Sv)(v:FV)(dN nN k:Nat)(xs:List GI)(w:FU)(hv:SvV w v s)(hf:BR6 s)(hdn:s.dn=dN)(h1:dN<=nN)(h2:nN<=s.ts.length)(hxs:xs=(s.ts.drop dN).take (nN-dN))(hC:Chn s xs k)(hB:BH9 s xs):
  FW prog 97 #[v,I0 nN] w fun e w'=>(k=xs.length->jS w ⟨(csP s xs k).1.up,(csP s xs k).1.fs,(csP s xs k).1.id,(csP s xs k).1.ep,(csP s xs k).1.ts,nN,(csP s xs k).1.tr,(csP s xs k).1.ws⟩ (csP s xs k).2 0 e w'/\FrS w e)/\(∀x,xs[k]?=FZ x->jS w sv0 [] (XZ (csP s xs k).1.tr x) e w'):=by
 have CC:=G6 (fun W (hW:B0 w W)=>YQ s v W (hv.next hW) hf);obtain⟨ad,nd,cd,al,cl,an,cn,ai,ci,aw,cw,rfl,d1,l1,n1,s1,k1⟩:=hv.five;have hxl:xs.length=nN-dN:=by rw[hxs];simp;omega
 have HLS:=G6 (fun W (hW:B0 w W)=>BI9 (l1.next hW) h1 h2);rw[<-hxs]at HLS;have hcl:s.ts.length<=cl/\cl<=9223372036854775807:=by
  rcases l1 with⟨_,_,e,e0,hm⟩|⟨_,_,_,e,h3,h4,_⟩
  .simp only[AP]at e;rw[e0]at e⊢;simp only[maxLen]at hm;simp;omega
  .simp only[AP]at e;simp only[maxLen]at h4;omega
 have hll:s.ts.length*72<=140737488355328:=hf.l;have HC:=G6 hC;have HBs:=G6 hB;have hkl:=hC.le;clear hv d1 l1 n1 s1 k1 hxs hC hB hf;have hdi:¬s.dn<0:=by omega
 have hni:¬ (nN:Int)<s.dn:=by omega
 have HDN:=G6 hdn;clear hdn;have hnl:¬ (nN:Int)>(s.ts.length:Int):=by omega
 go_enter func97,ntmps97;go_upto_region 1 with fail;have X1:=G6 (CB.start w s.up s.id s.ep s.dn s.tr.z (FQ ad nd cd) (FQ al s.ts.length cl) (FQ an s.tr.ns.length cn) (FQ ai s.tr.ss.length ci) (FQ aw s.ws.length cw));generalize (w.alloc (FT #[.bool s.up,FQ ad nd cd,I0 s.id,I0 s.ep,FQ al s.ts.length cl,I0 s.dn,I0 s.tr.z,FQ an s.tr.ns.length cn,FQ ai s.tr.ss.length ci,FQ aw s.ws.length cw] 49)).alloc (FT #[.bool false,N0,I0 0,I0 0,N0,I0 0,I0 0,N0,N0,N0] 49)=W1 at*;obtain⟨x0,x1,x2,x3,x4,x5,x6,x7,x8,x9⟩:=(G5 X1).s.cells;go_upto_region 4 with fail;go_wp2_with fail
 with_reducible refine(G5 CC _ (G5 X1).below).mono ?_
 rintro e w1 ⟨bd,md,fd,bl,fl,bn,fn,bi,fi,bw,fw,B1,B2,rfl,g1,g2,od,hd1,ol,hl2,on,oi,ow,hb1⟩;have CI0:=G6 (BJ0 (G5 X1) g1 g2 od ol on oi ow hb1);have X2:=G6 (((G5 X1).next hb1).next (G8 (G7 w1 (FT #[.bool s.up,FQ bd md fd,I0 s.id,I0 s.ep,FQ bl s.ts.length fl,I0 s.dn,I0 s.tr.z,FQ bn s.tr.ns.length fn,FQ bi s.tr.ss.length fi,FQ bw s.ws.length fw] 49)) (G7 (w1.alloc (FT #[.bool s.up,FQ bd md fd,I0 s.id,I0 s.ep,FQ bl s.ts.length fl,I0 s.dn,I0 s.tr.z,FQ bn s.tr.ns.length fn,FQ bi s.tr.ss.length fi,FQ bw s.ws.length fw] 49)) (FT #[N0] 34))));clear g1 g2 od hd1 ol hl2 on oi ow hb1 X1 CC x0 x1 x2 x3 x4 x5 x6 x7 x8 x9;go_upto_region 7 with fail;generalize (w1.alloc (FT #[.bool s.up,FQ bd md fd,I0 s.id,I0 s.ep,FQ bl s.ts.length fl,I0 s.dn,I0 s.tr.z,FQ bn s.tr.ns.length fn,FQ bi s.tr.ss.length fi,FQ bw s.ws.length fw] 49)).alloc (FT #[N0] 34)=W2 at*;generalize w1.heap.size+1=kn at*;generalize w1.heap.size=ka at*;have x4:=(G5 X2).s.cells.2.2.2.2.1;rw[G5 HDN]
 go_cut [41,42,43]from 36 (fun t41 t42 t43 wx=>∃la lcc,t41=FQ la (nN-dN) lcc/\t42=I0 ((nN-dN:Nat):Int)/\t43=I0 0/\wx=W2/\Hid (∀W,B0 w W->NI W (FQ la (nN-dN) lcc) xs))
 case first=>
  by_cases hlc:cl=dN
  .subst hlc;go_wp2_with fail
   all_goals go_meet
   all_goals exact⟨_,_,rfl,rfl,rfl,rfl,G6 fun W hW=>(G5 HLS W hW).1 (by first|rfl|trivial)⟩
  .go_wp2_with fail
   all_goals go_meet
   all_goals exact⟨_,_,rfl,rfl,rfl,rfl,G6 fun W hW=>(G5 HLS W hW).2 hlc⟩
 case rest=>
  obtain⟨la,lcc,rfl,rfl,rfl,rfl,HLX⟩:=hcut;rw[<-hxl]at HLX⊢;have HXL:=G6 hxl;have hx63:xs.length<=1000000000000000:=by omega
  clear HLS hxl h1 h2 hcl hll hdi hni hnl X2 x4;go_wp2_with fail
  go_loopg [43] xs.length (fun kx s43 wr=>∃i:Nat,s43=I0 i/\i<=k/\xs.length-i<=kx/\Hid (∃ad nd cd al cl an cn ai ci aw cw aN cN,CI w wr ka kn (w.heap.size+1) (csP s xs i).1 (csP s xs i).2 (FQ ad nd cd) (FQ al (csP s xs i).1.ts.length cl) (FQ an (csP s xs i).1.tr.ns.length cn) (FQ ai (csP s xs i).1.tr.ss.length ci) (FQ aw (csP s xs i).1.ws.length cw) (FQ aN (csP s xs i).2.length cN)))
  case atStart=>exact⟨0,rfl,AY _,A8 _,G6 (by rw[qG];exact⟨_,_,_,_,_,_,_,_,_,_,_,_,_,G5 CI0⟩)⟩
  case round=>
   obtain⟨i,rfl,hi,hgi,HI⟩:=hrel;by_cases hlt:i<xs.length
   .obtain⟨x,hx⟩:∃x,xs[i]?=FZ x:=⟨_,AL hlt⟩;obtain⟨ead,CM6,ecd,eal,ecl,ean,ecn,eai,eci,eaw,ecw,eaN,ecN,hci⟩:=G5 HI;obtain⟨b,o,c,he,hb,q,hq9⟩:=YO (G5 HLX wr hci.below) hx;simp only[AP]at he;obtain⟨rfl,he2,rfl⟩:=he;clear he2 hq9;have e0:=q.z hx;have e1:=q.o hx;have e2:=q.s hx;have e3:=q.p hx;have e4:=q.d hx;have e5:=q.v hx;have e6:=q.w hx;have hii:(i:Int)<(xs.length:Int):=by omega
    have hal:=G7 wr (FT #[I0 x.z,I0 x.o,I0 x.s,S0 x.p,S0 x.d,I0 x.v,I0 x.w] 52);have HC1:=G6 (A02 w _ ka kn (w.heap.size+1) (csP s xs i).1 (csP s xs i).2 x ead eal ean eai eaw eaN CM6 ecd ecl ecn eci ecw ecN (hci.next hal) (BZ1 (G5 HBs) (G5 HC) hi hx));have HT1:=TAt.new wr x;have HX:=G6 hx;have HR0:=G6 (hci.r.next hal);have HB1:=G6 (G8 hci.below hal);have t0:=HT1.c0;have t1:=HT1.c1;have t2:=HT1.c2;have t3:=HT1.c3;have t4:=HT1.c4;have t5:=HT1.c5;have t6:=HT1.c6;clear q hb hx hal HT1 hci HI;obtain⟨z,op,u,p,d,y,vv⟩:=x;unfold J7 at HC1;simp only at e0 e1 e2 e3 e4 e5 e6 t0 t1 t2 t3 t4 t5 t6;go_upto_region 10 with fail;generalize wr.alloc (FT #[I0 z,I0 op,I0 u,S0 p,S0 d,I0 y,I0 vv] 52)=W6 at*;generalize wr.heap.size=kx at*;clear e0 e1 e2 e3 e4 e5 e6;go_wp2_with fail;refine(G5 HC1).mono ?_;rintro e w7 ⟨rfl,hout⟩;have HO:=G6 hout;clear HC1 hout t0 t1 t2 t3 t4 t5 t6;have HX':=G5 HX;obtain⟨E,hE⟩:∃E,XZ (csP s xs i).1.tr ⟨z,op,u,p,d,y,vv⟩=E:=⟨_,rfl⟩;rw[hE]at HO;rw[hE];by_cases hik:i<k
    .obtain rfl:E=0:=by rw[<-hE];exact(G5 HC).ok i _ hik HX'
     have HIN:Hid (∃ad nd cd al cl an cn ai ci aw cw aN cN,CI w w7 ka kn (w.heap.size+1) (csP s xs (i+1)).1 (csP s xs (i+1)).2 (FQ ad nd cd) (FQ al (csP s xs (i+1)).1.ts.length cl) (FQ an (csP s xs (i+1)).1.tr.ns.length cn) (FQ ai (csP s xs (i+1)).1.tr.ss.length ci) (FQ aw (csP s xs (i+1)).1.ws.length cw) (FQ aN (csP s xs (i+1)).2.length cN)):=G6 (by
      rw[A89 HX'];simp only[stP,AO];exact(G5 HO).2.2 rfl)
     clear HO hE HX';go_wp2_with fail
     go_roundg (xs.length-(i+1))
     case measure=>omega
     case rel=>exact⟨i+1,rfl,by omega,A8 _,HIN⟩
    .obtain rfl:i=k:=by omega
     have hE0:E≠0:=by rw[<-hE];exact(G5 HC).stop _ HX'
     have HR7:=(G5 HR0).next ((G5 HO).2.1 hE0);have HBw:=G6 (BI8 (G5 HO).1 (show w.heap.size<=w.heap.size+1 by omega));unfold OY at HBw;obtain⟨r0,r1,r2,r3,r4,r5,r6,r7,r8,r9⟩:=HR7.cells;have rf0:=HR7.GN 0;have rf1:=HR7.GN 1;have rf2:=HR7.GN 2;have rf3:=HR7.GN 3;have rf4:=HR7.GN 4;have rf5:=HR7.GN 5;have rf6:=HR7.GN 6;have rf7:=HR7.GN 7;have rf8:=HR7.GN 8;have rf9:=HR7.GN 9;have HE:=G6 hE;clear HR7 HO HR0 hE HX';go_wp2_with fail;refine bodyPost_ret (v:=.tuple #[.agg #[.bool false,N0,I0 0,I0 0,N0,I0 0,I0 0,N0,N0,N0],N0,I0 E]) (by simp[results,results97,go_sem,r0,r1,r2,r3,r4,r5,r6,r7,r8,r9]) rfl ?_;refine⟨fun h=>by omega,fun x' hx'=>?_⟩;rw[G5 HX]at hx'
     cases hx'
     rw[G5 HE];exact AK9 rfl (G5 HBw)
   .obtain rfl:i=k:=by omega
    have hik:i=xs.length:=by omega
    obtain⟨ead,CM6,ecd,eal,ecl,ean,ecn,eai,eci,eaw,ecw,eaN,ecN,hci⟩:=G5 HI;obtain⟨S,hS⟩:∃S,(csP s xs i).1=S:=⟨_,rfl⟩;obtain⟨NN,hNN⟩:∃NN,(csP s xs i).2=NN:=⟨_,rfl⟩;rw[hS,hNN]at hci;have HD:=G6 (hci.done nN);have HFR:=G6 (And.intro (MF hci.i) (And.intro (MF hci.d) (And.intro (MF hci.l) (And.intro (MF hci.n) (And.intro (MF hci.o) (MF hci.t))))));have x5:=hci.box.cells.2.2.2.2.2.1;have xf5:=hci.box.GN 5;have HS:=G6 hS;have HNN:=G6 hNN;have HIK:=G6 hik;have hki:¬ ((i:Int)<(xs.length:Int)):=by omega
    clear hci HI hS hNN hik;go_upto_region 15 with fail;generalize wr.setCell ⟨ka,5,FX⟩ (I0 nN)=W8 at*;clear x5 xf5;obtain⟨x0,x1,x2,x3,x4,x5,x6,x7,x8,x9⟩:=(G5 HD).box.cells;have n0:W8.cell? ⟨kn,0,FX⟩=FZ (FQ eaN NN.length ecN):=by simp[AV,(G5 HD).nb]
    obtain⟨r0,r1,r2,r3,r4,r5,r6,r7,r8,r9⟩:=(G5 HD).r.cells;have rf0:=(G5 HD).r.GN 0;have rf1:=(G5 HD).r.GN 1;have rf2:=(G5 HD).r.GN 2;have rf3:=(G5 HD).r.GN 3;have rf4:=(G5 HD).r.GN 4;have rf5:=(G5 HD).r.GN 5;have rf6:=(G5 HD).r.GN 6;have rf7:=(G5 HD).r.GN 7;have rf8:=(G5 HD).r.GN 8;have rf9:=(G5 HD).r.GN 9;have C09:=G6 ((G5 HD).out (.bool S.up) (FQ ead CM6 ecd) (I0 S.id) (I0 S.ep) (FQ eal S.ts.length ecl) (I0 nN) (I0 S.tr.z) (FQ ean S.tr.ns.length ecn) (FQ eai S.tr.ss.length eci) (FQ eaw S.ws.length ecw));have hl1:=(G5 HD).box.lt;have hl2:=(G5 HD).r.lt;have HB8:=G6 (G5 HD).below;have hne1:w.heap.size+1≠ka:=(G5 HD).r1;have hne2:w.heap.size+1≠kn:=(G5 HD).r2;have hne3:ka≠w.heap.size+1:=fun h=>hne1 h.symm;have hne4:kn≠w.heap.size+1:=fun h=>hne2 h.symm;clear HD;simp only at x0 x1 x2 x3 x4 x5 x6 x7 x8 x9;unfold OY at C09;go_region
    all_goals go_wp2_with fail
    all_goals refine bodyPost_ret (v:=.tuple #[.agg #[.bool S.up,FQ ead CM6 ecd,I0 S.id,I0 S.ep,FQ eal S.ts.length ecl,I0 nN,I0 S.tr.z,FQ ean S.tr.ns.length ecn,FQ eai S.tr.ss.length eci,FQ eaw S.ws.length ecw],FQ eaN NN.length ecN,I0 0]) (by simp[results,results97,go_sem,r0,r1,r2,r3,r4,r5,r6,r7,r8,r9]) rfl ?_
    all_goals rw[G5 HS,G5 HNN]
    all_goals refine fun _=>⟨⟨_,_,_,rfl,?_,?_,?_⟩,CE8 (G5 HFR)⟩
    all_goals first
     |exact(G5 C09).1.next ((AA _ _).drew)
     |exact(G5 C09).2.1.next ((AA _ _).drew)
     |exact(G5 C09).2.2.drew
     |exact(G5 C09).1
     |exact(G5 C09).2.1
     |exact(G5 C09).2.2
noncomputable def CP1(id:Int):Sv:=⟨true,[OT []],id,YD [],[],0,QE,[]⟩
theorem B18:nG 46 (fun x=>#[x]) [] [] [OT []] 0:=
 dV [] [OT []] 0 (fun v W hv=>by
  have h:=yX v [] NK 7 W hv (JR WT) (.inr ⟨WT,⟨[],[],qJ _⟩,rfl⟩);exact h)
  (MO fun v W hv=>ZU v [] [] [] NK [] W hv (JR WT) WT aF (by decide) (qJ _) (by decide))
theorem B19(id:Int)(h0:0<=id)(h1:id<3)(w:FU):FW prog 33 #[I0 id,.agg #[N0]] w (ZV w (CP1 id) 0):=
 A94 (N0) [] [OT []] [] id w (IK.nil w) (by intro f hf;simp at hf) h0 h1 B18
noncomputable def RJ(m:List GI)(i:Nat):Tr:=(m.take i).foldl iH QE
theorem WW(m:List GI):RJ m 0=QE:=by simp[RJ]
theorem wB{m:List GI}(h:m[i]?=FZ x):RJ m (i+1)=iH (RJ m i) x:=by
 unfold RJ;rw[PI h,List.foldl_append];rfl
theorem fU(m:List GI)(x:GI)(h:i<=m.length):RJ (m++[x]) i=RJ m i:=by
 unfold RJ;rw[List.take_append_of_le_length h]
theorem B20(xs:List GI):∀ (s:Sv) (N:List Nt),(xs.foldl stP (s,N)).1.tr=xs.foldl iH s.tr:=by
 induction xs with
 |nil=>intro s N;rfl
 |cons x xs ih=>
  intro s N;simp only[List.foldl_cons];exact ih (dS s x) _
