/-
  Part.
-/
import Derived.Test.YtefephchbjfdfaaGreatDoorLMR
import Derived.Test.YtefephchbjfdfaaGreatDoorLMO
import Derived.Test.YtefephchbjfdfaaGreatDoorLMN
import Derived.Deep.AppendLies
set_option maxRecDepth 20000
set_option maxHeartbeats 8000000
namespace Go.Proofs.YtefephchbjfdfaaGreatDoor
open Go.RowKit Go.Proofs.Tryz
open _root_.Nat renaming le_refl->AA,zero_le->AZ
open Go.RowKit.Below renaming refl->AB,heap_setCell->BG
open _root_.Array renaming getElem?_eq_some_iff->AL
open _root_.List renaming getElem?_eq_getElem->AO,length_append->AP,getElem?_eq_some_iff->AV,mem_cons->BR,append_nil->DV,take_append_drop->DW,mem_filter->EK
open Go.Value.slice renaming injEq->AQ
open Go.World renaming cell?->AX,frozen?->FC
open _root_.Option.some renaming injEq->BF
open _root_.And renaming intro->DJ
open Go.Value renaming ownBlock->DK,slice->FV
open Go.Obj renaming cells->FW
open Go renaming World->FX,Value->FZ,Calls->G5
open _root_.Option renaming none->G6,some->G8
variable{α:Type}{W w V:FX}{B k c ka kn kr i:Nat}{v vd vl vn vs vw vN x0 x1 x2 x3 x4 x5 x6 x7 x8 x9 vd0 vl0 vn0 vs0 vw0:FZ}{up up0:Bool}{id ep dn z E id0 ep0 dn0 z0:Int}{s:Sv}{N:List Nt}{x:GV}{xs ts:List GV}{e:Ending}{a:Option Addr}
noncomputable def XJ(s:Sv)(x:GV):List Wa:=if x.o=2 then mM (LG s.ws (YW s.tr x)) x.s else LG s.ws (YW s.tr x)
noncomputable def fQ(s:Sv)(x:GV):Sv:=⟨s.up,s.fs,s.id,s.ep,s.ts,s.dn,jI s.tr x,XJ s x⟩
theorem U9[Lay α]{xs:List α}{c:Array FZ}{T:TypeId}{fz:Nat×Nat}(h:I5 W B v xs)(hk:W.heap[k]?=G8 (FW c T fz))(hne:T≠Lay.ty α):v.ownBlock≠G8 k:=by
 intro e;rcases h with⟨rfl,_⟩|⟨g,cap,rfl,_,rest,h1,_⟩
 .simp[DK]at e
 .simp only[DK,BF]at e;subst e;rw[h1]at hk;simp at hk;exact hne hk.2.1.symm
theorem B34{β:Type}[Lay α][Lay β]{C:Nat}{u:FZ}{xs:List α}{ys:List β}(h:I5 W B u xs)(k:I5 W C v ys)(hne:Lay.ty α≠Lay.ty β):∀q,u.ownBlock=G8 q->G8 q≠v.ownBlock:=by
 intro q hq e;rcases h with⟨rfl,rfl⟩|⟨g,cap,rfl,_,rest,h1,_⟩
 .simp[DK]at hq
 .rcases k with⟨rfl,rfl⟩|⟨g',cap',rfl,_,rest',h1',_⟩
  .simp[DK]at e
  .simp only[DK,BF]at hq e;subst hq e;rw[h1]at h1';simp at h1';exact hne h1'.2
theorem SC[Lay α]{xs:List α}(h:I5 W B v xs)(hb:IB W k up vd id ep vl dn z vn vs vw)(hne:55≠Lay.ty α):v.ownBlock≠G8 k:=by
 unfold IB at hb;exact U9 h hb hne
structure CI(w W:FX)(ka kn kr:Nat)(s:Sv)(N:List Nt)(vd vl vn vs vw vN:FZ):Prop where
 box:IB W ka s.up vd s.id s.ep vl s.dn s.tr.z vn vs vw
 nb:W.heap[kn]?=G8 (FW #[vN] 34 (0,0))
 d:I5 W w.heap.size vd s.fs
 l:I5 W w.heap.size vl s.ts
 n:I5 W w.heap.size vn s.tr.ns
 i:I5 W w.heap.size vs s.tr.ss
 o:I5 W w.heap.size vw s.ws
 t:I5 W w.heap.size vN N
 below:B0 w W
 ha:w.heap.size<=ka
 hn:w.heap.size<=kn
 ne:ka≠kn
 r:IB W kr false (N0) 0 0 (N0) 0 0 (N0) (N0) (N0)
 r1:kr≠ka
 r2:kr≠kn
 hr:w.heap.size<=kr
theorem CI.next(h:CI w W ka kn kr s N vd vl vn vs vw vN)(hb:B0 W V):CI w V ka kn kr s N vd vl vn vs vw vN:=
 ⟨h.box.next hb,(hb.block kn (AL.1 h.nb).1).trans h.nb,h.d.next hb,h.l.next hb,h.n.next hb,h.i.next hb,h.o.next hb,h.t.next hb,GK h.below hb,h.ha,h.hn,h.ne,h.r.next hb,h.r1,h.r2,h.hr⟩
theorem QN[Lay α]{j:Nat}{xs:List α}(h:I5 W B v xs)(hb:IB W k up vd id ep vl dn z vn vs vw)(hne:55≠Lay.ty α)(u:FZ):I5 (W.setCell ⟨k,j,G6⟩ u) B v xs:=
 h.other (SC h hb hne) u
theorem CI.tree{vn' vs' vw':FZ}{t':Tr}{ws':List Wa}(h:CI w W ka kn kr s N vd vl vn vs vw vN)(hn':I5 W w.heap.size vn' t'.ns)(hs':I5 W w.heap.size vs' t'.ss)(hw':I5 W w.heap.size vw' ws'):
  CI w ((((W.setCell ⟨ka,6,G6⟩ (I0 t'.z)).setCell ⟨ka,7,G6⟩ vn').setCell ⟨ka,8,G6⟩ vs').setCell ⟨ka,9,G6⟩ vw') ka kn kr ⟨s.up,s.fs,s.id,s.ep,s.ts,s.dn,t',ws'⟩ N vd vl vn' vs' vw' vN:=by
 have b1:IB (W.setCell ⟨ka,6,G6⟩ (I0 t'.z)) ka s.up vd s.id s.ep vl s.dn t'.z vn vs vw:=GY (j:=6) _ h.box;have b2:IB ((W.setCell ⟨ka,6,G6⟩ (I0 t'.z)).setCell ⟨ka,7,G6⟩ vn') ka s.up vd s.id s.ep vl s.dn t'.z vn' vs vw:=GY (j:=7) _ b1;have b3:IB (((W.setCell ⟨ka,6,G6⟩ (I0 t'.z)).setCell ⟨ka,7,G6⟩ vn').setCell ⟨ka,8,G6⟩ vs') ka s.up vd s.id s.ep vl s.dn t'.z vn' vs' vw:=GY (j:=8) _ b2;have b4:IB ((((W.setCell ⟨ka,6,G6⟩ (I0 t'.z)).setCell ⟨ka,7,G6⟩ vn').setCell ⟨ka,8,G6⟩ vs').setCell ⟨ka,9,G6⟩ vw') ka s.up vd s.id s.ep vl s.dn t'.z vn' vs' vw':=GY (j:=9) _ b3;have keep:∀ {α:Type} [Lay α] {v:FZ} {xs:List α},I5 W w.heap.size v xs->55≠Lay.ty α->I5 ((((W.setCell ⟨ka,6,G6⟩ (I0 t'.z)).setCell ⟨ka,7,G6⟩ vn').setCell ⟨ka,8,G6⟩ vs').setCell ⟨ka,9,G6⟩ vw') w.heap.size v xs:=
  fun h0 hne=>QN (QN (QN (QN h0 h.box hne _) b1 hne _) b2 hne _) b3 hne _
 refine⟨b4,?_,keep h.d (by decide),keep h.l (by decide),keep hn' (by decide),keep hs' (by decide),keep hw' (by decide),keep h.t (by decide),(((h.below.setCell h.ha _).setCell h.ha _).setCell h.ha _).setCell h.ha _,h.ha,h.hn,h.ne,(((h.r.other h.r1).other h.r1).other h.r1).other h.r1,h.r1,h.r2,h.hr⟩;exact(BG _ _ _ _ (Ne.symm h.ne)).trans ((BG _ _ _ _ (Ne.symm h.ne)).trans ((BG _ _ _ _ (Ne.symm h.ne)).trans ((BG _ _ _ _ (Ne.symm h.ne)).trans h.nb)))
theorem CI.note{N':List Nt}{vN':FZ}(h:CI w W ka kn kr s N vd vl vn vs vw vN)(hg:W.grownBy V vN.ownBlock)(ho:I5 V w.heap.size vN' N'):
  CI w (V.setCell ⟨kn,0,G6⟩ vN') ka kn kr s N' vd vl vn vs vw vN':=by
 have na:G8 ka≠vN.ownBlock:=fun e=>SC h.t h.box (by decide) e.symm;have nn:G8 kn≠vN.ownBlock:=fun e=>U9 h.t h.nb (by decide) e.symm;have bV:IB V ka s.up vd s.id s.ep vl s.dn s.tr.z vn vs vw:=(hg.block ka h.box.lt na).trans h.box;have nV:V.heap[kn]?=G8 (FW #[vN] 34 (0,0)):=(hg.block kn (AL.1 h.nb).1 nn).trans h.nb;have keep:∀ {α:Type} [Lay α] {v:FZ} {xs:List α},I5 W w.heap.size v xs->Lay.ty α≠42->34≠Lay.ty α->I5 (V.setCell ⟨kn,0,G6⟩ vN') w.heap.size v xs:=fun h0 h1 h2=>by
  have k:=h0.grown hg (B34 h0 h.t h1);exact k.other (U9 k nV h2) _
 refine⟨bV.other h.ne,?_,keep h.d (by decide) (by decide),keep h.l (by decide) (by decide),keep h.n (by decide) (by decide),keep h.i (by decide) (by decide),keep h.o (by decide) (by decide),ho.other (U9 ho nV (by decide)) _,(h.below.grown hg h.below.size (fun g e=>?_)).setCell h.hn _,h.ha,h.hn,h.ne,IB.other ((hg.block kr h.r.lt (fun e=>SC h.t h.r (by decide) e.symm)).trans h.r) h.r2,h.r1,h.r2,h.hr⟩
 .rw[GY _ nV];rfl
 .rcases h.t with⟨e1,_⟩|⟨g',cap,e1,hB,_⟩
  .rw[e1]at e;simp[DK]at e
  .rw[e1]at e;simp only[DK,BF]at e;omega
theorem IQ[Lay α]{xs:List α}(h:I5 W B v xs):∃a c,v=FV a xs.length c:=by
 obtain⟨a,c,e,_⟩:=h.slice;exact⟨a,c,e⟩
theorem B35(W:FX)(ty:TypeId)(B C:Nat)(v u:FZ)(N T:List Nt)(hv:I5 W B v N)(hu:I5 W C u T)(hl:(N.length+T.length)*32<=140737488355328)(hB:B<=W.heap.size):
  ∃v' w',(Builtin.append_ #[34,34] ty #[v,u]).run prog W=.ok v' w'/\I5 w' B v' (N++T)/\W.grownBy w' v.ownBlock:=by
 obtain⟨i0,hi0,hz0,hz1,hz2⟩:=AJ1;rcases hu with⟨rfl,rfl⟩|⟨g,cap,rfl,_,hr⟩
 .refine⟨v,W,run_append_owned_none (P:=prog) (w:=W) B 34 ty 42 i0 3 underlying34 hi0 v N.length (GL N) hv.row,by rw[DV];exact hv,⟨rfl,rfl,rfl,AA _,fun _ _ _=>rfl⟩⟩
 .obtain⟨v',w',h1,h2,h3,_⟩:=run_append_own (P:=prog) W B 34 ty 42 i0 _ 3 32 underlying34 hi0 hz0 hz1 hz2 rfl (by decide) v N.length (GL N) hv.row ⟨g,0,G6⟩ T.length cap (GL T) (GX T) (fun j x hj=>by rw[Addr.add_lit];exact hr.row j x hj) (JK T) (by simp only[maxLen];omega) hl hB;exact⟨v',w',h1,I5.LD (by rw[AP,I8];exact h2),h3⟩
theorem fU{w:FX}{ops:Array Oper}{rest:List Oper}{o:Oper}{a:Act}{Q:Exit->Act->FX->Prop}(hgd:o.guard=G6)(s x:Operand)
  (ho:o.op=.call {callee:=.builtin .append,args:=#[s,x],argTypes:=#[34,34]})
  (B C:Nat) (v u:FZ) (N T:List Nt) (hs:a.eval s=v) (hx:a.eval x=u) (hv:I5 w B v N) (hu:I5 w C u T) (hl:(N.length+T.length)*32<=140737488355328) (hB:B<=w.heap.size)
  (h:∀a' c' w',I5 w' B (FV a' (N++T).length c') (N++T)->w.grownBy w' v.ownBlock->wpList prog ops Q rest (a.put o.dst (FV a' (N++T).length c')) w'):wpList prog ops Q (o::rest) a w:=by
 refine wpList_plain hgd fun K hK=>?_;obtain⟨v',w',hr,h2,h3⟩:=B35 w o.type B C v u N T hv hu hl hB;obtain⟨a',c',rfl⟩:=IQ h2;unfold Oper.wp execOp;simp only[ho,resolve,invoke,builtin,Sem.run_bind,Sem.run_pure,Result.andThen_ok,List.map_toArray,List.map_cons,List.map_nil,hs,hx,hr];exact hK _ _ (h a' c' w' h2 h3)
theorem oJ{T:List Nt}(h:I5 W B v T)(hb:IB W ka up vd id ep vl dn z vn vs vw)(x6 x7 x8 x9:FZ):I5 ((((W.setCell ⟨ka,6,G6⟩ x6).setCell ⟨ka,7,G6⟩ x7).setCell ⟨ka,8,G6⟩ x8).setCell ⟨ka,9,G6⟩ x9) B v T:=by
 have hk:=SC h hb (by decide);exact(((h.other hk x6).other hk x7).other hk x8).other hk x9
structure CFit(s:Sv)(N:List Nt)(x:GV):Prop where
 wf:WfT s.tr
 xd:x.d.length<=140737488355328
 xp:x.p.length<=140737488355328
 sh:mP s.ws
 wl:s.ws.length*32<=140737488351232
 nl:(N.length+s.ws.length)*32<=140737488351232
def CV0(w W w':FX)(ka kn kr:Nat)(s:Sv)(N:List Nt)(x:GV)(E:Int)(T:Tr)(V:List Ev)(SW:List Wa):Prop:=
 B0 w w'/\(E≠0->B0 W w')/\
 (E=0->∃ad nd cd al cl an cn ai ci aw cw aN cN,CI w w' ka kn kr (fQ s x) (N++PI s.ws V) (FV ad nd cd) (FV al s.ts.length cl) (FV an T.ns.length cn) (FV ai T.ss.length ci) (FV aw SW.length cw) (FV aN (N.length+(PI s.ws V).length) cN))
theorem ZQ{ws:List Wa}(h:mP ws)(es:List Ev):mP (LG ws es):=fun x hx=>h x (AX9 ws es x hx)
theorem AN0{t:Tr}(hw:WfT t)(hp:x.p.length<=140737488355328):BX0 (YW t x):=by
 have hdl:∀p:List UInt8,(IL p).length<=140737488355328:=fun p=>by have:=WZ p;omega
 intro e he;by_cases h:YR t x=0
 .rw[YW,if_pos h,qK]at he;by_cases h2:x.o=2
  .rw[if_pos h2]at he;obtain⟨q,hq,he⟩:=List.mem_flatMap.1 he;obtain⟨n,hn,rfl⟩:=List.mem_map.1 hq;have hn':=hw.CJ8 n (EK.1 hn).1;simp only[BR,List.not_mem_nil,or_false]at he;rcases he with rfl|rfl
   .exact hn'.1
   .exact hdl _
  .rw[if_neg h2]at he;by_cases h3:x.o=3
   .rw[if_pos h3]at he;simp only[BR,List.not_mem_nil,or_false]at he;rcases he with rfl|rfl
    .exact hp
    .exact hdl _
   .rw[if_neg h3]at he;by_cases h4:x.o=4
    .rw[if_pos h4]at he;simp only[BR,List.not_mem_nil,or_false]at he;rcases he with rfl|rfl
     .exact hp
     .exact hdl _
    .rw[if_neg h4]at he;by_cases h5:x.o=5
     .rw[if_pos h5]at he;simp only[BR,List.not_mem_nil,or_false]at he;subst he;exact hp
     .rw[if_neg h5]at he;simp at he
 .rw[YW,if_neg h]at he;simp at he
theorem A28(w W:FX)(ka kn kr:Nat)(s:Sv)(N:List Nt)(x:GV)(ad al an ai aw aN:Option Addr)(nd cd cl cn ci cw cN:Nat)
  (h:CI w W ka kn kr s N (FV ad nd cd) (FV al s.ts.length cl) (FV an s.tr.ns.length cn) (FV ai s.tr.ss.length ci) (FV aw s.ws.length cw) (FV aN N.length cN)) (hf:CFit s N x):
  G5 prog 122 #[JC x,P0 ka,P0 kn] W fun e w'=>e=.returned (I0 (YR s.tr x))/\CV0 w W w' ka kn kr s N x (YR s.tr x) (jI s.tr x) (YW s.tr x) (XJ s x):=by
 have h1:=h.next (GI W (FW #[I0 x.z,I0 x.o,I0 x.s,S0 x.p,S0 x.d,I0 x.v,I0 x.w] 59));have T1:=TAt.new W x;have CA:=GH (fun vn vs V (h2:IV V vn s.tr.ns) (h3:IV V vs s.tr.ss)=>wW s.tr vn vs x V h2 h3 hf.wf hf.xd);have CFi:=GH (fun v u V (h2:IV V v s.ws) (h3:IV V u (YW s.tr x))=>BM5 v u s.ws (YW s.tr x) V h2 h3 hf.sh (AN0 hf.wf hf.xp) hf.wl (B28 s.tr x).2.2);have hfl:=iE (YW s.tr x) s.ws;have CD:=GH (fun v V (h2:IV V v (LG s.ws (YW s.tr x)))=>BM6 v x.s (LG s.ws (YW s.tr x)) V h2 (ZQ hf.sh _) (by have:=hf.wl;omega));have HNL:Hid ((N.length+(PI s.ws (YW s.tr x)).length)*32<=140737488355328):=GH (by have:=hf.nl;omega);have HSW:Hid ((x.o=2->XJ s x=mM (LG s.ws (YW s.tr x)) x.s)/\(x.o≠2->XJ s x=LG s.ws (YW s.tr x))):=GH ⟨fun e=>by simp[XJ,e],fun e=>by simp[XJ,e]⟩;have HC1:=GH h1;have HBA:=GH (GI W (FW #[I0 x.z,I0 x.o,I0 x.s,S0 x.p,S0 x.d,I0 x.v,I0 x.w] 59));have HT1:=GH T1;have HSS:Hid (fQ s x=⟨s.up,s.fs,s.id,s.ep,s.ts,s.dn,jI s.tr x,XJ s x⟩):=GH rfl;obtain⟨x0,x1,x2,x3,x4,x5,x6,x7,x8,x9⟩:=h1.box.cells;have t0:=T1.c0;have t1:=T1.c1;have t2:=T1.c2;have t3:=T1.c3;have t4:=T1.c4;have t5:=T1.c5;have t6:=T1.c6;unfold bM at CA;clear h h1 T1 hf hfl;obtain⟨z,o,u,p,d,y,v⟩:=x;generalize YR s.tr ⟨z,o,u,p,d,y,v⟩=E at*;generalize jI s.tr ⟨z,o,u,p,d,y,v⟩=T at*;generalize YW s.tr ⟨z,o,u,p,d,y,v⟩=V at*;generalize XJ s ⟨z,o,u,p,d,y,v⟩=SW at*;unfold JC at*;simp only at*;go_enter func122,ntmps122;go_upto_region 1 with fail;generalize W.alloc (FW #[I0 z,I0 o,I0 u,S0 p,S0 d,I0 y,I0 v] 59)=W1 at*;obtain⟨kx,hkx⟩:∃kx,W.heap.size=kx:=⟨_,rfl⟩;rw[hkx];rw[hkx]at t0 t1 t2 t3 t4 t5 t6 HT1;clear hkx;go_wp2_with fail;refine(G9 CA _ _ _ (G9 HC1).n.seq (G9 HC1).i.seq).mono ?_;rintro e w2 ⟨vn2,vs2,ve2,rfl,on2,oi2,oe2,hb2⟩;obtain⟨bn,fn,rfl⟩:=IQ on2;obtain⟨bi,fi,rfl⟩:=IQ oi2;obtain⟨be,fe,rfl⟩:=IQ oe2;have hal:=GI w2 (FW #[I0 T.z,FV bn T.ns.length fn,FV bi T.ss.length fi] 52);have HC2:=GH (((G9 HC1).next hb2).next hal);have HT2:=GH (((G9 HT1).next hb2).next hal);have HZ1:=(G9 HC1).below.size;have HBE:=GH (GK (GK (G9 HBA) hb2) hal);have HON:=GH ((on2.next hal).lower HZ1);have HOI:=GH ((oi2.next hal).lower HZ1);have HOE:=GH (oe2.next hal);have HTB:Hid ((w2.alloc (FW #[I0 T.z,FV bn T.ns.length fn,FV bi T.ss.length fi] 52)).heap[w2.heap.size]?=G8 (FW #[I0 T.z,FV bn T.ns.length fn,FV bi T.ss.length fi] 52 (0,0))):=GH (heap_alloc_new w2 _);clear on2 oi2 oe2 hb2 hal HZ1 HC1 HT1 CA x0 x1 x2 x3 x4 x5 x6 x7 x8 x9 t0 t1 t2 t3 t4 t5 t6;go_upto_region 2 with fail;generalize w2.heap.size=kt at*;generalize w2.alloc (FW #[I0 T.z,FV bn T.ns.length fn,FV bi T.ss.length fi] 52)=W2 at*;by_cases hE:E=0
 .subst hE;obtain⟨x0,x1,x2,x3,x4,x5,x6,x7,x8,x9⟩:=(G9 HC2).box.cells;go_wp2_with fail;refine(G9 CFi _ _ _ (G9 HC2).o.seq (G9 HOE).seq).mono ?_;rintro e w3 ⟨vn3,vl3,rfl,on3,⟨g3,rfl,hg3,or3⟩,hb3⟩;obtain⟨bN,fN,rfl⟩:=IQ on3;have HC3:=GH ((G9 HC2).next hb3);have hz2:=(G9 HC2).below.size;have CS5:=GH ((G9 HON).next hb3);have CS6:=GH ((G9 HOI).next hb3);have HT3:=(G9 HT2).next hb3;have CK1:=GH ((hb3.block kt (AL.1 (G9 HTB)).1).trans (G9 HTB));have CS7:=GH (on3.lower hz2);have CS8:Hid (I5 w3 w.heap.size (FV (G8 ⟨g3,0,G6⟩) (LG s.ws V).length (s.ws.length+1)) (LG s.ws V)):=GH (.inr ⟨g3,_,rfl,by omega,or3⟩);have t1:=HT3.c1;have t2:=HT3.c2;simp only at t1 t2;clear on3 hg3 or3 hb3 hz2 HC2 HON HOI HT2 HTB HOE CFi x0 x1 x2 x3 x4 x5 x6 x7 x8 x9 HT3;by_cases ho:o=2
  .have hsw:=(G9 HSW).1 ho;subst hsw;subst ho;go_wp2_with fail;refine(G9 CD _ _ (G9 CS8).seq).mono ?_;rintro e w4 ⟨g4,rfl,hg4,or4,hb4⟩;have hz3:=(G9 HC3).below.size;have HCX:=GH ((G9 HC3).next hb4);have CK2:=GH ((G9 CS5).next hb4);have CK3:=GH ((G9 CS6).next hb4);have BM7:=GH ((hb4.block kt (AL.1 (G9 CK1)).1).trans (G9 CK1));have CK4:=GH ((G9 CS7).next hb4);have CK5:Hid (I5 w4 w.heap.size (FV (G8 ⟨g4,0,G6⟩) (mM (LG s.ws V) u).length ((LG s.ws V).length+1)) (mM (LG s.ws V) u)):=GH (.inr ⟨g4,_,rfl,by omega,or4⟩);clear hg4 or4 hb4 hz3 HC3 CS5 CS6 CK1 CS7 CS8 CD t1 t2;have HTR:=GH ((G9 HCX).tree (t':=T) (vn':=FV bn T.ns.length fn) (vs':=FV bi T.ss.length fi) (G9 CK2) (G9 CK3) (G9 CK5));obtain⟨x0,x1,x2,x3,x4,x5,x6,x7,x8,x9⟩:=(G9 HCX).box.cells;have xf6:=(G9 HCX).box.H6 6;have xf7:=(G9 HCX).box.H6 7;have xf8:=(G9 HCX).box.H6 8;have xf9:=(G9 HCX).box.H6 9;have k0:w4.cell? ⟨kt,0,G6⟩=G8 (I0 T.z):=by simp[AX,G9 BM7]
   have k1:w4.cell? ⟨kt,1,G6⟩=G8 (FV bn T.ns.length fn):=by simp[AX,G9 BM7]
   have k2:w4.cell? ⟨kt,2,G6⟩=G8 (FV bi T.ss.length fi):=by simp[AX,G9 BM7]
   go_upto_region 8 with fail;have CV1:=GH (oJ (G9 CK4) (G9 HCX).box (I0 T.z) (FV bn T.ns.length fn) (FV bi T.ss.length fi) (FV (G8 ⟨g4,0,G6⟩) (mM (LG s.ws V) u).length ((LG s.ws V).length+1)));generalize (((w4.setCell ⟨ka,6,G6⟩ (I0 T.z)).setCell ⟨ka,7,G6⟩ (FV bn T.ns.length fn)).setCell ⟨ka,8,G6⟩ (FV bi T.ss.length fi)).setCell ⟨ka,9,G6⟩ (FV (G8 ⟨g4,0,G6⟩) (mM (LG s.ws V) u).length ((LG s.ws V).length+1))=W5 at*;clear x0 x1 x2 x3 x4 x5 x6 x7 x8 x9 xf6 xf7 xf8 xf9 k0 k1 k2 HCX CK2 CK3 CK5 CK4 BM7;have n0:W5.cell? ⟨kn,0,G6⟩=G8 (FV aN N.length cN):=by simp[AX,(G9 HTR).nb]
   go_wp2_with (at_builtin;refine fU rfl _ _ rfl w.heap.size w.heap.size (FV aN N.length cN) _ N (PI s.ws V) rfl rfl (G9 HTR).t (G9 CV1) (G9 HNL) (G9 HTR).below.size ?_);intro a6 c6 w6 ho6 hg6;have HFI:=GH ((G9 HTR).note hg6 ho6);have m0:w6.cell? ⟨kn,0,G6⟩=G8 (FV aN N.length cN):=hg6.cell n0 (fun e=>U9 (G9 HTR).t (G9 HTR).nb (by decide) e.symm);have mf:w6.frozen? ⟨kn,0,G6⟩=false:=by
    have:=(hg6.block kn (AL.1 (G9 HTR).nb).1 (fun e=>U9 (G9 HTR).t (G9 HTR).nb (by decide) e.symm)).trans (G9 HTR).nb;simp[FC,this]
   clear ho6 hg6 n0;go_wp2_with fail;go_ret;exact⟨rfl,(G9 HFI).below,fun h=>absurd rfl h,fun _=>⟨ad,nd,cd,al,cl,bn,fn,bi,fi,(G8 ⟨g4,0,G6⟩),((LG s.ws V).length+1),a6,c6,by rw[G9 HSS];exact G9 HFI⟩⟩
  .have hsw:=(G9 HSW).2 ho;subst hsw;have HCX:=HC3;have CK2:=CS5;have CK3:=CS6;have BM7:=CK1;have CK4:=CS7;have CK5:=CS8;clear HC3 CS5 CS6 CK1 CS7 CS8 CD;have HTR:=GH ((G9 HCX).tree (t':=T) (vn':=FV bn T.ns.length fn) (vs':=FV bi T.ss.length fi) (G9 CK2) (G9 CK3) (G9 CK5));obtain⟨x0,x1,x2,x3,x4,x5,x6,x7,x8,x9⟩:=(G9 HCX).box.cells;have xf6:=(G9 HCX).box.H6 6;have xf7:=(G9 HCX).box.H6 7;have xf8:=(G9 HCX).box.H6 8;have xf9:=(G9 HCX).box.H6 9;have k0:w3.cell? ⟨kt,0,G6⟩=G8 (I0 T.z):=by simp[AX,G9 BM7]
   have k1:w3.cell? ⟨kt,1,G6⟩=G8 (FV bn T.ns.length fn):=by simp[AX,G9 BM7]
   have k2:w3.cell? ⟨kt,2,G6⟩=G8 (FV bi T.ss.length fi):=by simp[AX,G9 BM7]
   go_upto_region 8 with fail;have CV1:=GH (oJ (G9 CK4) (G9 HCX).box (I0 T.z) (FV bn T.ns.length fn) (FV bi T.ss.length fi) (FV (G8 ⟨g3,0,G6⟩) (LG s.ws V).length (s.ws.length+1)));generalize (((w3.setCell ⟨ka,6,G6⟩ (I0 T.z)).setCell ⟨ka,7,G6⟩ (FV bn T.ns.length fn)).setCell ⟨ka,8,G6⟩ (FV bi T.ss.length fi)).setCell ⟨ka,9,G6⟩ (FV (G8 ⟨g3,0,G6⟩) (LG s.ws V).length (s.ws.length+1))=W5 at*;clear x0 x1 x2 x3 x4 x5 x6 x7 x8 x9 xf6 xf7 xf8 xf9 k0 k1 k2 HCX CK2 CK3 CK5 CK4 BM7;have n0:W5.cell? ⟨kn,0,G6⟩=G8 (FV aN N.length cN):=by simp[AX,(G9 HTR).nb]
   go_wp2_with (at_builtin;refine fU rfl _ _ rfl w.heap.size w.heap.size (FV aN N.length cN) _ N (PI s.ws V) rfl rfl (G9 HTR).t (G9 CV1) (G9 HNL) (G9 HTR).below.size ?_);intro a6 c6 w6 ho6 hg6;have HFI:=GH ((G9 HTR).note hg6 ho6);have m0:w6.cell? ⟨kn,0,G6⟩=G8 (FV aN N.length cN):=hg6.cell n0 (fun e=>U9 (G9 HTR).t (G9 HTR).nb (by decide) e.symm);have mf:w6.frozen? ⟨kn,0,G6⟩=false:=by
    have:=(hg6.block kn (AL.1 (G9 HTR).nb).1 (fun e=>U9 (G9 HTR).t (G9 HTR).nb (by decide) e.symm)).trans (G9 HTR).nb;simp[FC,this]
   clear ho6 hg6 n0;go_wp2_with fail;go_ret;exact⟨rfl,(G9 HFI).below,fun h=>absurd rfl h,fun _=>⟨ad,nd,cd,al,cl,bn,fn,bi,fi,(G8 ⟨g3,0,G6⟩),(s.ws.length+1),a6,c6,by rw[G9 HSS];exact G9 HFI⟩⟩
 .go_wp2_with fail;go_ret;exact⟨rfl,(G9 HC2).below,fun _=>G9 HBE,fun h=>absurd h hE⟩
noncomputable def stP(p:Sv×List Nt)(x:GV):Sv×List Nt:=(fQ p.1 x,p.2++PI p.1.ws (YW p.1.tr x))
noncomputable def csP(s:Sv)(xs:List GV)(i:Nat):Sv×List Nt:=(xs.take i).foldl stP (s,[])
theorem rM(s:Sv)(xs:List GV):csP s xs 0=(s,[]):=by simp[csP]
theorem AC0(h:xs[i]?=G8 x):csP s xs (i+1)=stP (csP s xs i) x:=by
 unfold csP;rw[QC h,List.foldl_append];rfl
structure Chn(s:Sv)(xs:List GV)(k:Nat):Prop where
 le:k<=xs.length
 ok:∀i x,i<k->xs[i]?=G8 x->YR (csP s xs i).1.tr x=0
 stop:∀x,xs[k]?=G8 x->YR (csP s xs k).1.tr x≠0
structure BM8(s:Sv)(xs:List GV):Prop where
 wf:WfT s.tr
 sh:mP s.ws
 wl:s.ws.length*32<=140737488351232
 xd:∀x∈xs,x.d.length<=140737488355328
 xp:∀x∈xs,x.p.length<=140737488355328
theorem xB(ws:List Wa)(s:Int):(mM ws s).length<=ws.length:=List.length_filter_le _ _
theorem BX4(hB:BM8 s xs)(h:Chn s xs k):∀i,i<=k->
  (WfT (csP s xs i).1.tr/\mP (csP s xs i).1.ws/\(csP s xs i).2.length+(csP s xs i).1.ws.length<=s.ws.length)/\
  ((csP s xs i).1.up=s.up/\(csP s xs i).1.fs=s.fs/\(csP s xs i).1.id=s.id/\(csP s xs i).1.ep=s.ep/\(csP s xs i).1.ts=s.ts/\(csP s xs i).1.dn=s.dn):=by
 intro i
 induction i with
 |zero=>
  intro _;rw[rM];exact⟨⟨hB.wf,hB.sh,by simp⟩,rfl,rfl,rfl,rfl,rfl,rfl⟩
 |succ i ih=>
  intro hi;obtain⟨⟨a1,a2,a3⟩,b1,b2,b3,b4,b5,b6⟩:=ih (by omega);obtain⟨x,hx⟩:∃x,xs[i]?=G8 x:=⟨_,AO (by have:=h.le;omega)⟩;have h0:=h.ok i x (by omega) hx;rw[AC0 hx];generalize csP s xs i=c at*;have hl:=iE (YW c.1.tr x) c.1.ws;refine⟨⟨(aT h0).1.wf,?_,?_⟩,b1,b2,b3,b4,b5,b6⟩
  .show mP (XJ c.1 x);unfold XJ
   split
   .exact fun y hy=>ZQ a2 _ y (EK.1 hy).1
   .exact ZQ a2 _
  .show (c.2++PI c.1.ws (YW c.1.tr x)).length+(XJ c.1 x).length<=s.ws.length;have:(XJ c.1 x).length<=(LG c.1.ws (YW c.1.tr x)).length:=by
    unfold XJ
    split
    .exact xB _ _
    .exact AA _
   rw[AP];omega
theorem C49(hB:BM8 s xs)(h:Chn s xs k)(hi:i<=k)(hx:xs[i]?=G8 x):CFit (csP s xs i).1 (csP s xs i).2 x:=by
 obtain⟨⟨a1,a2,a3⟩,_⟩:=BX4 hB h i hi;have hm:=List.mem_of_getElem? hx;have:=hB.wl;exact⟨a1,hB.xd x hm,hB.xp x hm,a2,by omega,by omega⟩
def CV4(s:Sv)(t:GV)(safe:Bool)(E:Int)(s':Sv):Prop:=
 (t.z<=J7 s.ts/\E=13/\s'=sv0)\/(¬t.z<=J7 s.ts/\E≠0/\s'=sv0/\∃d1,NT 152 (fun x=>#[x,JC t,.bool safe]) s.fs d1 E)\/
 (¬t.z<=J7 s.ts/\E=0/\∃d1,s'=⟨s.up,d1,s.id,s.ep,s.ts++[t],s.dn,s.tr,s.ws⟩/\ZA 152 (fun x=>#[x,JC t,.bool safe]) s.fs d1 0)
def CL5(w:FX)(q:Nat)(s:Sv)(E:Int)(e:Ending)(w':FX):Prop:=
 ∃ad nd cd al nl cl an nn cn ai ni ci aw nw cw,e=.returned (.tuple #[.agg #[.bool s.up,FV ad nd cd,I0 s.id,I0 s.ep,FV al nl cl,I0 s.dn,I0 s.tr.z,FV an nn cn,FV ai ni ci,FV aw nw cw],I0 E])/\
  Hid (IY w' (FV ad nd cd) s.fs/\NQ w' (FV al nl cl) s.ts/\IV w' (FV an nn cn) s.tr.ns/\IV w' (FV ai ni ci) s.tr.ss/\TM (FV ai ni ci) q/\IV w' (FV aw nw cw) s.ws/\OA w.heap.size (FV ai ni ci))/\B0 w w'
theorem oQ{w':FX}{q:Nat}(he:e=.returned (.tuple #[svZ,I0 E]))(hb:B0 w w'):CL5 w q sv0 E e w':=
 ⟨G6,0,0,G6,0,0,G6,0,0,G6,0,0,G6,0,0,he,GH ⟨IY.nil _,NQ.nil _,IV.nil _,IV.nil _,wJ _ _ _,IV.nil _,UU _ _ _⟩,hb⟩
theorem LJ[Lay α]{xs:List α}(h:I5 W B v xs):OA B v:=by
 intro b off n c e;rcases h with⟨rfl,_⟩|⟨g,cap,rfl,hB,_⟩
 .simp at e
 .simp only[AQ,BF,Addr.mk.injEq]at e;omega
def eX(w:FX)(s:Sv)(E:Int)(e:Ending)(w':FX):Prop:=
 ∃ad nd cd al nl cl an nn cn ai ni ci aw nw cw,e=.returned (.tuple #[.agg #[.bool s.up,FV ad nd cd,I0 s.id,I0 s.ep,FV al nl cl,I0 s.dn,I0 s.tr.z,FV an nn cn,FV ai ni ci,FV aw nw cw],I0 E])/\
  Hid (SvV w' (.agg #[.bool s.up,FV ad nd cd,I0 s.id,I0 s.ep,FV al nl cl,I0 s.dn,I0 s.tr.z,FV an nn cn,FV ai ni ci,FV aw nw cw]) s/\OA w.heap.size (FV ai ni ci))/\B0 w w'
theorem PX[Lay α]{F:Nat->Prop}{xs:List α}(h:I5 W B v xs)(ht:Touch F W V)(hf:∀k,v.ownBlock=G8 k->¬F k):I5 V B v xs:=by
 rcases h with h|⟨g,cap,rfl,hB,h⟩
 .exact .inl h
 .obtain⟨rest,h1,h2⟩:=h;have hlt:=(AL.1 h1).1;exact .inr ⟨g,cap,rfl,hB,rest,(ht.block g hlt (hf g rfl)).trans h1,h2⟩
theorem QY[Lay α]{xs:List α}(h:I5 W B v xs)(hk:v.ownBlock=G8 k):B<=k:=by
 rcases h with⟨rfl,_⟩|⟨g,cap,rfl,hB,_⟩
 .simp[DK]at hk
 .simp[DK]at hk;omega
def FrT(w:FX)(e:Ending):Prop:=∀x0 x1 x2 x3 x4 x5 x6 x7 x8 x9 z:FZ,e=.returned (.tuple #[.agg #[x0,x1,x2,x3,x4,x5,x6,x7,x8,x9],z])->OA w.heap.size x1/\OA w.heap.size x4/\OA w.heap.size x7/\OA w.heap.size x9
theorem BX9{z:FZ}(h:OA w.heap.size x1/\OA w.heap.size x4/\OA w.heap.size x7/\OA w.heap.size x9):FrT w (.returned (.tuple #[.agg #[x0,x1,x2,x3,x4,x5,x6,x7,x8,x9],z])):=by
 intro u0 u1 u2 u3 u4 u5 u6 u7 u8 u9 t e;simp only[Ending.returned.injEq,Value.tuple.injEq,Value.agg.injEq,Array.mk.injEq,List.cons.injEq]at e;obtain⟨⟨_,rfl,_,_,rfl,_,_,rfl,_,rfl,_⟩,_⟩:=e;exact h
theorem FrT.lower(h:FrT W e)(hw:w.heap.size<=W.heap.size):FrT w e:=fun _ _ _ _ _ _ _ _ _ _ _ he=>by
 obtain⟨h1,h2,h3,h4⟩:=h _ _ _ _ _ _ _ _ _ _ _ he;exact⟨h1.lower hw,h2.lower hw,h3.lower hw,h4.lower hw⟩
theorem AC7(he:e=.returned (.tuple #[svZ,I0 E])):FrT w e:=by
 rw[he];exact BX9 ⟨UU _ _ _,UU _ _ _,UU _ _ _,UU _ _ _⟩
theorem A33(s s':Sv)(t:GV)(safe:Bool)(E:Int)(hT:CV4 s t safe E s')(hp:t.p.length<=140737488355328)(hdl:t.d.length<=140737488355328)(hn:s.ts.length<=1000000000)(W w1:FX)(q:Nat)(hq:q<W.heap.size)
  (ad al an ai aw:Option Addr) (nd cd cl cn ci cw B1 B2:Nat) (h1:W.heap.size<=B1) (h2:B1<=B2) (od:I5 w1 W.heap.size (FV ad nd cd) s.fs) (_hd1:∀k,(Value.slice ad nd cd).ownBlock=G8 k->k<B1)
  (ol:I5 w1 B1 (FV al s.ts.length cl) s.ts) (hl2:∀k,(Value.slice al s.ts.length cl).ownBlock=G8 k->k<B2) (on:I5 w1 B2 (FV an s.tr.ns.length cn) s.tr.ns) (oi:I5 w1 B2 (FV ai s.tr.ss.length ci) s.tr.ss) (ow:I5 w1 B2 (FV aw s.ws.length cw) s.ws) (hb1:B0 W w1):
  G5 prog 102 #[.agg #[.bool s.up,FV ad nd cd,I0 s.id,I0 s.ep,FV al s.ts.length cl,I0 s.dn,I0 s.tr.z,FV an s.tr.ns.length cn,FV ai s.tr.ss.length ci,FV aw s.ws.length cw],JC t,.bool safe] w1 fun e w'=>CL5 W q s' E e w'/\FrT W e:=by
 have hd:=OU.1 od.seq;have hl:=MJ.1 ol.seq;rcases hT with⟨hz,rfl,rfl⟩|⟨hz,hE,rfl,d1,G⟩|⟨hz,rfl,d1,rfl,G⟩
 .exact(B51 s.up s.id s.ep s.dn s.tr.z s.fs s.ts t safe _ _ an ai aw _ cn _ ci _ cw w1 hd hl hz).mono fun e w' h=>⟨oQ h.1 (GK hb1 h.2),AC7 h.1⟩
 .exact(C61 s.up s.id s.ep s.dn s.tr.z s.fs s.ts t safe _ _ an ai aw _ cn _ ci _ cw w1 hd hl hz E d1 hE G).mono fun e w' h=>⟨oQ h.1 (GK hb1 h.2),AC7 h.1⟩
 .refine(B53 s.up s.id s.ep s.dn s.tr.z s.fs s.ts t safe _ _ an ai aw _ cn _ ci _ cw w1 hd hl hz d1 W.heap.size hb1.size (ol.lower h1) hn hp hdl G).mono fun e w' h=>?_;obtain⟨⟨a,n,c,a2,c2,he,hd',ol',_,ht⟩,hfd⟩:=h;have hs:∀ {α:Type} [Lay α] {v:FZ} {xs:List α},I5 w1 B2 v xs->I5 w' B2 v xs:=fun ho=>PX ho ht (fun k hk hf=>by have:=QY ho hk;have:=hl2 k hf;omega);refine⟨⟨a,n,c,a2,_,c2,an,_,cn,ai,_,ci,aw,_,cw,he,GH ⟨hd',MJ.1 ol'.seq,(hs on).seq,(hs oi).seq,VL oi (by omega),(hs ow).seq,(LJ oi).lower (by omega)⟩,?_⟩,?_⟩;rotate_left
  .have f1:=hfd _ _ _ _ _ _ _ _ _ _ _ he;rw[he];exact BX9 ⟨f1.lower hb1.size,LJ ol',(LJ on).lower (by omega),(LJ ow).lower (by omega)⟩
  exact hb1.trans (ht.below (B:=W.heap.size) hb1.size (fun k hk=>by have:=QY ol hk;omega))
theorem A34(s s':Sv)(v:FZ)(t:GV)(safe:Bool)(E:Int)(w:FX)(hv:SvV w v s)(hf:BX2 s)(hT:CV4 s t safe E s')(hp:t.p.length<=140737488355328)(hdl:t.d.length<=140737488355328)(hn:s.ts.length<=1000000000):
  G5 prog 81 #[v,JC t,.bool safe] w fun e w'=>eX w s' E e w'/\FrT w e:=by
 have CC:=GH (fun W (hW:B0 w W)=>ZN s v W (hv.next hW) hf);have CX:=GH (A33 s s' t safe E hT hp hdl hn);obtain⟨ad,nd,cd,al,cl,an,cn,ai,ci,aw,cw,rfl,d1,l1,n1,s1,k1⟩:=hv.five;clear hv d1 l1 n1 s1 k1 hf hT hp hdl hn;obtain⟨up,fs,id,ep,ts,dn,⟨tz,tns,tss⟩,ws⟩:=s;obtain⟨z,o,s,p,d,y,u⟩:=t;unfold JC at*;simp only at*;go_enter func81,ntmps81;go_upto_region 1 with fail;have X:=GH (EB.start w up id ep dn tz (FV ad nd cd) (FV al ts.length cl) (FV an tns.length cn) (FV ai tss.length ci) (FV aw ws.length cw) ⟨z,o,s,p,d,y,u⟩);have HB0:=GH (EB.AC6 w (FW #[.bool up,FV ad nd cd,I0 id,I0 ep,FV al ts.length cl,I0 dn,I0 tz,FV an tns.length cn,FV ai tss.length ci,FV aw ws.length cw] 55) (FW #[I0 z,I0 o,I0 s,S0 p,S0 d,I0 y,I0 u] 59) (FW #[.bool false,N0,I0 0,I0 0,N0,I0 0,I0 0,N0,N0,N0] 55));simp only at X;generalize ((w.alloc (FW #[.bool up,FV ad nd cd,I0 id,I0 ep,FV al ts.length cl,I0 dn,I0 tz,FV an tns.length cn,FV ai tss.length ci,FV aw ws.length cw] 55)).alloc (FW #[I0 z,I0 o,I0 s,S0 p,S0 d,I0 y,I0 u] 59)).alloc (FW #[.bool false,N0,I0 0,I0 0,N0,I0 0,I0 0,N0,N0,N0] 55)=W0 at*;have K1:∀V,B0 W0 V->V.cell? ⟨w.heap.size+1,0,G6⟩=G8 (I0 z)/\V.cell? ⟨w.heap.size+1,1,G6⟩=G8 (I0 o)/\V.cell? ⟨w.heap.size+1,2,G6⟩=G8 (I0 s)/\V.cell? ⟨w.heap.size+1,3,G6⟩=G8 (S0 p)/\V.cell? ⟨w.heap.size+1,4,G6⟩=G8 (S0 d)/\V.cell? ⟨w.heap.size+1,5,G6⟩=G8 (I0 y)/\V.cell? ⟨w.heap.size+1,6,G6⟩=G8 (I0 u):=fun V hV=>by
  have h:=((G9 X).next hV).x;exact⟨h.c0,h.c1,h.c2,h.c3,h.c4,h.c5,h.c6⟩
 have HK1:=GH K1;obtain⟨x0,x1,x2,x3,x4,x5,x6,x7,x8,x9⟩:=(G9 X).s.cells;obtain⟨e0,e1,e2,e3,e4,e5,e6⟩:=K1 W0 (AB _ _);have hq:=(G9 X).lt;clear K1
 go_region_with (first
  |(go_at_call 101;refine(G9 CC _ (G9 HB0).drew).mono ?_;rintro e w1 ⟨bd,md,fd,bl,fl,bn,fn,bi,fi,bw,fw,B1,B2,rfl,h1,h2,od,hd1,ol,hl2,on,oi,ow,hb1⟩;have HB1:=GH (IG hb1);obtain⟨m0,m1,m2,m3,m4,m5,m6⟩:=G9 HK1 _ (G9 HB1);have CY:=GH (G9 CX _ _ (w.heap.size+1+1) (by show w.heap.size+1+1<W0.heap.size;omega) _ _ _ _ _ _ _ _ _ _ _ _ _ h1 h2 od hd1 ol hl2 on oi ow hb1);have X1:=GH ((G9 X).next (G9 HB1));clear h1 h2 od hd1 ol hl2 on oi ow hb1)
  |(go_at_call 102;refine(G9 CY).mono ?_;rintro e w2 ⟨⟨gd,nd2,cd2,gl,nl2,cl2,gn,nn2,cn2,gi,ni2,ci2,gw,nw2,cw2,rfl,H2,hb2⟩,hft⟩;have HFT:=GH hft;clear hft;have X2:=(G9 X).next (IG hb2);have R2:=X2.r;obtain⟨r0,r1,r2,r3,r4,r5,r6,r7,r8,r9⟩:=R2.cells;have rf0:=R2.H6 0;have rf1:=R2.H6 1;have rf2:=R2.H6 2;have rf3:=R2.H6 3;have rf4:=R2.H6 4;have rf5:=R2.H6 5;have rf6:=R2.H6 6;have rf7:=R2.H6 7;have rf8:=R2.H6 8;have rf9:=R2.H6 9;have D2:=GH R2.fK;have HB2:=GH (GK (G9 HB0) (IG hb2));clear hb2 R2 X2))
 all_goals
  go_wp2_with fail;refine bodyPost_ret (v:=.tuple #[.agg #[.bool s'.up,FV gd nd2 cd2,I0 s'.id,I0 s'.ep,FV gl nl2 cl2,I0 s'.dn,I0 s'.tr.z,FV gn nn2 cn2,FV gi ni2 ci2,FV gw nw2 cw2],I0 E]) (by simp[results,results81,go_sem,r0,r1,r2,r3,r4,r5,r6,r7,r8,r9]) rfl ?_;obtain⟨g1,g2,g3,g4,g5,g6,g7⟩:=G9 H2;exact⟨⟨gd,nd2,cd2,gl,nl2,cl2,gn,nn2,cn2,gi,ni2,ci2,gw,nw2,cw2,rfl,GH ⟨bJ (s:=s') (G9 D2) g1 g2 g3 g4 g5 g6,g7.lower (by show w.heap.size<=W0.heap.size;omega)⟩,JE (G9 HB2) (by omega) _ _ _ _ _ _ _ _ _ _⟩,(G9 HFT).lower (by show w.heap.size<=W0.heap.size;omega)⟩
theorem CB.dput(h:CB w W up vd id ep vl dn z vn vs vw)(q:Nat)(u:FZ)(hq:w.heap.size+2<=q):CB w (W.setCell ⟨q,0,G6⟩ u) up vd id ep vl dn z vn vs vw:=
 ⟨h.below.setCell (by simp only;omega) u,h.s.other (by omega),h.r.other (by omega)⟩
def CV6(l:List GV)(k:Nat)(z:Int):Prop:=(k=0/\z=-1)\/∃x,0<k/\l[k-1]?=G8 x/\z=x.z
theorem AO2(s:Sv)(v:FZ)(vl:FZ)(l:List GV)(epo:Int)(w:FX)(hv:SvV w v s)(hvl:NQ w vl l)(hf:BX2 s)(hll:l.length<=1000000000)(hk:(L6 s.ts l:Int)<s.dn):
  G5 prog 60 #[v,vl,I0 epo] w (oO w 13):=by
 obtain⟨ad,nd,cd,al,cl,an,cn,ai,ci,aw,cw,rfl,d1,l1,n1,s1,k1⟩:=hv.five;have CC:=GH (fun W (hW:B0 w W)=>oK _ vl s.ts l W (l1.next hW) (hvl.next hW) (by have:=hf.l;omega) (by omega));obtain⟨lb,lc,rfl⟩:=MH hvl;clear hv d1 l1 n1 s1 k1 hvl hf hll;obtain⟨up,fs,id,ep,ts,dn,⟨tz,tns,tss⟩,ws⟩:=s;simp only at*;generalize L6 ts l=k at*;go_enter func60,ntmps60;go_wp2_with fail;have X0:=GH (CB.start w up id ep dn tz (FV ad nd cd) (FV al ts.length cl) (FV an tns.length cn) (FV ai tss.length ci) (FV aw ws.length cw));generalize (w.alloc (FW #[.bool up,FV ad nd cd,I0 id,I0 ep,FV al ts.length cl,I0 dn,I0 tz,FV an tns.length cn,FV ai tss.length ci,FV aw ws.length cw] 55)).alloc (FW #[.bool false,N0,I0 0,I0 0,N0,I0 0,I0 0,N0,N0,N0] 55)=W0 at*;refine(G9 CC _ (G9 X0).below).mono ?_;rintro e w1 ⟨rfl,hb1⟩;have X1:=GH ((G9 X0).next hb1);have x5:=(G9 X1).s.cells.2.2.2.2.2.1;clear hb1 X0 CC;obtain⟨r0,r1,r2,r3,r4,r5,r6,r7,r8,r9⟩:=(G9 X1).r.cells;have rf0:=(G9 X1).r.H6 0;have rf1:=(G9 X1).r.H6 1;have rf2:=(G9 X1).r.H6 2;have rf3:=(G9 X1).r.H6 3;have rf4:=(G9 X1).r.H6 4;have rf5:=(G9 X1).r.H6 5;have rf6:=(G9 X1).r.H6 6;have rf7:=(G9 X1).r.H6 7;have rf8:=(G9 X1).r.H6 8;have rf9:=(G9 X1).r.H6 9;go_wp2_with fail;exact bodyPost_ret (v:=.tuple #[.agg #[.bool false,N0,I0 0,I0 0,N0,I0 0,I0 0,N0,N0,N0],I0 13]) (by simp[results,results60,go_sem,r0,r1,r2,r3,r4,r5,r6,r7,r8,r9]) rfl (kQ rfl (G9 X1).zero)
def RF(w W:FX)(s:Sv):Prop:=∃ad nd cd al nl cl an nn cn ai ni ci aw nw cw,CB w W s.up (FV ad nd cd) s.id s.ep (FV al nl cl) s.dn s.tr.z (FV an nn cn) (FV ai ni ci) (FV aw nw cw)/\TM (FV ai ni ci) (w.heap.size+1)/\
 SvV W (.agg #[.bool s.up,FV ad nd cd,I0 s.id,I0 s.ep,FV al nl cl,I0 s.dn,I0 s.tr.z,FV an nn cn,FV ai ni ci,FV aw nw cw]) s
theorem NQ.take(h:NQ w (FV a ts.length c) ts)(hk:k<=ts.length):NQ w (FV a k c) (ts.take k):=by
 rcases h with⟨a',cap,e,rfl,hc⟩|⟨b,off,cap,e,h1,h2,h3,h0,h4⟩
 .simp only[AQ]at e;obtain⟨rfl,_,rfl⟩:=e;obtain rfl:k=0:=by simpa using hk
  exact .inl ⟨a,c,rfl,by simp,hc⟩
 .simp only[AQ]at e;obtain⟨rfl,_,rfl⟩:=e;by_cases k0:k=0
  .subst k0;exact .inl ⟨_,c,rfl,by simp,h2⟩
  .have hl:(ts.take k).length=k:=by simp;omega
   refine .inr ⟨b,off,c,by rw[hl],by omega,h2,h3,by intro e;rw[e]at hl;simp at hl;omega,fun j v hj=>h4 j v ?_⟩;have e:ts=ts.take k++ts.drop k:=(DW k ts).symm;rw[e,SA,List.getElem?_append_left (AV.1 hj).1];exact hj
theorem CB.NY(h:CB w W up0 vd0 id0 ep0 vl0 dn0 z0 vn0 vs0 vw0)(up:Bool)(id ep dn z:Int)(vd vl vn vs vw:FZ):
  CB w (Go.Proofs.YtefephchbjfdfaaGreatDoor.NY W w.heap.size (.bool up) vd (I0 id) (I0 ep) vl (I0 dn) (I0 z) vn vs vw) up vd id ep vl dn z vn vs vw:=by
 refine⟨JE h.below (AA _) _ _ _ _ _ _ _ _ _ _,?_,?_⟩
 .unfold IB Go.Proofs.YtefephchbjfdfaaGreatDoor.NY;rw[GY _ (GY _ (GY _ (GY _ (GY _ (GY _ (GY _ (GY _ (GY _ (GY _ h.s)))))))))];simp
 .unfold Go.Proofs.YtefephchbjfdfaaGreatDoor.NY;exact(IB.other (IB.other (IB.other (IB.other (IB.other (IB.other (IB.other (IB.other (IB.other (IB.other h.r (by omega)) (by omega)) (by omega)) (by omega)) (by omega)) (by omega)) (by omega)) (by omega)) (by omega)) (by omega))
theorem NQ.drop{l:List GV}(h:NQ w (FV a l.length c) l)(hk:k<=l.length):
  (c=k->NQ w (FV a (l.length-k) 0) (l.drop k))/\(c≠k->NQ w (FV (Option.map (fun x=>x.add (k*7)) a) (l.length-k) (c-k)) (l.drop k)):=by
 have hlen:(l.drop k).length=l.length-k:=by simp
 rcases h with⟨a',cap,e,rfl,hc⟩|⟨b,off,cap,e,h1,h2,h3,h0,h4⟩
 .simp only[AQ]at e;obtain⟨rfl,_,rfl⟩:=e;exact⟨fun _=>.inl ⟨a,0,by simp,by simp,AZ _⟩,fun _=>.inl ⟨Option.map (fun x=>x.add (k*7)) a,c-k,by simp,by simp,by omega⟩⟩
 .simp only[AQ]at e;obtain⟨rfl,_,rfl⟩:=e;by_cases hd:l.drop k=[]
  .have h0':l.length-k=0:=by rw[<-hlen,hd];rfl
   exact⟨fun _=>.inl ⟨_,_,by rw[h0'],hd,by simp⟩,fun _=>.inl ⟨_,_,by rw[h0'],hd,by omega⟩⟩
  .have hlt:0<l.length-k:=by rw[<-hlen];exact List.length_pos_iff.2 hd
   refine⟨fun e=>by omega,fun _=>.inr ⟨b,off+k*7,c-k,by rw[hlen,Option.map_some,Addr.add_lit],by omega,by omega,h3,hd,fun j v hj=>?_⟩⟩;have e:KF l=KF (l.take k)++KF (l.drop k):=by rw[<-SA,DW]
   have hl7:(KF (l.take k)).length=k*7:=by rw[aY];simp;omega
   have:=h4 (k*7+j) v (by rw[e,List.getElem?_append_right (by omega),hl7,Nat.add_sub_cancel_left];exact hj);rwa[<-Nat.add_assoc]at this
theorem CB.putE(h:CB w W up vd id ep vl dn z vn vs vw)(e:Int):CB w (W.setCell ⟨w.heap.size,3,G6⟩ (I0 e)) up vd id e vl dn z vn vs vw:=by
 refine⟨h.below.setCell (by simp) _,?_,h.r.other (by omega)⟩;unfold IB;rw[GY (I0 e) h.s];rfl
def kU(w:FX)(s:Sv)(N:List Nt)(E:Int)(e:Ending)(w':FX):Prop:=∃v a c,e=.returned (.tuple #[v,FV a N.length c,I0 E])/\SvV w' v s/\IV w' (FV a N.length c) N/\B0 w w'
theorem AO4{w':FX}(he:e=.returned (.tuple #[.agg #[.bool false,N0,I0 0,I0 0,N0,I0 0,I0 0,N0,N0,N0],N0,I0 E]))(hb:B0 w w'):kU w sv0 [] E e w':=
 ⟨_,G6,0,he,SvV.zero w',IV.nil w',hb⟩
theorem BN7(hb:B0 w W)(hk:w.heap.size<=k):B0 w (NY W k (.bool false) (N0) (I0 0) (I0 0) (N0) (I0 0) (I0 0) (N0) (N0) (N0)):=JE hb hk _ _ _ _ _ _ _ _ _ _
theorem BN8{lo hi:Nat}(h:NQ w (FV a ts.length c) ts)(h1:lo<=hi)(h2:hi<=ts.length):
  (c=lo->NQ w (FV a (hi-lo) 0) ((ts.drop lo).take (hi-lo)))/\(c≠lo->NQ w (FV (Option.map (fun x=>x.add (lo*7)) a) (hi-lo) (c-lo)) ((ts.drop lo).take (hi-lo))):=by
 have hl:(ts.drop lo).length=ts.length-lo:=by simp
 obtain⟨d1,d2⟩:=h.drop (k:=lo) (by omega);rw[<-hl]at d1 d2;exact⟨fun e=>(d1 e).take (by omega),fun e=>(d2 e).take (by omega)⟩
theorem CI.done(h:CI w W ka kn kr s N vd vl vn vs vw vN)(n:Int):CI w (W.setCell ⟨ka,5,G6⟩ (I0 n)) ka kn kr ⟨s.up,s.fs,s.id,s.ep,s.ts,n,s.tr,s.ws⟩ N vd vl vn vs vw vN:=by
 have b1:IB (W.setCell ⟨ka,5,G6⟩ (I0 n)) ka s.up vd s.id s.ep vl n s.tr.z vn vs vw:=GY (j:=5) _ h.box;refine⟨b1,(BG _ _ _ _ (Ne.symm h.ne)).trans h.nb,QN h.d h.box (by decide) _,QN h.l h.box (by decide) _,QN h.n h.box (by decide) _,QN h.i h.box (by decide) _,QN h.o h.box (by decide) _,QN h.t h.box (by decide) _,h.below.setCell h.ha _,h.ha,h.hn,h.ne,h.r.other h.r1,h.r1,h.r2,h.hr⟩
theorem TJ[Lay α]{xs:List α}(h:I5 W B v xs)(hb:IB W k up vd id ep vl dn z vn vs vw)(hne:55≠Lay.ty α)(x0 x1 x2 x3 x4 x5 x6 x7 x8 x9:FZ):I5 (NY W k x0 x1 x2 x3 x4 x5 x6 x7 x8 x9) B v xs:=by
 have hk:=SC h hb hne;unfold NY;exact(((((((((h.other hk _).other hk _).other hk _).other hk _).other hk _).other hk _).other hk _).other hk _).other hk _).other hk _
theorem CI.out(h:CI w W ka kn kr s N vd vl vn vs vw vN)(x0 x1 x2 x3 x4 x5 x6 x7 x8 x9:FZ):
  SvV (NY W kr x0 x1 x2 x3 x4 x5 x6 x7 x8 x9) (.agg #[.bool s.up,vd,I0 s.id,I0 s.ep,vl,I0 s.dn,I0 s.tr.z,vn,vs,vw]) s/\IV (NY W kr x0 x1 x2 x3 x4 x5 x6 x7 x8 x9) vN N/\B0 w (NY W kr x0 x1 x2 x3 x4 x5 x6 x7 x8 x9):=
 ⟨⟨vd,vl,vn,vs,vw,rfl,OU.1 (TJ h.d h.r (by decide) _ _ _ _ _ _ _ _ _ _).seq,MJ.1 (TJ h.l h.r (by decide) _ _ _ _ _ _ _ _ _ _).seq,(TJ h.n h.r (by decide) _ _ _ _ _ _ _ _ _ _).seq,(TJ h.i h.r (by decide) _ _ _ _ _ _ _ _ _ _).seq,(TJ h.o h.r (by decide) _ _ _ _ _ _ _ _ _ _).seq⟩,(TJ h.t h.r (by decide) _ _ _ _ _ _ _ _ _ _).seq,JE h.below h.hr _ _ _ _ _ _ _ _ _ _⟩
theorem BN9{w W1 w1:FX}{s:Sv}{ad al an ai aw:Option Addr}{nd cd cl cn ci cw:Nat}{bd bl bn bi bw:Option Addr}{md fd fl fn fi fw B1 B2:Nat}(h:CB w W1 s.up (FV ad nd cd) s.id s.ep (FV al s.ts.length cl) s.dn s.tr.z (FV an s.tr.ns.length cn) (FV ai s.tr.ss.length ci) (FV aw s.ws.length cw))
  (h1:W1.heap.size<=B1) (h2:B1<=B2) (od:I5 w1 W1.heap.size (FV bd md fd) s.fs) (ol:I5 w1 B1 (FV bl s.ts.length fl) s.ts) (on:I5 w1 B2 (FV bn s.tr.ns.length fn) s.tr.ns) (oi:I5 w1 B2 (FV bi s.tr.ss.length fi) s.tr.ss) (ow:I5 w1 B2 (FV bw s.ws.length fw) s.ws) (hb:B0 W1 w1):
  CI w ((w1.alloc (FW #[.bool s.up,FV bd md fd,I0 s.id,I0 s.ep,FV bl s.ts.length fl,I0 s.dn,I0 s.tr.z,FV bn s.tr.ns.length fn,FV bi s.tr.ss.length fi,FV bw s.ws.length fw] 55)).alloc (FW #[N0] 34)) w1.heap.size (w1.heap.size+1) (w.heap.size+1) s [] (FV bd md fd) (FV bl s.ts.length fl) (FV bn s.tr.ns.length fn) (FV bi s.tr.ss.length fi) (FV bw s.ws.length fw) (N0):=by
 have hz:=h.below.size;have hz1:=hb.size;have hr:=h.r.lt;have a1:=GI w1 (FW #[.bool s.up,FV bd md fd,I0 s.id,I0 s.ep,FV bl s.ts.length fl,I0 s.dn,I0 s.tr.z,FV bn s.tr.ns.length fn,FV bi s.tr.ss.length fi,FV bw s.ws.length fw] 55);have a2:=GI (w1.alloc (FW #[.bool s.up,FV bd md fd,I0 s.id,I0 s.ep,FV bl s.ts.length fl,I0 s.dn,I0 s.tr.z,FV bn s.tr.ns.length fn,FV bi s.tr.ss.length fi,FV bw s.ws.length fw] 55)) (FW #[N0] 34);have b:=GK a1 a2;refine⟨(IB.new w1 s.up s.id s.ep s.dn s.tr.z _ _ _ _ _).next a2,?_,(od.next b).lower hz,(ol.next b).lower (by omega),(on.next b).lower (by omega),(oi.next b).lower (by omega),(ow.next b).lower (by omega),.inl ⟨rfl,rfl⟩,GK (GK h.below hb) b,by omega,by omega,by omega,(h.r.next hb).next b,by omega,by omega,by omega⟩;have:=heap_alloc_new (w1.alloc (FW #[.bool s.up,FV bd md fd,I0 s.id,I0 s.ep,FV bl s.ts.length fl,I0 s.dn,I0 s.tr.z,FV bn s.tr.ns.length fn,FV bi s.tr.ss.length fi,FV bw s.ws.length fw] 55)) (FW #[N0] 34);rwa[show (w1.alloc (FW #[.bool s.up,FV bd md fd,I0 s.id,I0 s.ep,FV bl s.ts.length fl,I0 s.dn,I0 s.tr.z,FV bn s.tr.ns.length fn,FV bi s.tr.ss.length fi,FV bw s.ws.length fw] 55)).heap.size=w1.heap.size+1 by simp]at this
def FrS(w:FX)(e:Ending):Prop:=∀x0 x1 x2 x3 x4 x5 x6 x7 x8 x9 y z:FZ,e=.returned (.tuple #[.agg #[x0,x1,x2,x3,x4,x5,x6,x7,x8,x9],y,z])->OA w.heap.size x8/\OA w.heap.size x1/\OA w.heap.size x4/\OA w.heap.size x7/\OA w.heap.size x9/\OA w.heap.size y
theorem CL6{y z:FZ}(h:OA w.heap.size x8/\OA w.heap.size x1/\OA w.heap.size x4/\OA w.heap.size x7/\OA w.heap.size x9/\OA w.heap.size y):FrS w (.returned (.tuple #[.agg #[x0,x1,x2,x3,x4,x5,x6,x7,x8,x9],y,z])):=by
 intro u0 u1 u2 u3 u4 u5 u6 u7 u8 u9 t r e;simp only[Ending.returned.injEq,Value.tuple.injEq,Value.agg.injEq,Array.mk.injEq,List.cons.injEq]at e;obtain⟨⟨_,rfl,_,_,rfl,_,_,rfl,rfl,rfl,_⟩,rfl,_⟩:=e;exact h
theorem xK(s:Sv)(v:FZ)(dN nN k:Nat)(xs:List GV)(w:FX)(hv:SvV w v s)(hf:BX2 s)(hdn:s.dn=dN)(h1:dN<=nN)(h2:nN<=s.ts.length)(hxs:xs=(s.ts.drop dN).take (nN-dN))(hC:Chn s xs k)(hB:BM8 s xs):
  G5 prog 82 #[v,I0 nN] w fun e w'=>(k=xs.length->kU w ⟨(csP s xs k).1.up,(csP s xs k).1.fs,(csP s xs k).1.id,(csP s xs k).1.ep,(csP s xs k).1.ts,nN,(csP s xs k).1.tr,(csP s xs k).1.ws⟩ (csP s xs k).2 0 e w'/\FrS w e)/\(∀x,xs[k]?=G8 x->kU w sv0 [] (YR (csP s xs k).1.tr x) e w'):=by
 have CC:=GH (fun W (hW:B0 w W)=>ZN s v W (hv.next hW) hf);obtain⟨ad,nd,cd,al,cl,an,cn,ai,ci,aw,cw,rfl,d1,l1,n1,s1,k1⟩:=hv.five;have hxl:xs.length=nN-dN:=by rw[hxs];simp;omega
 have HLS:=GH (fun W (hW:B0 w W)=>BN8 (l1.next hW) h1 h2);rw[<-hxs]at HLS;have hcl:s.ts.length<=cl/\cl<=9223372036854775807:=by
  rcases l1 with⟨_,_,e,e0,hm⟩|⟨_,_,_,e,h3,h4,_⟩
  .simp only[AQ]at e;rw[e0]at e⊢;simp only[maxLen]at hm;simp;omega
  .simp only[AQ]at e;simp only[maxLen]at h4;omega
 have hll:s.ts.length*72<=140737488355328:=hf.l;have HC:=GH hC;have HBs:=GH hB;have hkl:=hC.le;clear hv d1 l1 n1 s1 k1 hxs hC hB hf;have hdi:¬s.dn<0:=by omega
 have hni:¬ (nN:Int)<s.dn:=by omega
 have HDN:=GH hdn;clear hdn;have hnl:¬ (nN:Int)>(s.ts.length:Int):=by omega
 go_enter func82,ntmps82;go_upto_region 1 with fail;have X1:=GH (CB.start w s.up s.id s.ep s.dn s.tr.z (FV ad nd cd) (FV al s.ts.length cl) (FV an s.tr.ns.length cn) (FV ai s.tr.ss.length ci) (FV aw s.ws.length cw));generalize (w.alloc (FW #[.bool s.up,FV ad nd cd,I0 s.id,I0 s.ep,FV al s.ts.length cl,I0 s.dn,I0 s.tr.z,FV an s.tr.ns.length cn,FV ai s.tr.ss.length ci,FV aw s.ws.length cw] 55)).alloc (FW #[.bool false,N0,I0 0,I0 0,N0,I0 0,I0 0,N0,N0,N0] 55)=W1 at*;obtain⟨x0,x1,x2,x3,x4,x5,x6,x7,x8,x9⟩:=(G9 X1).s.cells;go_upto_region 4 with fail;go_wp2_with fail
 with_reducible refine(G9 CC _ (G9 X1).below).mono ?_
 rintro e w1 ⟨bd,md,fd,bl,fl,bn,fn,bi,fi,bw,fw,B1,B2,rfl,g1,g2,od,hd1,ol,hl2,on,oi,ow,hb1⟩;have CI0:=GH (BN9 (G9 X1) g1 g2 od ol on oi ow hb1);have X2:=GH (((G9 X1).next hb1).next (GK (GI w1 (FW #[.bool s.up,FV bd md fd,I0 s.id,I0 s.ep,FV bl s.ts.length fl,I0 s.dn,I0 s.tr.z,FV bn s.tr.ns.length fn,FV bi s.tr.ss.length fi,FV bw s.ws.length fw] 55)) (GI (w1.alloc (FW #[.bool s.up,FV bd md fd,I0 s.id,I0 s.ep,FV bl s.ts.length fl,I0 s.dn,I0 s.tr.z,FV bn s.tr.ns.length fn,FV bi s.tr.ss.length fi,FV bw s.ws.length fw] 55)) (FW #[N0] 34))));clear g1 g2 od hd1 ol hl2 on oi ow hb1 X1 CC x0 x1 x2 x3 x4 x5 x6 x7 x8 x9;go_upto_region 7 with fail;generalize (w1.alloc (FW #[.bool s.up,FV bd md fd,I0 s.id,I0 s.ep,FV bl s.ts.length fl,I0 s.dn,I0 s.tr.z,FV bn s.tr.ns.length fn,FV bi s.tr.ss.length fi,FV bw s.ws.length fw] 55)).alloc (FW #[N0] 34)=W2 at*;generalize w1.heap.size+1=kn at*;generalize w1.heap.size=ka at*;have x4:=(G9 X2).s.cells.2.2.2.2.1;rw[G9 HDN]
 go_cut [41,42,43]from 36 (fun t41 t42 t43 wx=>∃la lcc,t41=FV la (nN-dN) lcc/\t42=I0 ((nN-dN:Nat):Int)/\t43=I0 0/\wx=W2/\Hid (∀W,B0 w W->NQ W (FV la (nN-dN) lcc) xs))
 case first=>
  by_cases hlc:cl=dN
  .subst hlc;go_wp2_with fail
   all_goals go_meet
   all_goals exact⟨_,_,rfl,rfl,rfl,rfl,GH fun W hW=>(G9 HLS W hW).1 (by first|rfl|trivial)⟩
  .go_wp2_with fail
   all_goals go_meet
   all_goals exact⟨_,_,rfl,rfl,rfl,rfl,GH fun W hW=>(G9 HLS W hW).2 hlc⟩
 case rest=>
  obtain⟨la,lcc,rfl,rfl,rfl,rfl,HLX⟩:=hcut;rw[<-hxl]at HLX⊢;have HXL:=GH hxl;have hx63:xs.length<=1000000000000000:=by omega
  clear HLS hxl h1 h2 hcl hll hdi hni hnl X2 x4;go_wp2_with fail
  go_loopg [43] xs.length (fun kx s43 wr=>∃i:Nat,s43=I0 i/\i<=k/\xs.length-i<=kx/\Hid (∃ad nd cd al cl an cn ai ci aw cw aN cN,CI w wr ka kn (w.heap.size+1) (csP s xs i).1 (csP s xs i).2 (FV ad nd cd) (FV al (csP s xs i).1.ts.length cl) (FV an (csP s xs i).1.tr.ns.length cn) (FV ai (csP s xs i).1.tr.ss.length ci) (FV aw (csP s xs i).1.ws.length cw) (FV aN (csP s xs i).2.length cN)))
  case atStart=>exact⟨0,rfl,AZ _,AA _,GH (by rw[rM];exact⟨_,_,_,_,_,_,_,_,_,_,_,_,_,G9 CI0⟩)⟩
  case round=>
   obtain⟨i,rfl,hi,hgi,HI⟩:=hrel;by_cases hlt:i<xs.length
   .obtain⟨x,hx⟩:∃x,xs[i]?=G8 x:=⟨_,AO hlt⟩;obtain⟨ead,CS9,ecd,eal,ecl,ean,ecn,eai,eci,eaw,ecw,eaN,ecN,hci⟩:=G9 HI;obtain⟨b,o,c,he,hb,q,hq9⟩:=ZL (G9 HLX wr hci.below) hx;simp only[AQ]at he;obtain⟨rfl,he2,rfl⟩:=he;clear he2 hq9;have e0:=q.z hx;have e1:=q.o hx;have e2:=q.s hx;have e3:=q.p hx;have e4:=q.d hx;have e5:=q.v hx;have e6:=q.w hx;have hii:(i:Int)<(xs.length:Int):=by omega
    have hal:=GI wr (FW #[I0 x.z,I0 x.o,I0 x.s,S0 x.p,S0 x.d,I0 x.v,I0 x.w] 59);have HC1:=GH (A28 w _ ka kn (w.heap.size+1) (csP s xs i).1 (csP s xs i).2 x ead eal ean eai eaw eaN CS9 ecd ecl ecn eci ecw ecN (hci.next hal) (C49 (G9 HBs) (G9 HC) hi hx));have HT1:=TAt.new wr x;have HX:=GH hx;have HR0:=GH (hci.r.next hal);have HB1:=GH (GK hci.below hal);have t0:=HT1.c0;have t1:=HT1.c1;have t2:=HT1.c2;have t3:=HT1.c3;have t4:=HT1.c4;have t5:=HT1.c5;have t6:=HT1.c6;clear q hb hx hal HT1 hci HI;obtain⟨z,op,u,p,d,y,vv⟩:=x;unfold JC at HC1;simp only at e0 e1 e2 e3 e4 e5 e6 t0 t1 t2 t3 t4 t5 t6;go_upto_region 10 with fail;generalize wr.alloc (FW #[I0 z,I0 op,I0 u,S0 p,S0 d,I0 y,I0 vv] 59)=W6 at*;generalize wr.heap.size=kx at*;clear e0 e1 e2 e3 e4 e5 e6;go_wp2_with fail;refine(G9 HC1).mono ?_;rintro e w7 ⟨rfl,hout⟩;have HO:=GH hout;clear HC1 hout t0 t1 t2 t3 t4 t5 t6;have HX':=G9 HX;obtain⟨E,hE⟩:∃E,YR (csP s xs i).1.tr ⟨z,op,u,p,d,y,vv⟩=E:=⟨_,rfl⟩;rw[hE]at HO;rw[hE];by_cases hik:i<k
    .obtain rfl:E=0:=by rw[<-hE];exact(G9 HC).ok i _ hik HX'
     have HIN:Hid (∃ad nd cd al cl an cn ai ci aw cw aN cN,CI w w7 ka kn (w.heap.size+1) (csP s xs (i+1)).1 (csP s xs (i+1)).2 (FV ad nd cd) (FV al (csP s xs (i+1)).1.ts.length cl) (FV an (csP s xs (i+1)).1.tr.ns.length cn) (FV ai (csP s xs (i+1)).1.tr.ss.length ci) (FV aw (csP s xs (i+1)).1.ws.length cw) (FV aN (csP s xs (i+1)).2.length cN)):=GH (by
      rw[AC0 HX'];simp only[stP,AP];exact(G9 HO).2.2 rfl)
     clear HO hE HX';go_wp2_with fail
     go_roundg (xs.length-(i+1))
     case measure=>omega
     case rel=>exact⟨i+1,rfl,by omega,AA _,HIN⟩
    .obtain rfl:i=k:=by omega
     have hE0:E≠0:=by rw[<-hE];exact(G9 HC).stop _ HX'
     have HR7:=(G9 HR0).next ((G9 HO).2.1 hE0);have HBw:=GH (BN7 (G9 HO).1 (show w.heap.size<=w.heap.size+1 by omega));unfold NY at HBw;obtain⟨r0,r1,r2,r3,r4,r5,r6,r7,r8,r9⟩:=HR7.cells;have rf0:=HR7.H6 0;have rf1:=HR7.H6 1;have rf2:=HR7.H6 2;have rf3:=HR7.H6 3;have rf4:=HR7.H6 4;have rf5:=HR7.H6 5;have rf6:=HR7.H6 6;have rf7:=HR7.H6 7;have rf8:=HR7.H6 8;have rf9:=HR7.H6 9;have HE:=GH hE;clear HR7 HO HR0 hE HX';go_wp2_with fail;refine bodyPost_ret (v:=.tuple #[.agg #[.bool false,N0,I0 0,I0 0,N0,I0 0,I0 0,N0,N0,N0],N0,I0 E]) (by simp[results,results82,go_sem,r0,r1,r2,r3,r4,r5,r6,r7,r8,r9]) rfl ?_;refine⟨fun h=>by omega,fun x' hx'=>?_⟩;rw[G9 HX]at hx'
     cases hx'
     rw[G9 HE];exact AO4 rfl (G9 HBw)
   .obtain rfl:i=k:=by omega
    have hik:i=xs.length:=by omega
    obtain⟨ead,CS9,ecd,eal,ecl,ean,ecn,eai,eci,eaw,ecw,eaN,ecN,hci⟩:=G9 HI;obtain⟨S,hS⟩:∃S,(csP s xs i).1=S:=⟨_,rfl⟩;obtain⟨NN,hNN⟩:∃NN,(csP s xs i).2=NN:=⟨_,rfl⟩;rw[hS,hNN]at hci;have HD:=GH (hci.done nN);have HFR:=GH (DJ (LJ hci.i) (DJ (LJ hci.d) (DJ (LJ hci.l) (DJ (LJ hci.n) (DJ (LJ hci.o) (LJ hci.t))))));have x5:=hci.box.cells.2.2.2.2.2.1;have xf5:=hci.box.H6 5;have HS:=GH hS;have HNN:=GH hNN;have HIK:=GH hik;have hki:¬ ((i:Int)<(xs.length:Int)):=by omega
    clear hci HI hS hNN hik;go_upto_region 15 with fail;generalize wr.setCell ⟨ka,5,G6⟩ (I0 nN)=W8 at*;clear x5 xf5;obtain⟨x0,x1,x2,x3,x4,x5,x6,x7,x8,x9⟩:=(G9 HD).box.cells;have n0:W8.cell? ⟨kn,0,G6⟩=G8 (FV eaN NN.length ecN):=by simp[AX,(G9 HD).nb]
    obtain⟨r0,r1,r2,r3,r4,r5,r6,r7,r8,r9⟩:=(G9 HD).r.cells;have rf0:=(G9 HD).r.H6 0;have rf1:=(G9 HD).r.H6 1;have rf2:=(G9 HD).r.H6 2;have rf3:=(G9 HD).r.H6 3;have rf4:=(G9 HD).r.H6 4;have rf5:=(G9 HD).r.H6 5;have rf6:=(G9 HD).r.H6 6;have rf7:=(G9 HD).r.H6 7;have rf8:=(G9 HD).r.H6 8;have rf9:=(G9 HD).r.H6 9;have C67:=GH ((G9 HD).out (.bool S.up) (FV ead CS9 ecd) (I0 S.id) (I0 S.ep) (FV eal S.ts.length ecl) (I0 nN) (I0 S.tr.z) (FV ean S.tr.ns.length ecn) (FV eai S.tr.ss.length eci) (FV eaw S.ws.length ecw));have hl1:=(G9 HD).box.lt;have hl2:=(G9 HD).r.lt;have HB8:=GH (G9 HD).below;have hne1:w.heap.size+1≠ka:=(G9 HD).r1;have hne2:w.heap.size+1≠kn:=(G9 HD).r2;have hne3:ka≠w.heap.size+1:=fun h=>hne1 h.symm;have hne4:kn≠w.heap.size+1:=fun h=>hne2 h.symm;clear HD;simp only at x0 x1 x2 x3 x4 x5 x6 x7 x8 x9;unfold NY at C67;go_region
    all_goals go_wp2_with fail
    all_goals refine bodyPost_ret (v:=.tuple #[.agg #[.bool S.up,FV ead CS9 ecd,I0 S.id,I0 S.ep,FV eal S.ts.length ecl,I0 nN,I0 S.tr.z,FV ean S.tr.ns.length ecn,FV eai S.tr.ss.length eci,FV eaw S.ws.length ecw],FV eaN NN.length ecN,I0 0]) (by simp[results,results82,go_sem,r0,r1,r2,r3,r4,r5,r6,r7,r8,r9]) rfl ?_
    all_goals rw[G9 HS,G9 HNN]
    all_goals refine fun _=>⟨⟨_,_,_,rfl,?_,?_,?_⟩,CL6 (G9 HFR)⟩
    all_goals first
     |exact(G9 C67).1.next ((AB _ _).drew)
     |exact(G9 C67).2.1.next ((AB _ _).drew)
     |exact(G9 C67).2.2.drew
     |exact(G9 C67).1
     |exact(G9 C67).2.1
     |exact(G9 C67).2.2
noncomputable def CV7(id:Int):Sv:=⟨true,[PL []],id,Z5 [],[],0,QW,[]⟩
theorem B56:oM 30 (fun x=>#[x]) [] [] [PL []] 0:=
 fV [] [PL []] 0 (fun v W hv=>by
  have h:=A03 v [] OE 7 W hv (JX XM) (.inr ⟨XM,⟨[],[],rQ _⟩,rfl⟩);exact h)
  (MX fun v W hv=>bG v [] [] [] OE [] W hv (JX XM) XM bQ (by decide) (rQ _) (by decide))
theorem B57(id:Int)(h0:0<=id)(h1:id<3)(w:FX):G5 prog 15 #[I0 id,.agg #[N0]] w (bH w (CV7 id) 0):=
 AC5 (N0) [] [PL []] [] id w (IY.nil w) (by intro f hf;simp at hf) h0 h1 B56
noncomputable def SK(m:List GV)(i:Nat):Tr:=(m.take i).foldl jI QW
theorem XQ(m:List GV):SK m 0=QW:=by simp[SK]
theorem xR{m:List GV}(h:m[i]?=G8 x):SK m (i+1)=jI (SK m i) x:=by
 unfold SK;rw[QC h,List.foldl_append];rfl
theorem iK(m:List GV)(x:GV)(h:i<=m.length):SK (m++[x]) i=SK m i:=by
 unfold SK;rw[List.take_append_of_le_length h]
theorem B58(xs:List GV):∀ (s:Sv) (N:List Nt),(xs.foldl stP (s,N)).1.tr=xs.foldl jI s.tr:=by
 induction xs with
 |nil=>intro s N;rfl
 |cons x xs ih=>
  intro s N;simp only[List.foldl_cons];exact ih (fQ s x) _
structure CL8(s:Sv)(t:GV)(s':Sv):Prop where
 z:¬t.z<=J7 s.ts
 p:t.p.length<=140737488355328
 d:t.d.length<=140737488355328
 n:s.ts.length<=1000000000
 g:∃d1,s'=⟨s.up,d1,s.id,s.ep,s.ts++[t],s.dn,s.tr,s.ws⟩/\ZA 152 (fun x=>#[x,JC t,.bool true]) s.fs d1 0
theorem A41(hf:BX2 s){d:List DF}(g:LV d)(e:Int)(k:Nat):BX2 ⟨s.up,d,s.id,e,s.ts.take k,s.dn,s.tr,s.ws⟩:=
 ⟨by have:=g.few;simp only;omega,JX g,by have:=hf.l;simp only[List.length_take];omega,fun x hx=>hf.lf x (List.mem_of_mem_take hx),hf.n,hf.nf,hf.si,hf.wa,hf.wf⟩
theorem C69(h:∀W,B0 w W->NQ W (FV a ts.length c) ts):ts.length<=c:=by
 rcases h w (AB _ _)with⟨a',cap,e,rfl,_⟩|⟨b,off,cap,e,h1,_⟩
 .simp
 .simp only[AQ]at e;omega
def SF0(w W:FX)(s:Sv)(al:Option Addr)(cl:Nat)(an:Option Addr)(cn:Nat)(ai:Option Addr)(ci:Nat)(aw:Option Addr)(cw:Nat):Prop:=
 ∃ad nd cd,CB w W s.up (FV ad nd cd) s.id s.ep (FV al s.ts.length cl) s.dn s.tr.z (FV an s.tr.ns.length cn) (FV ai s.tr.ss.length ci) (FV aw s.ws.length cw)/\
 SvV W (.agg #[.bool s.up,FV ad nd cd,I0 s.id,I0 s.ep,FV al s.ts.length cl,I0 s.dn,I0 s.tr.z,FV an s.tr.ns.length cn,FV ai s.tr.ss.length ci,FV aw s.ws.length cw]) s
theorem SF0.next{al an ai aw:Option Addr}{cl cn ci cw:Nat}(h:SF0 w W s al cl an cn ai ci aw cw)(hb:B0 W V):SF0 w V s al cl an cn ai ci aw cw:=by
 obtain⟨ad,nd,cd,h1,h2⟩:=h;exact⟨ad,nd,cd,h1.next hb,h2.next hb⟩
theorem BO3{w P:FX}{s:Sv}{ts:List GV}{k:Nat}{ad ad0 al an ai aw:Option Addr}{nd cd nd0 cd0 cl cn ci cw:Nat}{ep0:Int}(h:CB w P s.up (FV ad0 nd0 cd0) s.id ep0 (FV al ts.length cl) s.dn s.tr.z (FV an s.tr.ns.length cn) (FV ai s.tr.ss.length ci) (FV aw s.ws.length cw))(hd:IY P (FV ad nd cd) s.fs)
  (hs:(∀W,B0 w W->NQ W (FV al ts.length cl) ts)/\(∀W,B0 w W->IV W (FV an s.tr.ns.length cn) s.tr.ns)/\(∀W,B0 w W->IV W (FV ai s.tr.ss.length ci) s.tr.ss)/\∀W,B0 w W->IV W (FV aw s.ws.length cw) s.ws) (hk:k<=ts.length) (ht:s.ts=ts.take k:=by rfl):
  SF0 w (((P.setCell ⟨w.heap.size,1,G6⟩ (FV ad nd cd)).setCell ⟨w.heap.size,3,G6⟩ (I0 s.ep)).setCell ⟨w.heap.size,4,G6⟩ (FV al k cl)) s al cl an cn ai ci aw cw:=by
 have hlen:s.ts.length=k:=by rw[ht];simp;omega
 have hb:=((h.below.setCell (p:=⟨w.heap.size,1,G6⟩) (by simp) (FV ad nd cd)).setCell (p:=⟨w.heap.size,3,G6⟩) (by simp) (I0 s.ep)).setCell (p:=⟨w.heap.size,4,G6⟩) (by simp) (FV al k cl);have u0:=h.s.fK;have u1:aA (P.setCell ⟨w.heap.size,1,G6⟩ (FV ad nd cd)) w.heap.size:=u0.set (by simp);have u2:aA ((P.setCell ⟨w.heap.size,1,G6⟩ (FV ad nd cd)).setCell ⟨w.heap.size,3,G6⟩ (I0 s.ep)) w.heap.size:=u1.set (by simp);refine⟨ad,nd,cd,by rw[hlen];exact((h.put 1 (FV ad nd cd) rfl).putE s.ep).put 4 (FV al k cl) rfl,_,_,_,_,_,rfl,TD (TD (TD hd u0 _) u1 _) u2 _,?_,hs.2.1 _ hb,hs.2.2.1 _ hb,hs.2.2.2 _ hb⟩;rw[hlen,ht];exact(hs.1 _ hb).take hk
def LF(w W:FX)(q:Nat)(s:Sv):Prop:=
 ∃ad nd cd al cl an cn ai ci aw cw,B0 w W/\IB W (w.heap.size+1) false (N0) 0 0 (N0) 0 0 (N0) (N0) (N0)/\
  IB W q s.up (FV ad nd cd) s.id s.ep (FV al s.ts.length cl) s.dn s.tr.z (FV an s.tr.ns.length cn) (FV ai s.tr.ss.length ci) (FV aw s.ws.length cw)/\w.heap.size+2<=q/\
  IY W (FV ad nd cd) s.fs/\I5 W (w.heap.size+2) (FV al s.ts.length cl) s.ts/\I5 W (w.heap.size+2) (FV an s.tr.ns.length cn) s.tr.ns/\I5 W (w.heap.size+2) (FV ai s.tr.ss.length ci) s.tr.ss/\I5 W (w.heap.size+2) (FV aw s.ws.length cw) s.ws/\
  (∀k,(Value.slice al s.ts.length cl).ownBlock=G8 k->k≠q/\(Value.slice an s.tr.ns.length cn).ownBlock≠G8 k/\(Value.slice ai s.tr.ss.length ci).ownBlock≠G8 k/\(Value.slice aw s.ws.length cw).ownBlock≠G8 k)/\
  (Value.slice an s.tr.ns.length cn).ownBlock≠G8 q/\(Value.slice ai s.tr.ss.length ci).ownBlock≠G8 q/\(Value.slice aw s.ws.length cw).ownBlock≠G8 q
theorem VQ[Lay α]{xs:List α}(h:I5 W B v xs)(hk:W.heap.size<=k):v.ownBlock≠G8 k:=fun e=>by have:=h.low k e;omega
theorem BO4{w W w1:FX}{s:Sv}{ad al an ai aw:Option Addr}{nd cd cl cn ci cw B1 B2:Nat}(hW:B0 w W)(hr:IB W (w.heap.size+1) false (N0) 0 0 (N0) 0 0 (N0) (N0) (N0))(h1:W.heap.size<=B1)(h2:B1<=B2)
  (od:I5 w1 W.heap.size (FV ad nd cd) s.fs) (ol:I5 w1 B1 (FV al s.ts.length cl) s.ts) (hl2:∀k,(Value.slice al s.ts.length cl).ownBlock=G8 k->k<B2) (on:I5 w1 B2 (FV an s.tr.ns.length cn) s.tr.ns) (oi:I5 w1 B2 (FV ai s.tr.ss.length ci) s.tr.ss) (ow:I5 w1 B2 (FV aw s.ws.length cw) s.ws) (hb:B0 W w1):
  LF w (w1.alloc (FW #[.bool s.up,FV ad nd cd,I0 s.id,I0 s.ep,FV al s.ts.length cl,I0 s.dn,I0 s.tr.z,FV an s.tr.ns.length cn,FV ai s.tr.ss.length ci,FV aw s.ws.length cw] 55)) w1.heap.size s:=by
 have hl:=hr.lt;have hal:=GI w1 (FW #[.bool s.up,FV ad nd cd,I0 s.id,I0 s.ep,FV al s.ts.length cl,I0 s.dn,I0 s.tr.z,FV an s.tr.ns.length cn,FV ai s.tr.ss.length ci,FV aw s.ws.length cw] 55);refine⟨ad,nd,cd,al,cl,an,cn,ai,ci,aw,cw,GK (GK hW hb) hal,(hr.next hb).next hal,IB.new w1 s.up s.id s.ep s.dn s.tr.z _ _ _ _ _,by have:=hb.size;omega,OU.1 (od.next hal).seq,(ol.next hal).lower (by omega),(on.next hal).lower (by omega),(oi.next hal).lower (by omega),(ow.next hal).lower (by omega),fun k hk=>⟨?_,?_,?_,?_⟩,VQ on (AA _),VQ oi (AA _),VQ ow (AA _)⟩
 .rintro rfl;exact VQ ol (AA _) hk
 .intro e;have:=QY on e;have:=hl2 k hk;omega
 .intro e;have:=QY oi e;have:=hl2 k hk;omega
 .intro e;have:=QY ow e;have:=hl2 k hk;omega
theorem XT(h:IB W k up0 vd0 id0 ep0 vl0 dn0 z0 vn0 vs0 vw0)(up:Bool)(id ep dn z:Int)(vd vl vn vs vw:FZ):
  IB (NY W k (.bool up) vd (I0 id) (I0 ep) vl (I0 dn) (I0 z) vn vs vw) k up vd id ep vl dn z vn vs vw:=by
 unfold IB at*;unfold NY;rw[GY _ (GY _ (GY _ (GY _ (GY _ (GY _ (GY _ (GY _ (GY _ (GY _ h)))))))))];simp
theorem bW{q:Nat}(h:IB W k up0 vd0 id0 ep0 vl0 dn0 z0 vn0 vs0 vw0)(hk:k≠q)(x0 x1 x2 x3 x4 x5 x6 x7 x8 x9:FZ):IB (NY W q x0 x1 x2 x3 x4 x5 x6 x7 x8 x9) k up0 vd0 id0 ep0 vl0 dn0 z0 vn0 vs0 vw0:=by
 unfold NY;exact(IB.other (IB.other (IB.other (IB.other (IB.other (IB.other (IB.other (IB.other (IB.other (IB.other h hk) hk) hk) hk) hk) hk) hk) hk) hk) hk)
theorem IB.touch{F:Nat->Prop}(h:IB W k up vd id ep vl dn z vn vs vw)(ht:Touch F W V)(hk:¬F k):IB V k up vd id ep vl dn z vn vs vw:=(ht.block k h.lt hk).trans h
theorem C70{w W V:FX}{q:Nat}{s:Sv}{d1:List DF}{tn:List GV}{ad al an ai aw a a2:Option Addr}{nd cd cl cn ci cw n c c2:Nat}(hb:B0 w W)(hr:IB W (w.heap.size+1) false (N0) 0 0 (N0) 0 0 (N0) (N0) (N0))
  (ha:IB W q s.up (FV ad nd cd) s.id s.ep (FV al s.ts.length cl) s.dn s.tr.z (FV an s.tr.ns.length cn) (FV ai s.tr.ss.length ci) (FV aw s.ws.length cw)) (hq:w.heap.size+2<=q)
  (ol:I5 W (w.heap.size+2) (FV al s.ts.length cl) s.ts) (on:I5 W (w.heap.size+2) (FV an s.tr.ns.length cn) s.tr.ns) (oi:I5 W (w.heap.size+2) (FV ai s.tr.ss.length ci) s.tr.ss) (ow:I5 W (w.heap.size+2) (FV aw s.ws.length cw) s.ws)
  (sep:∀k,(Value.slice al s.ts.length cl).ownBlock=G8 k->k≠q/\(Value.slice an s.tr.ns.length cn).ownBlock≠G8 k/\(Value.slice ai s.tr.ss.length ci).ownBlock≠G8 k/\(Value.slice aw s.ws.length cw).ownBlock≠G8 k)
  (n1:(Value.slice an s.tr.ns.length cn).ownBlock≠G8 q) (n2:(Value.slice ai s.tr.ss.length ci).ownBlock≠G8 q) (n3:(Value.slice aw s.ws.length cw).ownBlock≠G8 q)
  (ht:Touch (fun k=>(Value.slice al s.ts.length cl).ownBlock=G8 k) W V) (D:IY V (FV a n c) d1) (L:I5 V (w.heap.size+2) (FV a2 tn.length c2) tn) (hl:(Value.slice a2 tn.length c2).ownBlock=(Value.slice al s.ts.length cl).ownBlock\/∃k,(Value.slice a2 tn.length c2).ownBlock=G8 k/\W.heap.size<=k):
  IB V q s.up (FV ad nd cd) s.id s.ep (FV al s.ts.length cl) s.dn s.tr.z (FV an s.tr.ns.length cn) (FV ai s.tr.ss.length ci) (FV aw s.ws.length cw)/\
  LF w (NY V q (.bool s.up) (FV a n c) (I0 s.id) (I0 s.ep) (FV a2 tn.length c2) (I0 s.dn) (I0 s.tr.z) (FV an s.tr.ns.length cn) (FV ai s.tr.ss.length ci) (FV aw s.ws.length cw)) q ⟨s.up,d1,s.id,s.ep,tn,s.dn,s.tr,s.ws⟩:=by
 have ha':=ha.touch ht (fun e=>(sep q e).1 rfl);have hr':=hr.touch ht (fun e=>by have:=QY ol e;omega);have hqW:=ha.lt;have hb':=hb.trans (ht.below (B:=w.heap.size) hb.size (fun k hk=>by have:=QY ol hk;omega));have CV8:=PX on ht (fun k hk hf=>(sep k hf).2.1 hk);have CV9:=PX oi ht (fun k hk hf=>(sep k hf).2.2.1 hk);have keepW:=PX ow ht (fun k hk hf=>(sep k hf).2.2.2 hk);have lq:(Value.slice a2 tn.length c2).ownBlock≠G8 q:=by
  intro e;rcases hl with h|⟨k,h,hk⟩
  .rw[h]at e;exact(sep q e).1 rfl
  .rw[h]at e;simp only[BF]at e;omega
 refine⟨ha',a,n,c,a2,c2,an,cn,ai,ci,aw,cw,JE hb' (by omega) _ _ _ _ _ _ _ _ _ _,bW hr' (by omega) _ _ _ _ _ _ _ _ _ _,XT ha' _ _ _ _ _ _ _ _ _ _,hq,oP ha'.fK D,XP L lq _ _ _ _ _ _ _ _ _ _,XP CV8 n1 _ _ _ _ _ _ _ _ _ _,XP CV9 n2 _ _ _ _ _ _ _ _ _ _,XP keepW n3 _ _ _ _ _ _ _ _ _ _,fun k hk=>?_,n1,n2,n3⟩;simp only at hk⊢;rcases hl with h|⟨k',h,hk'⟩
 .rw[h]at hk;exact sep k hk
 .rw[h]at hk;simp only[BF]at hk;subst hk;exact⟨by omega,VQ on hk',VQ oi hk',VQ ow hk'⟩
def FrW(w:FX)(e:Ending):Prop:=∀x0 x1 x2 x3 x4 x5 x6 x7 x8 x9 z:FZ,e=.returned (.tuple #[.agg #[x0,x1,x2,x3,x4,x5,x6,x7,x8,x9],z])->OA w.heap.size x9
theorem CL9{z:FZ}(h:OA w.heap.size x9):FrW w (.returned (.tuple #[.agg #[x0,x1,x2,x3,x4,x5,x6,x7,x8,x9],z])):=by
 intro u0 u1 u2 u3 u4 u5 u6 u7 u8 u9 t e;simp only[Ending.returned.injEq,Value.tuple.injEq,Value.agg.injEq,Array.mk.injEq,List.cons.injEq]at e;obtain⟨⟨_,_,_,_,_,_,_,_,_,rfl,_⟩,_⟩:=e;exact h
def C71(w:FX)(s:Sv)(E:Int)(e:Ending)(w':FX):Prop:=eX w s E e w'/\FrW w e
theorem AO6(s:Sv)(v:FZ)(vl:FZ)(l:List GV)(epo:Int)(w:FX)(hv:SvV w v s)(hvl:NQ w vl l)(hf:BX2 s)(hll:l.length<=1000000000)(ht:VP w)(hk:¬ (L6 s.ts l:Int)<s.dn)(z:Int)(d2 d3:List DF)(hz:CV6 l (L6 s.ts l) z)(G:NT 99 (fun g=>#[g,I0 z]) s.fs d2 0)(R:kT 100 (fun g=>#[g,I0 epo]) d2 d3 0)(gd:LV d3)(st:Nat->Sv)(h0:st 0=⟨s.up,d3,s.id,epo,s.ts.take (L6 s.ts l),s.dn,s.tr,s.ws⟩)(HT:∀i x,(l.drop (L6 s.ts l))[i]?=G8 x->CL8 (st i) x (st (i+1))):
  G5 prog 60 #[v,vl,I0 epo] w (C71 w (st (l.drop (L6 s.ts l)).length) 0):=by
 obtain⟨ad,nd,cd,al,cl,an,cn,ai,ci,aw,cw,rfl,d1,l1,n1,s1,k1⟩:=hv.five;have CC:=GH (fun W (hW:B0 w W)=>oK _ vl s.ts l W (l1.next hW) (hvl.next hW) (by have:=hf.l;omega) (by omega));have HG:=GH (fun W (hW:B0 w W)=>G _ W (d1.next hW));have HLR:=GH (fun(j:Nat) (x:GV) (hx:l[j]?=G8 x) W (hW:B0 w W)=>ZL (hvl.next hW) hx);obtain⟨lb,lc,rfl⟩:=MH hvl;have HR:=GH R;have HTK:=GH HT;have HLV:=GH (fun W (hW:B0 w W)=>hvl.next hW);have HS0:=GH (DJ (fun W (hW:B0 w W)=>l1.next hW) (DJ (fun W (hW:B0 w W)=>n1.next hW) (DJ (fun W (hW:B0 w W)=>s1.next hW) (fun W (hW:B0 w W)=>k1.next hW))));have HFit:=GH (A41 hf gd epo (L6 s.ts l));have HTab:=GH (fun W (hW:B0 w W)=>ht.next hW);clear hv d1 l1 n1 s1 k1 hvl hf G R ht HT gd;obtain⟨up,fs,id,ep,ts,dn,⟨tz,tns,tss⟩,ws⟩:=s;simp only at*;go_enter func60,ntmps60;go_wp2_with fail;have X0:=GH (CB.start w up id ep dn tz (FV ad nd cd) (FV al ts.length cl) (FV an tns.length cn) (FV ai tss.length ci) (FV aw ws.length cw));generalize (w.alloc (FW #[.bool up,FV ad nd cd,I0 id,I0 ep,FV al ts.length cl,I0 dn,I0 tz,FV an tns.length cn,FV ai tss.length ci,FV aw ws.length cw] 55)).alloc (FW #[.bool false,N0,I0 0,I0 0,N0,I0 0,I0 0,N0,N0,N0] 55)=W0 at*;refine(G9 CC _ (G9 X0).below).mono ?_;rintro e w1 ⟨rfl,hb1⟩;have X1:=GH ((G9 X0).next hb1);have x5:=(G9 X1).s.cells.2.2.2.2.2.1;clear hb1 X0 CC;have x1:=(G9 X1).s.cells.2.1;have hkl:=(XK ts l).2;have hkt:=(XK ts l).1;generalize L6 ts l=k at*;have hnk:¬ ((k:Int)<dn):=by omega
 go_upto_if 27 with fail
 go_cut [9]from 15 (fun t9 wx=>t9=I0 z/\wx=w1)
 case first=>
  rcases hz with⟨rfl,rfl⟩|⟨x,hk0,hx,rfl⟩
  .go_wp2_with fail
   go_meet
   exact⟨rfl,rfl⟩
  .obtain⟨m,rfl⟩:∃m,k=m+1:=⟨k-1,by omega⟩;simp only[Nat.add_sub_cancel]at hx;obtain⟨b,o,c,he,hb,q,hm1,_⟩:=G9 HLR m x hx w1 (G9 X1).below;simp only[AQ]at he;obtain⟨rfl,_,rfl⟩:=he;have e0:=q.z hx;generalize x.z=z at*;have i1:(m:Int)<(l.length:Int):=by omega
   have i2:(0:Int)<((m+1:Nat):Int):=by omega
   have i3:IntKind.i64.wrap (((m+1:Nat):Int)-1)=(m:Int):=by rw[IntKind.wrap_i64];omega
   have i4:(((m+1:Nat):Int)-1)=(m:Int):=by omega
   clear q hx;go_wp2_with fail
   go_meet
   exact⟨rfl,rfl⟩
 case rest=>
  obtain⟨rfl,rfl⟩:=hcut;clear HLR;go_wp2_with fail;refine(G9 HG _ (G9 X1).below).mono ?_;rintro e w2 ⟨a2,n2,c2,rfl,D2,hb2⟩;have hal:=GI w2 (FW #[FV a2 n2 c2] 45);have X2:=GH (((G9 X1).next hb2).next hal);have A2:=GH (KN.new w2 (FV a2 n2 c2));have F2:=GH ((G9 D2).next hal);have Q2:=GH (show w.heap.size+2<=w2.heap.size from((G9 X1).next hb2).lt);clear hb2 hal X1 D2 HG x1 x5;have ca:=(G9 A2).c;have fa:=(G9 A2).f;go_wp2_with fail;generalize w2.heap.size=q2 at*;generalize w2.alloc (FW #[FV a2 n2 c2] 45)=W2 at*;refine(G9 HR _ _ (G9 HTab _ (G9 X2).below) (G9 F2)).mono ?_;rintro e w3 ⟨a3,n3,c3,rfl,D3,hb3⟩;have X3:=(G9 X2).next hb3;have A3:=(G9 A2).next hb3;have ca3:=A3.c;have fa3:=A3.f;have Y3:=X3.dput q2 (FV a3 n3 c3) (by have:=G9 Q2;omega);have E3:=QO (G9 D3) A3 (FV a3 n3 c3);have B3:=A3.set (FV a3 n3 c3);have HX3:=GH Y3;have HD3:=GH E3;have HA3:=GH B3;clear hb3 X2 A2 F2 D3 X3 A3 Y3 E3 B3 HR ca fa;go_upto_region 13 with fail;generalize w3.setCell ⟨q2,0,G6⟩ (FV a3 n3 c3)=W3 at*;clear ca3 fa3;have hcap:ts.length<=cl:=C69 (G9 HS0).1;have ca5:=(G9 HA3).c;have x4:=(G9 HX3).s.cells.2.2.2.2.1;have x1:=(G9 HX3).s.cells.2.1;have x3:=(G9 HX3).s.cells.2.2.2.1;have xf1:=(G9 HX3).s.H6 1;have xf3:=(G9 HX3).s.H6 3;have xf4:=(G9 HX3).s.H6 4;have hnq:q2≠w.heap.size:=by have:=G9 Q2;omega
  have k0:(0:Int)<=(k:Int):=by omega
  have kk1:(k:Int)<=(cl:Int):=by omega
  have k2:k<=cl:=by omega
  have RF4:=GH (BO3 (s:=⟨up,d3,id,epo,ts.take k,dn,⟨tz,tns,tss⟩,ws⟩) (G9 HX3) (G9 HD3) (G9 HS0) hkt)
  go_cut [14]from 16 (fun _ wx=>Hid (SF0 w wx ⟨up,d3,id,epo,ts.take k,dn,⟨tz,tns,tss⟩,ws⟩ al cl an cn ai ci aw cw))
  case first=>
   go_region
   all_goals go_wp2_with fail
   all_goals go_meet
   all_goals exact GH ((G9 RF4).next (AB _ _).drew)
  case rest=>
   have HRF:=hcut;clear hcut RF4 ca5 x4 x1 x3 xf1 xf3 xf4 HX3 HD3 HA3;generalize ts.take k=tk at*;obtain⟨ad4,nd4,cd4,CB4,SV4⟩:=G9 HRF;simp only at CB4 SV4;obtain⟨x0,x1,x2,x3,x4,x5,x6,x7,x8,x9⟩:=CB4.s.cells;have CPY:=GH (ZN (⟨up,d3,id,epo,tk,dn,⟨tz,tns,tss⟩,ws⟩:Sv) _ wc SV4 (G9 HFit));have HBR:=GH (DJ CB4.below CB4.r);clear SV4 CB4 HRF HFit HS0;go_wp2_with fail;refine(G9 CPY).mono ?_;rintro e w5 ⟨bd,md,fd,bl,fl,bn,fn,bi,fi,bw,fw,B1,B2,rfl,h1,h2,od,hd1,ol,hl2,on,oi,ow,hb5⟩;simp only at od ol hl2 on oi ow;have LF5:=GH (BO4 (s:=(⟨up,d3,id,epo,tk,dn,⟨tz,tns,tss⟩,ws⟩:Sv)) (G9 HBR).1 (G9 HBR).2 h1 h2 od ol hl2 on oi ow hb5);simp only at LF5;clear h1 h2 od hd1 ol hl2 on oi ow hb5 HBR CPY x0 x1 x2 x3 x4 x5 x6 x7 x8 x9;go_upto_region 15 with fail;generalize w5.heap.size=q5 at*;generalize w5.alloc (FW #[.bool up,FV bd md fd,I0 id,I0 epo,FV bl tk.length fl,I0 dn,I0 tz,FV bn tns.length fn,FV bi tss.length fi,FV bw ws.length fw] 55)=W5 at*
   go_cut [71,72,73]from 15 (fun t71 t72 t73 wx=>∃la lcc,t71=FV la (l.length-k) lcc/\t72=I0 ((l.length-k:Nat):Int)/\t73=I0 0/\wx=W5/\Hid (∀W,B0 w W->NQ W (FV la (l.length-k) lcc) (l.drop k)))
   case first=>
    by_cases hlc:lc=k
    .subst hlc;go_wp2_with fail
     all_goals go_meet
     all_goals exact⟨_,_,rfl,rfl,rfl,rfl,GH fun W hW=>((G9 HLV W hW).drop hkl).1 rfl⟩
    .go_wp2_with fail
     all_goals go_meet
     all_goals exact⟨_,_,rfl,rfl,rfl,rfl,GH fun W hW=>((G9 HLV W hW).drop hkl).2 hlc⟩
   case rest=>
    obtain⟨la,lcc,rfl,rfl,rfl,rfl,HLD⟩:=hcut;clear HLV hcap hnq k0 kk1 k2 hkt;go_wp2_with fail
    go_loopg [73] (l.length-k) (fun kx s73 wr=>∃i:Nat,s73=I0 i/\i<=l.length-k/\l.length-k-i<=kx/\Hid (LF w wr q5 (st i)))
    case atStart=>exact⟨0,rfl,AZ _,by omega,GH (by rw[h0];exact G9 LF5)⟩
    case round=>
     obtain⟨i,rfl,hi,hgi,hR⟩:=hrel;by_cases hlt:i<l.length-k
     .clear h0 LF5;obtain⟨x,hx⟩:∃x,(l.drop k)[i]?=G8 x:=⟨_,AO (by simp;omega)⟩;obtain⟨gad,gnd,gcd,gal,gcl,gan,gcn,gai,gci,gaw,gcw,hbw,hr,ha,hq,hd,ol,on,oi,ow,sep,n1,n2,n3⟩:=G9 hR;obtain⟨b,o,c,he,hb,q,hq9⟩:=ZL (G9 HLD wr hbw) hx;simp only[AQ]at he;obtain⟨rfl,he2,rfl⟩:=he;clear he2 hq9;have e0:=q.z hx;have e1:=q.o hx;have e2:=q.s hx;have e3:=q.p hx;have e4:=q.d hx;have e5:=q.v hx;have e6:=q.w hx;obtain⟨tz',tp',td',tn',d1,hst,G⟩:=G9 HTK i x hx;obtain⟨xz,xo,xs,xp,xd,xv,xw⟩:=x;have hal:=GI wr (FW #[I0 xz,I0 xo,I0 xs,S0 xp,S0 xd,I0 xv,I0 xw] 59);have CT:=GH (CL4 (st i).up (st i).id (st i).ep (st i).dn (st i).tr.z (st i).fs (st i).ts (⟨xz,xo,xs,xp,xd,xv,xw⟩:GV) true (FV gad gnd gcd) (FV gal (st i).ts.length gcl) gan gai gaw (st i).tr.ns.length gcn (st i).tr.ss.length gci (st i).ws.length gcw _ (hd.next hal) (MJ.1 (ol.next hal).seq) tz' d1 (w.heap.size+2) (by have:=ha.lt;have:=hal.size;omega) (ol.next hal) tn' tp' td' G);unfold JC at CT;simp only at e0 e1 e2 e3 e4 e5 e6 CT;have LS:=GH (fun V a n c a2 c2 (tn:List GV) (T:Touch _ _ V) (D:IY V (FV a n c) d1) (L:I5 V (w.heap.size+2) (FV a2 tn.length c2) tn) hl=>C70 (s:=(st i)) (GK hbw hal) (hr.next hal) (ha.next hal) hq (ol.next hal) (on.next hal) (oi.next hal) (ow.next hal) sep n1 n2 n3 T D L hl);obtain⟨x0,x1,x2,x3,x4,x5,x6,x7,x8,x9⟩:=(ha.next hal).cells;have vT:(i:Int)<((l.length-k:Nat):Int):=by omega
      clear q hx hal hbw hr ha hd ol on oi ow sep n1 n2 n3 hR tz' tp' td' tn' G;go_wp2_with fail;generalize wr.alloc (FW #[I0 xz,I0 xo,I0 xs,S0 xp,S0 xd,I0 xv,I0 xw] 59)=W6 at*;refine(G9 CT).mono ?_;rintro e w7 ⟨a7,n7,c7,b7,f7,rfl,D7,L7,hl7,T7⟩;obtain⟨HA7,LF7⟩:=G9 LS w7 a7 n7 c7 b7 f7 ((st i).ts++[(⟨xz,xo,xs,xp,xd,xv,xw⟩:GV)]) T7 D7 L7 hl7;rw[<-hst]at LF7;generalize (st i).ts++[(⟨xz,xo,xs,xp,xd,xv,xw⟩:GV)]=tn at*;have HLF7:=GH LF7;clear x0 x1 x2 x3 x4 x5 x6 x7 x8 x9;obtain⟨x0,x1,x2,x3,x4,x5,x6,x7,x8,x9⟩:=HA7.cells;have xf0:=HA7.H6 0;have xf1:=HA7.H6 1;have xf2:=HA7.H6 2;have xf3:=HA7.H6 3;have xf4:=HA7.H6 4;have xf5:=HA7.H6 5;have xf6:=HA7.H6 6;have xf7:=HA7.H6 7;have xf8:=HA7.H6 8;have xf9:=HA7.H6 9;clear LF7 D7 L7 hl7 T7 HA7 LS CT hst e0 e1 e2 e3 e4 e5 e6;unfold NY at HLF7;go_wp2_with fail
      go_roundg (l.length-k-(i+1))
      case measure=>omega
      case rel=>exact⟨i+1,rfl,by omega,AA _,HLF7⟩
     .obtain rfl:i=l.length-k:=by omega
      obtain⟨gad,gnd,gcd,gal,gcl,gan,gcn,gai,gci,gaw,gcw,hbw,hr,ha,hq,hd,ol,on,oi,ow,sep,n1,n2,n3⟩:=G9 hR;obtain⟨x0,x1,x2,x3,x4,x5,x6,x7,x8,x9⟩:=ha.cells;obtain⟨r0,r1,r2,r3,r4,r5,r6,r7,r8,r9⟩:=hr.cells;have rf0:=hr.H6 0;have rf1:=hr.H6 1;have rf2:=hr.H6 2;have rf3:=hr.H6 3;have rf4:=hr.H6 4;have rf5:=hr.H6 5;have rf6:=hr.H6 6;have rf7:=hr.H6 7;have rf8:=hr.H6 8;have rf9:=hr.H6 9;have PN:=GH (bJ (s:=st (l.length-k)) hr.fK hd (MJ.1 ol.seq) on.seq oi.seq (VL oi (by omega)) ow.seq);have HB9:=GH hbw;have FR9:=GH (DJ (LJ oi) (LJ ow));have hdl:(l.drop k).length=l.length-k:=by simp
      clear hbw hr ha hd ol on oi ow sep n1 n2 n3 hR;go_wp2_with fail;refine bodyPost_ret (v:=.tuple #[.agg #[.bool (st (l.length-k)).up,FV gad gnd gcd,I0 (st (l.length-k)).id,I0 (st (l.length-k)).ep,FV gal (st (l.length-k)).ts.length gcl,I0 (st (l.length-k)).dn,I0 (st (l.length-k)).tr.z,FV gan (st (l.length-k)).tr.ns.length gcn,FV gai (st (l.length-k)).tr.ss.length gci,FV gaw (st (l.length-k)).ws.length gcw],I0 0]) (by simp[results,results60,go_sem,r0,r1,r2,r3,r4,r5,r6,r7,r8,r9]) rfl ?_;rw[hdl];exact⟨⟨gad,gnd,gcd,gal,_,gcl,gan,_,gcn,gai,_,gci,gaw,_,gcw,rfl,GH ⟨G9 PN,(G9 FR9).1.lower (by omega)⟩,JE (G9 HB9) (by omega) _ _ _ _ _ _ _ _ _ _⟩,CL9 ((G9 FR9).2.lower (by omega))⟩
def YS(e:Int):DF:=⟨JL,QX (L9 e 0),[]⟩
theorem BY1:bl JL OE=true:=by decide
theorem eY(s t:List UInt8):Gap [⟨OE,s,t⟩] [] [⟨OE,s,t⟩] JL:=⟨rfl,by simp,by simp[BY1]⟩
theorem bY(a b s t:List UInt8):There [⟨JL,a,b⟩,⟨OE,s,t⟩] [] ⟨JL,a,b⟩ [⟨OE,s,t⟩] JL:=(eY s t).ins (f':=⟨JL,a,b⟩) rfl
theorem kX(a b s t:List UInt8):There [⟨JL,a,b⟩,⟨OE,s,t⟩] [⟨JL,a,b⟩] ⟨OE,s,t⟩ [] OE:=⟨rfl,rfl,by simp[BY1],by simp⟩
theorem U1{a b s t:List UInt8}(h1:a.length+b.length<=1048576)(h2:s.length+t.length<=1048576):LV [⟨JL,a,b⟩,⟨OE,s,t⟩]:=
 qW (bT h2) (eY s t) ZK (by simp) (f':=⟨JL,a,b⟩) rfl h1
theorem C72{m:List GV}{e:Int}(he:zIn e=true)(hm:(IJ m).length<=1048576):kT 100 (fun x=>#[x,I0 e]) [PL m] [YS e,PL m] 0:=by
 have hx:=aX (L9 e 0);have g0:LV [PL m]:=bT (by simpa using hm);have g1:LV [⟨JL,[],QX (L9 e 0)⟩,PL m]:=U1 (by simp;omega) (by simpa using hm);refine A37 [PL m] [] [⟨JL,[],QX (L9 e 0)⟩,PL m] [YS e,PL m] e 7 0 (UD he (by decide)).2 (by decide) (vZ fun v W hv=>?_) (MX fun v W hv=>?_) (MX fun v W hv=>?_)
 .exact AY9 v [PL m] JL 7 W hv (JX g0) (.inr ⟨g0,⟨_,_,eY (IJ m) []⟩,rfl⟩)
 .exact bG v [PL m] [] [PL m] JL (QX (L9 e 0)) W hv (JX g0) g0 ZK (by simp) (eY (IJ m) []) (by omega)
 .have:=YJ v _ [] [PL m] ⟨JL,[],QX (L9 e 0)⟩ JL W hv (JX g1) g1 (bY [] (QX (L9 e 0)) (IJ m) []);simpa [YS]using this
theorem C73(h:Logs ts){j:Nat}(hx:ts[j]?=G8 x):TN x.z ts=ts.take (j+1):=by
 obtain⟨hj,hxe⟩:=AV.1 hx;have hr:=List.pairwise_iff_getElem.1 h.rise;unfold TN;have p1:∀t∈ts.take (j+1),decide (t.z<=x.z)=true:=by
  intro t ht;obtain⟨i,hi,rfl⟩:=List.getElem_of_mem ht;have hi':i<j+1:=by simp at hi;omega
  simp only[List.getElem_take,decide_eq_true_eq];rw[<-hxe];by_cases e:i=j
  .subst e;exact Int.le_refl _
  .have:=hr i j (by omega) hj (by omega);omega
 have e0:=List.takeWhile_append_of_pos (l₂:=ts.drop (j+1)) p1;rw[DW]at e0;rw[e0]
 cases hd:ts.drop (j+1)with
 |nil=>simp
 |cons y r=>
  have hy:ts[j+1]?=G8 y:=by
   have:=congrArg (fun l=>l[0]?) hd;simpa using this
  obtain⟨hk,rfl⟩:=AV.1 hy;have:=hr j (j+1) hj hk (by omega);rw[hxe]at this;rw[List.takeWhile_cons_of_neg (by simp;omega),DV]
theorem BO6{d:List GV}(h:d[i]?=G8 x):d=d.take i++x::d.drop (i+1):=by
 obtain⟨hk,rfl⟩:=AV.1 h;simp
theorem lQ{α:Type}[Lay α]{w:FX}{ops:Array Oper}{rest:List Oper}{o:Oper}{a:Act}{Q:Exit->Act->FX->Prop}(hgd:o.guard=G6)(s x:Operand)(T:TypeId)
  (ho:o.op=.call {callee:=.builtin .append,args:=#[s,x],argTypes:=#[T,T]})
  (i0:TypeInfo) (z:FZ) (bytes:Nat) (hU:prog.underlying T=G8 (.slice (Lay.ty α))) (hi0:prog.info? (Lay.ty α)=G8 i0) (hz0:i0.zero=G8 z) (hz1:i0.size=Lay.k α) (hz2:i0.bytes=bytes) (hzs:z.cells.size=Lay.k α) (hk0:0<Lay.k α)
  (v:FZ) (ns:List α) (hs:a.eval s=v) (B:Nat) (hown:I5 w B v ns) (q:Nat) (hx:a.eval x=FV (G8 ⟨q,0,G6⟩) 1 1) (t:α) (hnews:JU w q t) (hl:(ns.length+1)*bytes<=140737488355328) (hm:ns.length+1<=maxLen) (hB:B<=w.heap.size)
  (h:∀a' c' w',I5 w' B (FV a' (ns.length+1) c') (ns++[t])->w.grownBy w' v.ownBlock->wpList prog ops Q rest (a.put o.dst (FV a' (ns.length+1) c')) w'):
  wpList prog ops Q (o::rest) a w:=by
 refine wpList_plain hgd fun K hK=>?_;obtain⟨v',w',hr,h2,h3,_⟩:=run_append_own (P:=prog) w B T o.type (Lay.ty α) i0 z (Lay.k α) bytes hU hi0 hz0 hz1 hz2 hzs hk0 v ns.length (GL ns) hown.row ⟨q,0,G6⟩ 1 1 (Lay.cs t) (by rw[Lay.len,Nat.one_mul]) (RZ hnews) (Lay.one t) hm hl hB;have h2':I5 w' B v' (ns++[t]):=I5.LD (by rw[AP,JJ];exact h2);obtain⟨a',c',rfl,_⟩:=h2'.slice;rw[AP,List.length_singleton]at h2' hr;unfold Oper.wp execOp;simp only[ho,resolve,invoke,builtin,Sem.run_bind,Sem.run_pure,Result.andThen_ok,List.map_toArray,List.map_cons,List.map_nil,hs,hx,hr];exact hK _ _ (h a' c' w' h2' h3)
