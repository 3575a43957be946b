/-
  Part.
-/
import Derived.Test.YtenkgjfahcgppaaGreatDoorLOP
import Derived.Test.YtenkgjfahcgppaaGreatDoorLOT
import Derived.Test.YtenkgjfahcgppaaGreatDoorLOQ
import Derived.Test.YtenkgjfahcgppaaGreatDoorLOO
set_option maxRecDepth 20000
set_option maxHeartbeats 8000000
namespace Go.Proofs.YtenkgjfahcgppaaGreatDoor
open Go.RowKit Go.Proofs.Tryz
variable{α:Type}{W w V:World}{B k c ka kn kr i:Nat}{v vd vl vn vs vw vN vd0 vl0 vn0 vs0 vw0:Value}{up up0:Bool}{id ep dn z E id0 ep0 dn0 z0:Int}{s:Sv}{N:List Nt}{x:AQ}{xs ts:List AQ}{e:Ending}{a:Option Addr}
noncomputable def TU(s:Sv)(x:AQ):List Wa:=if x.o=2 then iO (G9 s.ws (VH s.tr x)) x.s else G9 s.ws (VH s.tr x)
noncomputable def aA(s:Sv)(x:AQ):Sv:=⟨s.up,s.fs,s.id,s.ep,s.ts,s.dn,aX s.tr x,TU s x⟩
theorem PU[Lay α]{xs:List α}{c:Array Value}{T:TypeId}{fz:Nat×Nat}(h:BD W B v xs)(hk:W.heap[k]?=some (.cells c T fz))(hne:T≠Lay.ty α):v.ownBlock≠some k:=by
 intro e;rcases h with⟨rfl,_⟩|⟨g,cap,rfl,_,rest,h1,_⟩
 .simp[Value.ownBlock]at e
 .simp only[Value.ownBlock,Option.some.injEq]at e;subst e;rw[h1]at hk;simp at hk;exact hne hk.2.1.symm
theorem AV3{β:Type}[Lay α][Lay β]{C:Nat}{u:Value}{xs:List α}{ys:List β}(h:BD W B u xs)(k:BD W C v ys)(hne:Lay.ty α≠Lay.ty β):∀q,u.ownBlock=some q->some q≠v.ownBlock:=by
 intro q hq e;rcases h with⟨rfl,rfl⟩|⟨g,cap,rfl,_,rest,h1,_⟩
 .simp[Value.ownBlock]at hq
 .rcases k with⟨rfl,rfl⟩|⟨g',cap',rfl,_,rest',h1',_⟩
  .simp[Value.ownBlock]at e
  .simp only[Value.ownBlock,Option.some.injEq]at hq e;subst hq e;rw[h1]at h1';simp at h1';exact hne h1'.2
theorem Y0[Lay α]{xs:List α}(h:BD W B v xs)(hb:BO W k up vd id ep vl dn z vn vs vw)(hne:43≠Lay.ty α):v.ownBlock≠some k:=by
 unfold BO at hb;exact PU h hb hne
structure CI(w W:World)(ka kn kr:Nat)(s:Sv)(N:List Nt)(vd vl vn vs vw vN:Value):Prop where
 box:BO W ka s.up vd s.id s.ep vl s.dn s.tr.z vn vs vw
 nb:W.heap[kn]?=some (.cells #[vN] 63 (0,0))
 d:BD W w.heap.size vd s.fs
 l:BD W w.heap.size vl s.ts
 n:BD W w.heap.size vn s.tr.ns
 i:BD W w.heap.size vs s.tr.ss
 o:BD W w.heap.size vw s.ws
 t:BD W w.heap.size vN N
 below:B0 w W
 ha:w.heap.size<=ka
 hn:w.heap.size<=kn
 ne:ka≠kn
 r:BO W kr false (N0) 0 0 (N0) 0 0 (N0) (N0) (N0)
 r1:kr≠ka
 r2:kr≠kn
 hr:w.heap.size<=kr
theorem CI.next(h:CI w W ka kn kr s N vd vl vn vs vw vN)(hb:B0 W V):CI w V ka kn kr s N vd vl vn vs vw vN:=
 ⟨h.box.next hb,(hb.block kn (Array.getElem?_eq_some_iff.1 h.nb).1).trans h.nb,h.d.next hb,h.l.next hb,h.n.next hb,h.i.next hb,h.o.next hb,h.t.next hb,AL h.below hb,h.ha,h.hn,h.ne,h.r.next hb,h.r1,h.r2,h.hr⟩
theorem ML[Lay α]{j:Nat}{xs:List α}(h:BD W B v xs)(hb:BO W k up vd id ep vl dn z vn vs vw)(hne:43≠Lay.ty α)(u:Value):BD (W.setCell ⟨k,j,none⟩ u) B v xs:=
 h.other (Y0 h hb hne) u
theorem CI.tree{vn' vs' vw':Value}{t':Tr}{ws':List Wa}(h:CI w W ka kn kr s N vd vl vn vs vw vN)(hn':BD W w.heap.size vn' t'.ns)(hs':BD W w.heap.size vs' t'.ss)(hw':BD W w.heap.size vw' ws'):
  CI w ((((W.setCell ⟨ka,6,none⟩ (I0 t'.z)).setCell ⟨ka,7,none⟩ vn').setCell ⟨ka,8,none⟩ vs').setCell ⟨ka,9,none⟩ vw') ka kn kr ⟨s.up,s.fs,s.id,s.ep,s.ts,s.dn,t',ws'⟩ N vd vl vn' vs' vw' vN:=by
 have b1:BO (W.setCell ⟨ka,6,none⟩ (I0 t'.z)) ka s.up vd s.id s.ep vl s.dn t'.z vn vs vw:=AV (j:=6) _ h.box;have b2:BO ((W.setCell ⟨ka,6,none⟩ (I0 t'.z)).setCell ⟨ka,7,none⟩ vn') ka s.up vd s.id s.ep vl s.dn t'.z vn' vs vw:=AV (j:=7) _ b1;have b3:BO (((W.setCell ⟨ka,6,none⟩ (I0 t'.z)).setCell ⟨ka,7,none⟩ vn').setCell ⟨ka,8,none⟩ vs') ka s.up vd s.id s.ep vl s.dn t'.z vn' vs' vw:=AV (j:=8) _ b2;have b4:BO ((((W.setCell ⟨ka,6,none⟩ (I0 t'.z)).setCell ⟨ka,7,none⟩ vn').setCell ⟨ka,8,none⟩ vs').setCell ⟨ka,9,none⟩ vw') ka s.up vd s.id s.ep vl s.dn t'.z vn' vs' vw':=AV (j:=9) _ b3;have keep:∀ {α:Type} [Lay α] {v:Value} {xs:List α},BD W w.heap.size v xs->43≠Lay.ty α->BD ((((W.setCell ⟨ka,6,none⟩ (I0 t'.z)).setCell ⟨ka,7,none⟩ vn').setCell ⟨ka,8,none⟩ vs').setCell ⟨ka,9,none⟩ vw') w.heap.size v xs:=
  fun h0 hne=>ML (ML (ML (ML h0 h.box hne _) b1 hne _) b2 hne _) b3 hne _
 refine⟨b4,?_,keep h.d (by decide),keep h.l (by decide),keep hn' (by decide),keep hs' (by decide),keep hw' (by decide),keep h.t (by decide),(((h.below.setCell h.ha _).setCell h.ha _).setCell h.ha _).setCell h.ha _,h.ha,h.hn,h.ne,(((h.r.other h.r1).other h.r1).other h.r1).other h.r1,h.r1,h.r2,h.hr⟩;exact(Below.heap_setCell _ _ _ _ (Ne.symm h.ne)).trans ((Below.heap_setCell _ _ _ _ (Ne.symm h.ne)).trans ((Below.heap_setCell _ _ _ _ (Ne.symm h.ne)).trans ((Below.heap_setCell _ _ _ _ (Ne.symm h.ne)).trans h.nb)))
theorem CI.note{N':List Nt}{vN':Value}(h:CI w W ka kn kr s N vd vl vn vs vw vN)(hg:W.grownBy V vN.ownBlock)(ho:BD V w.heap.size vN' N'):
  CI w (V.setCell ⟨kn,0,none⟩ vN') ka kn kr s N' vd vl vn vs vw vN':=by
 have na:some ka≠vN.ownBlock:=fun e=>Y0 h.t h.box (by decide) e.symm;have nn:some kn≠vN.ownBlock:=fun e=>PU h.t h.nb (by decide) e.symm;have bV:BO V ka s.up vd s.id s.ep vl s.dn s.tr.z vn vs vw:=(hg.block ka h.box.lt na).trans h.box;have nV:V.heap[kn]?=some (.cells #[vN] 63 (0,0)):=(hg.block kn (Array.getElem?_eq_some_iff.1 h.nb).1 nn).trans h.nb;have keep:∀ {α:Type} [Lay α] {v:Value} {xs:List α},BD W w.heap.size v xs->Lay.ty α≠69->63≠Lay.ty α->BD (V.setCell ⟨kn,0,none⟩ vN') w.heap.size v xs:=fun h0 h1 h2=>by
  have k:=h0.grown hg (AV3 h0 h.t h1);exact k.other (PU k nV h2) _
 refine⟨bV.other h.ne,?_,keep h.d (by decide) (by decide),keep h.l (by decide) (by decide),keep h.n (by decide) (by decide),keep h.i (by decide) (by decide),keep h.o (by decide) (by decide),ho.other (PU ho nV (by decide)) _,(h.below.grown hg h.below.size (fun g e=>?_)).setCell h.hn _,h.ha,h.hn,h.ne,BO.other ((hg.block kr h.r.lt (fun e=>Y0 h.t h.r (by decide) e.symm)).trans h.r) h.r2,h.r1,h.r2,h.hr⟩
 .rw[AV _ nV];rfl
 .rcases h.t with⟨e1,_⟩|⟨g',cap,e1,hB,_⟩
  .rw[e1]at e;simp[Value.ownBlock]at e
  .rw[e1]at e;simp only[Value.ownBlock,Option.some.injEq]at e;omega
theorem BN[Lay α]{xs:List α}(h:BD W B v xs):∃a c,v=.slice a xs.length c:=by
 obtain⟨a,c,e,_⟩:=h.slice;exact⟨a,c,e⟩
theorem AV4(W:World)(ty:TypeId)(B C:Nat)(v u:Value)(N T:List Nt)(hv:BD W B v N)(hu:BD W C u T)(hl:(N.length+T.length)*32<=140737488355328)(hB:B<=W.heap.size):
  ∃v' w',(Builtin.append_ #[63,63] ty #[v,u]).run prog W=.ok v' w'/\BD w' B v' (N++T)/\W.grownBy w' v.ownBlock:=by
 obtain⟨i0,hi0,hz0,hz1,hz2⟩:=AQ5;rcases hu with⟨rfl,rfl⟩|⟨g,cap,rfl,_,hr⟩
 .refine⟨v,W,run_append_owned_none (P:=prog) (w:=W) B 63 ty 69 i0 3 underlying63 hi0 v N.length (AO N) hv.row,by rw[List.append_nil];exact hv,⟨rfl,rfl,rfl,Nat.le_refl _,fun _ _ _=>rfl⟩⟩
 .obtain⟨v',w',h1,h2,h3,_⟩:=run_append_own (P:=prog) W B 63 ty 69 i0 _ 3 32 underlying63 hi0 hz0 hz1 hz2 rfl (by decide) v N.length (AO N) hv.row ⟨g,0,none⟩ T.length cap (AO T) (BA T) (fun j x hj=>by rw[Addr.add_lit];exact hr.row j x hj) (EZ T) (by simp only[maxLen];omega) hl hB;exact⟨v',w',h1,BD.G8 (by rw[List.length_append,BH];exact h2),h3⟩
theorem aB{w:World}{ops:Array Oper}{rest:List Oper}{o:Oper}{a:Act}{Q:Exit->Act->World->Prop}(hgd:o.guard=none)(s x:Operand)
  (ho:o.op=.call {callee:=.builtin .append,args:=#[s,x],argTypes:=#[63,63]})
  (B C:Nat) (v u:Value) (N T:List Nt) (hs:a.eval s=v) (hx:a.eval x=u) (hv:BD w B v N) (hu:BD w C u T) (hl:(N.length+T.length)*32<=140737488355328) (hB:B<=w.heap.size)
  (h:∀a' c' w',BD w' B (.slice a' (N++T).length c') (N++T)->w.grownBy w' v.ownBlock->wpList prog ops Q rest (a.put o.dst (.slice a' (N++T).length c')) w'):wpList prog ops Q (o::rest) a w:=by
 refine wpList_plain hgd fun K hK=>?_;obtain⟨v',w',hr,h2,h3⟩:=AV4 w o.type B C v u N T hv hu hl hB;obtain⟨a',c',rfl⟩:=BN h2;unfold Oper.wp execOp;simp only[ho,resolve,invoke,builtin,Sem.run_bind,Sem.run_pure,Result.andThen_ok,List.map_toArray,List.map_cons,List.map_nil,hs,hx,hr];exact hK _ _ (h a' c' w' h2 h3)
theorem jX{T:List Nt}(h:BD W B v T)(hb:BO W ka up vd id ep vl dn z vn vs vw)(x6 x7 x8 x9:Value):BD ((((W.setCell ⟨ka,6,none⟩ x6).setCell ⟨ka,7,none⟩ x7).setCell ⟨ka,8,none⟩ x8).setCell ⟨ka,9,none⟩ x9) B v T:=by
 have hk:=Y0 h hb (by decide);exact(((h.other hk x6).other hk x7).other hk x8).other hk x9
structure CFit(s:Sv)(N:List Nt)(x:AQ):Prop where
 wf:WfT s.tr
 xd:x.d.length<=140737488355328
 xp:x.p.length<=140737488355328
 sh:iQ s.ws
 wl:s.ws.length*32<=140737488351232
 nl:(N.length+s.ws.length)*32<=140737488351232
def CO3(w W w':World)(ka kn kr:Nat)(s:Sv)(N:List Nt)(x:AQ)(E:Int)(T:Tr)(V:List Ev)(SW:List Wa):Prop:=
 B0 w w'/\(E≠0->B0 W w')/\
 (E=0->∃ad nd cd al cl an cn ai ci aw cw aN cN,CI w w' ka kn kr (aA s x) (N++KP s.ws V) (.slice ad nd cd) (.slice al s.ts.length cl) (.slice an T.ns.length cn) (.slice ai T.ss.length ci) (.slice aw SW.length cw) (.slice aN (N.length+(KP s.ws V).length) cN))
theorem WJ{ws:List Wa}(h:iQ ws)(es:List Ev):iQ (G9 ws es):=fun x hx=>h x (AP9 ws es x hx)
theorem AF6{t:Tr}(hw:WfT t)(hp:x.p.length<=140737488355328):BP8 (VH t x):=by
 have hdl:∀p:List UInt8,(BU p).length<=140737488355328:=fun p=>by have:=TF p;omega
 intro e he;by_cases h:UL t x=0
 .rw[VH,if_pos h,lN]at he;by_cases h2:x.o=2
  .rw[if_pos h2]at he;obtain⟨q,hq,he⟩:=List.mem_flatMap.1 he;obtain⟨n,hn,rfl⟩:=List.mem_map.1 hq;have hn':=hw.CC4 n (List.mem_filter.1 hn).1;simp only[List.mem_cons,List.not_mem_nil,or_false]at he;rcases he with rfl|rfl
   .exact hn'.1
   .exact hdl _
  .rw[if_neg h2]at he;by_cases h3:x.o=3
   .rw[if_pos h3]at he;simp only[List.mem_cons,List.not_mem_nil,or_false]at he;rcases he with rfl|rfl
    .exact hp
    .exact hdl _
   .rw[if_neg h3]at he;by_cases h4:x.o=4
    .rw[if_pos h4]at he;simp only[List.mem_cons,List.not_mem_nil,or_false]at he;rcases he with rfl|rfl
     .exact hp
     .exact hdl _
    .rw[if_neg h4]at he;by_cases h5:x.o=5
     .rw[if_pos h5]at he;simp only[List.mem_cons,List.not_mem_nil,or_false]at he;subst he;exact hp
     .rw[if_neg h5]at he;simp at he
 .rw[VH,if_neg h]at he;simp at he
theorem xZ(w W:World)(ka kn kr:Nat)(s:Sv)(N:List Nt)(x:AQ)(ad al an ai aw aN:Option Addr)(nd cd cl cn ci cw cN:Nat)
  (h:CI w W ka kn kr s N (.slice ad nd cd) (.slice al s.ts.length cl) (.slice an s.tr.ns.length cn) (.slice ai s.tr.ss.length ci) (.slice aw s.ws.length cw) (.slice aN N.length cN)) (hf:CFit s N x):
  Calls prog 184 #[DW x,P0 ka,P0 kn] W fun e w'=>e=.returned (I0 (UL s.tr x))/\CO3 w W w' ka kn kr s N x (UL s.tr x) (aX s.tr x) (VH s.tr x) (TU s x):=by
 have h1:=h.next (AB W (.cells #[I0 x.z,I0 x.o,I0 x.s,S0 x.p,S0 x.d,I0 x.v,I0 x.w] 49));have T1:=TAt.new W x;have CA:=AA (fun vn vs V (h2:BQ V vn s.tr.ns) (h3:BQ V vs s.tr.ss)=>fC s.tr vn vs x V h2 h3 hf.wf hf.xd);have CFi:=AA (fun v u V (h2:BQ V v s.ws) (h3:BQ V u (VH s.tr x))=>BF3 v u s.ws (VH s.tr x) V h2 h3 hf.sh (AF6 hf.wf hf.xp) hf.wl (AU7 s.tr x).2.2);have hfl:=bC (VH s.tr x) s.ws;have CD:=AA (fun v V (h2:BQ V v (G9 s.ws (VH s.tr x)))=>BF4 v x.s (G9 s.ws (VH s.tr x)) V h2 (WJ hf.sh _) (by have:=hf.wl;omega));have HNL:Hid ((N.length+(KP s.ws (VH s.tr x)).length)*32<=140737488355328):=AA (by have:=hf.nl;omega);have HSW:Hid ((x.o=2->TU s x=iO (G9 s.ws (VH s.tr x)) x.s)/\(x.o≠2->TU s x=G9 s.ws (VH s.tr x))):=AA ⟨fun e=>by simp[TU,e],fun e=>by simp[TU,e]⟩;have HC1:=AA h1;have HBA:=AA (AB W (.cells #[I0 x.z,I0 x.o,I0 x.s,S0 x.p,S0 x.d,I0 x.v,I0 x.w] 49));have HT1:=AA T1;have HSS:Hid (aA s x=⟨s.up,s.fs,s.id,s.ep,s.ts,s.dn,aX s.tr x,TU s x⟩):=AA rfl;obtain⟨x0,x1,x2,x3,x4,x5,x6,x7,x8,x9⟩:=h1.box.cells;have t0:=T1.c0;have t1:=T1.c1;have t2:=T1.c2;have t3:=T1.c3;have t4:=T1.c4;have t5:=T1.c5;have t6:=T1.c6;unfold VK at CA;clear h h1 T1 hf hfl;obtain⟨z,o,u,p,d,y,v⟩:=x;generalize UL s.tr ⟨z,o,u,p,d,y,v⟩=E at*;generalize aX s.tr ⟨z,o,u,p,d,y,v⟩=T at*;generalize VH s.tr ⟨z,o,u,p,d,y,v⟩=V at*;generalize TU s ⟨z,o,u,p,d,y,v⟩=SW at*;unfold DW at*;simp only at*;go_enter func184,ntmps184;go_upto_region 1 with fail;generalize W.alloc (.cells #[I0 z,I0 o,I0 u,S0 p,S0 d,I0 y,I0 v] 49)=W1 at*;obtain⟨kx,hkx⟩:∃kx,W.heap.size=kx:=⟨_,rfl⟩;rw[hkx];rw[hkx]at t0 t1 t2 t3 t4 t5 t6 HT1;clear hkx;go_wp2_with fail;refine(A8 CA _ _ _ (A8 HC1).n.seq (A8 HC1).i.seq).mono ?_;rintro e w2 ⟨vn2,vs2,ve2,rfl,on2,oi2,oe2,hb2⟩;obtain⟨bn,fn,rfl⟩:=BN on2;obtain⟨bi,fi,rfl⟩:=BN oi2;obtain⟨be,fe,rfl⟩:=BN oe2;have hal:=AB w2 (.cells #[I0 T.z,.slice bn T.ns.length fn,.slice bi T.ss.length fi] 40);have HC2:=AA (((A8 HC1).next hb2).next hal);have HT2:=AA (((A8 HT1).next hb2).next hal);have HZ1:=(A8 HC1).below.size;have HBE:=AA (AL (AL (A8 HBA) hb2) hal);have HON:=AA ((on2.next hal).lower HZ1);have HOI:=AA ((oi2.next hal).lower HZ1);have HOE:=AA (oe2.next hal);have HTB:Hid ((w2.alloc (.cells #[I0 T.z,.slice bn T.ns.length fn,.slice bi T.ss.length fi] 40)).heap[w2.heap.size]?=some (.cells #[I0 T.z,.slice bn T.ns.length fn,.slice bi T.ss.length fi] 40 (0,0))):=AA (heap_alloc_new w2 _);clear on2 oi2 oe2 hb2 hal HZ1 HC1 HT1 CA x0 x1 x2 x3 x4 x5 x6 x7 x8 x9 t0 t1 t2 t3 t4 t5 t6;go_upto_region 2 with fail;generalize w2.heap.size=kt at*;generalize w2.alloc (.cells #[I0 T.z,.slice bn T.ns.length fn,.slice bi T.ss.length fi] 40)=W2 at*;by_cases hE:E=0
 .subst hE;obtain⟨x0,x1,x2,x3,x4,x5,x6,x7,x8,x9⟩:=(A8 HC2).box.cells;go_wp2_with fail;refine(A8 CFi _ _ _ (A8 HC2).o.seq (A8 HOE).seq).mono ?_;rintro e w3 ⟨vn3,vl3,rfl,on3,⟨g3,rfl,hg3,or3⟩,hb3⟩;obtain⟨bN,fN,rfl⟩:=BN on3;have HC3:=AA ((A8 HC2).next hb3);have hz2:=(A8 HC2).below.size;have CL9:=AA ((A8 HON).next hb3);have CM0:=AA ((A8 HOI).next hb3);have HT3:=(A8 HT2).next hb3;have CC6:=AA ((hb3.block kt (Array.getElem?_eq_some_iff.1 (A8 HTB)).1).trans (A8 HTB));have CM1:=AA (on3.lower hz2);have CM2:Hid (BD w3 w.heap.size (.slice (some ⟨g3,0,none⟩) (G9 s.ws V).length (s.ws.length+1)) (G9 s.ws V)):=AA (.inr ⟨g3,_,rfl,by omega,or3⟩);have t1:=HT3.c1;have t2:=HT3.c2;simp only at t1 t2;clear on3 hg3 or3 hb3 hz2 HC2 HON HOI HT2 HTB HOE CFi x0 x1 x2 x3 x4 x5 x6 x7 x8 x9 HT3;by_cases ho:o=2
  .have hsw:=(A8 HSW).1 ho;subst hsw;subst ho;go_wp2_with fail;refine(A8 CD _ _ (A8 CM2).seq).mono ?_;rintro e w4 ⟨g4,rfl,hg4,or4,hb4⟩;have hz3:=(A8 HC3).below.size;have HCX:=AA ((A8 HC3).next hb4);have CC7:=AA ((A8 CL9).next hb4);have CC8:=AA ((A8 CM0).next hb4);have BF5:=AA ((hb4.block kt (Array.getElem?_eq_some_iff.1 (A8 CC6)).1).trans (A8 CC6));have CC9:=AA ((A8 CM1).next hb4);have CD0:Hid (BD w4 w.heap.size (.slice (some ⟨g4,0,none⟩) (iO (G9 s.ws V) u).length ((G9 s.ws V).length+1)) (iO (G9 s.ws V) u)):=AA (.inr ⟨g4,_,rfl,by omega,or4⟩);clear hg4 or4 hb4 hz3 HC3 CL9 CM0 CC6 CM1 CM2 CD t1 t2;have HTR:=AA ((A8 HCX).tree (t':=T) (vn':=.slice bn T.ns.length fn) (vs':=.slice bi T.ss.length fi) (A8 CC7) (A8 CC8) (A8 CD0));obtain⟨x0,x1,x2,x3,x4,x5,x6,x7,x8,x9⟩:=(A8 HCX).box.cells;have xf6:=(A8 HCX).box.AX 6;have xf7:=(A8 HCX).box.AX 7;have xf8:=(A8 HCX).box.AX 8;have xf9:=(A8 HCX).box.AX 9;have k0:w4.cell? ⟨kt,0,none⟩=some (I0 T.z):=by simp[World.cell?,A8 BF5]
   have k1:w4.cell? ⟨kt,1,none⟩=some (.slice bn T.ns.length fn):=by simp[World.cell?,A8 BF5]
   have k2:w4.cell? ⟨kt,2,none⟩=some (.slice bi T.ss.length fi):=by simp[World.cell?,A8 BF5]
   go_upto_region 8 with fail;have CO4:=AA (jX (A8 CC9) (A8 HCX).box (I0 T.z) (.slice bn T.ns.length fn) (.slice bi T.ss.length fi) (.slice (some ⟨g4,0,none⟩) (iO (G9 s.ws V) u).length ((G9 s.ws V).length+1)));generalize (((w4.setCell ⟨ka,6,none⟩ (I0 T.z)).setCell ⟨ka,7,none⟩ (.slice bn T.ns.length fn)).setCell ⟨ka,8,none⟩ (.slice bi T.ss.length fi)).setCell ⟨ka,9,none⟩ (.slice (some ⟨g4,0,none⟩) (iO (G9 s.ws V) u).length ((G9 s.ws V).length+1))=W5 at*;clear x0 x1 x2 x3 x4 x5 x6 x7 x8 x9 xf6 xf7 xf8 xf9 k0 k1 k2 HCX CC7 CC8 CD0 CC9 BF5;have n0:W5.cell? ⟨kn,0,none⟩=some (.slice aN N.length cN):=by simp[World.cell?,(A8 HTR).nb]
   go_wp2_with (at_builtin;refine aB rfl _ _ rfl w.heap.size w.heap.size (.slice aN N.length cN) _ N (KP s.ws V) rfl rfl (A8 HTR).t (A8 CO4) (A8 HNL) (A8 HTR).below.size ?_);intro a6 c6 w6 ho6 hg6;have HFI:=AA ((A8 HTR).note hg6 ho6);have m0:w6.cell? ⟨kn,0,none⟩=some (.slice aN N.length cN):=hg6.cell n0 (fun e=>PU (A8 HTR).t (A8 HTR).nb (by decide) e.symm);have mf:w6.frozen? ⟨kn,0,none⟩=false:=by
    have:=(hg6.block kn (Array.getElem?_eq_some_iff.1 (A8 HTR).nb).1 (fun e=>PU (A8 HTR).t (A8 HTR).nb (by decide) e.symm)).trans (A8 HTR).nb;simp[World.frozen?,this]
   clear ho6 hg6 n0;go_wp2_with fail;go_ret;exact⟨rfl,(A8 HFI).below,fun h=>absurd rfl h,fun _=>⟨ad,nd,cd,al,cl,bn,fn,bi,fi,(some ⟨g4,0,none⟩),((G9 s.ws V).length+1),a6,c6,by rw[A8 HSS];exact A8 HFI⟩⟩
  .have hsw:=(A8 HSW).2 ho;subst hsw;have HCX:=HC3;have CC7:=CL9;have CC8:=CM0;have BF5:=CC6;have CC9:=CM1;have CD0:=CM2;clear HC3 CL9 CM0 CC6 CM1 CM2 CD;have HTR:=AA ((A8 HCX).tree (t':=T) (vn':=.slice bn T.ns.length fn) (vs':=.slice bi T.ss.length fi) (A8 CC7) (A8 CC8) (A8 CD0));obtain⟨x0,x1,x2,x3,x4,x5,x6,x7,x8,x9⟩:=(A8 HCX).box.cells;have xf6:=(A8 HCX).box.AX 6;have xf7:=(A8 HCX).box.AX 7;have xf8:=(A8 HCX).box.AX 8;have xf9:=(A8 HCX).box.AX 9;have k0:w3.cell? ⟨kt,0,none⟩=some (I0 T.z):=by simp[World.cell?,A8 BF5]
   have k1:w3.cell? ⟨kt,1,none⟩=some (.slice bn T.ns.length fn):=by simp[World.cell?,A8 BF5]
   have k2:w3.cell? ⟨kt,2,none⟩=some (.slice bi T.ss.length fi):=by simp[World.cell?,A8 BF5]
   go_upto_region 8 with fail;have CO4:=AA (jX (A8 CC9) (A8 HCX).box (I0 T.z) (.slice bn T.ns.length fn) (.slice bi T.ss.length fi) (.slice (some ⟨g3,0,none⟩) (G9 s.ws V).length (s.ws.length+1)));generalize (((w3.setCell ⟨ka,6,none⟩ (I0 T.z)).setCell ⟨ka,7,none⟩ (.slice bn T.ns.length fn)).setCell ⟨ka,8,none⟩ (.slice bi T.ss.length fi)).setCell ⟨ka,9,none⟩ (.slice (some ⟨g3,0,none⟩) (G9 s.ws V).length (s.ws.length+1))=W5 at*;clear x0 x1 x2 x3 x4 x5 x6 x7 x8 x9 xf6 xf7 xf8 xf9 k0 k1 k2 HCX CC7 CC8 CD0 CC9 BF5;have n0:W5.cell? ⟨kn,0,none⟩=some (.slice aN N.length cN):=by simp[World.cell?,(A8 HTR).nb]
   go_wp2_with (at_builtin;refine aB rfl _ _ rfl w.heap.size w.heap.size (.slice aN N.length cN) _ N (KP s.ws V) rfl rfl (A8 HTR).t (A8 CO4) (A8 HNL) (A8 HTR).below.size ?_);intro a6 c6 w6 ho6 hg6;have HFI:=AA ((A8 HTR).note hg6 ho6);have m0:w6.cell? ⟨kn,0,none⟩=some (.slice aN N.length cN):=hg6.cell n0 (fun e=>PU (A8 HTR).t (A8 HTR).nb (by decide) e.symm);have mf:w6.frozen? ⟨kn,0,none⟩=false:=by
    have:=(hg6.block kn (Array.getElem?_eq_some_iff.1 (A8 HTR).nb).1 (fun e=>PU (A8 HTR).t (A8 HTR).nb (by decide) e.symm)).trans (A8 HTR).nb;simp[World.frozen?,this]
   clear ho6 hg6 n0;go_wp2_with fail;go_ret;exact⟨rfl,(A8 HFI).below,fun h=>absurd rfl h,fun _=>⟨ad,nd,cd,al,cl,bn,fn,bi,fi,(some ⟨g3,0,none⟩),(s.ws.length+1),a6,c6,by rw[A8 HSS];exact A8 HFI⟩⟩
 .go_wp2_with fail;go_ret;exact⟨rfl,(A8 HC2).below,fun _=>A8 HBE,fun h=>absurd h hE⟩
noncomputable def stP(p:Sv×List Nt)(x:AQ):Sv×List Nt:=(aA p.1 x,p.2++KP p.1.ws (VH p.1.tr x))
noncomputable def csP(s:Sv)(xs:List AQ)(i:Nat):Sv×List Nt:=(xs.take i).foldl stP (s,[])
theorem mZ(s:Sv)(xs:List AQ):csP s xs 0=(s,[]):=by simp[csP]
theorem A47(h:xs[i]?=some x):csP s xs (i+1)=stP (csP s xs i) x:=by
 unfold csP;rw[LV h,List.foldl_append];rfl
structure Chn(s:Sv)(xs:List AQ)(k:Nat):Prop where
 le:k<=xs.length
 ok:∀i x,i<k->xs[i]?=some x->UL (csP s xs i).1.tr x=0
 stop:∀x,xs[k]?=some x->UL (csP s xs k).1.tr x≠0
structure BF6(s:Sv)(xs:List AQ):Prop where
 wf:WfT s.tr
 sh:iQ s.ws
 wl:s.ws.length*32<=140737488351232
 xd:∀x∈xs,x.d.length<=140737488355328
 xp:∀x∈xs,x.p.length<=140737488355328
theorem rU(ws:List Wa)(s:Int):(iO ws s).length<=ws.length:=List.length_filter_le _ _
theorem BQ2(hB:BF6 s xs)(h:Chn s xs k):∀i,i<=k->
  (WfT (csP s xs i).1.tr/\iQ (csP s xs i).1.ws/\(csP s xs i).2.length+(csP s xs i).1.ws.length<=s.ws.length)/\
  ((csP s xs i).1.up=s.up/\(csP s xs i).1.fs=s.fs/\(csP s xs i).1.id=s.id/\(csP s xs i).1.ep=s.ep/\(csP s xs i).1.ts=s.ts/\(csP s xs i).1.dn=s.dn):=by
 intro i
 induction i with
 |zero=>
  intro _;rw[mZ];exact⟨⟨hB.wf,hB.sh,by simp⟩,rfl,rfl,rfl,rfl,rfl,rfl⟩
 |succ i ih=>
  intro hi;obtain⟨⟨a1,a2,a3⟩,b1,b2,b3,b4,b5,b6⟩:=ih (by omega);obtain⟨x,hx⟩:∃x,xs[i]?=some x:=⟨_,List.getElem?_eq_getElem (by have:=h.le;omega)⟩;have h0:=h.ok i x (by omega) hx;rw[A47 hx];generalize csP s xs i=c at*;have hl:=bC (VH c.1.tr x) c.1.ws;refine⟨⟨(XJ h0).1.wf,?_,?_⟩,b1,b2,b3,b4,b5,b6⟩
  .show iQ (TU c.1 x);unfold TU
   split
   .exact fun y hy=>WJ a2 _ y (List.mem_filter.1 hy).1
   .exact WJ a2 _
  .show (c.2++KP c.1.ws (VH c.1.tr x)).length+(TU c.1 x).length<=s.ws.length;have:(TU c.1 x).length<=(G9 c.1.ws (VH c.1.tr x)).length:=by
    unfold TU
    split
    .exact rU _ _
    .exact Nat.le_refl _
   rw[List.length_append];omega
theorem BX9(hB:BF6 s xs)(h:Chn s xs k)(hi:i<=k)(hx:xs[i]?=some x):CFit (csP s xs i).1 (csP s xs i).2 x:=by
 obtain⟨⟨a1,a2,a3⟩,_⟩:=BQ2 hB h i hi;have hm:=List.mem_of_getElem? hx;have:=hB.wl;exact⟨a1,hB.xd x hm,hB.xp x hm,a2,by omega,by omega⟩
def CO7(s:Sv)(t:AQ)(safe:Bool)(E:Int)(s':Sv):Prop:=
 (t.z<=DU s.ts/\E=13/\s'=sv0)\/(¬t.z<=DU s.ts/\E≠0/\s'=sv0/\∃d1,J9 209 (fun x=>#[x,DW t,.bool safe]) s.fs d1 E)\/
 (¬t.z<=DU s.ts/\E=0/\∃d1,s'=⟨s.up,d1,s.id,s.ep,s.ts++[t],s.dn,s.tr,s.ws⟩/\VP 209 (fun x=>#[x,DW t,.bool safe]) s.fs d1 0)
def CE0(w:World)(q:Nat)(s:Sv)(E:Int)(e:Ending)(w':World):Prop:=
 ∃ad nd cd al nl cl an nn cn ai ni ci aw nw cw,e=.returned (.tuple #[.agg #[.bool s.up,.slice ad nd cd,I0 s.id,I0 s.ep,.slice al nl cl,I0 s.dn,I0 s.tr.z,.slice an nn cn,.slice ai ni ci,.slice aw nw cw],I0 E])/\
  Hid (C9 w' (.slice ad nd cd) s.fs/\J8 w' (.slice al nl cl) s.ts/\BQ w' (.slice an nn cn) s.tr.ns/\BQ w' (.slice ai ni ci) s.tr.ss/\QT (.slice ai ni ci) q/\BQ w' (.slice aw nw cw) s.ws/\JV w.heap.size (.slice ai ni ci))/\B0 w w'
theorem kG{w':World}{q:Nat}(he:e=.returned (.tuple #[svZ,I0 E]))(hb:B0 w w'):CE0 w q sv0 E e w':=
 ⟨none,0,0,none,0,0,none,0,0,none,0,0,none,0,0,he,AA ⟨C9.nil _,J8.nil _,BQ.nil _,BQ.nil _,rE _ _ _,BQ.nil _,QJ _ _ _⟩,hb⟩
theorem IG[Lay α]{xs:List α}(h:BD W B v xs):JV B v:=by
 intro b off n c e;rcases h with⟨rfl,_⟩|⟨g,cap,rfl,hB,_⟩
 .simp at e
 .simp only[Value.slice.injEq,Option.some.injEq,Addr.mk.injEq]at e;omega
def ZE(w:World)(s:Sv)(E:Int)(e:Ending)(w':World):Prop:=
 ∃ad nd cd al nl cl an nn cn ai ni ci aw nw cw,e=.returned (.tuple #[.agg #[.bool s.up,.slice ad nd cd,I0 s.id,I0 s.ep,.slice al nl cl,I0 s.dn,I0 s.tr.z,.slice an nn cn,.slice ai ni ci,.slice aw nw cw],I0 E])/\
  Hid (SvV w' (.agg #[.bool s.up,.slice ad nd cd,I0 s.id,I0 s.ep,.slice al nl cl,I0 s.dn,I0 s.tr.z,.slice an nn cn,.slice ai ni ci,.slice aw nw cw]) s/\JV w.heap.size (.slice ai ni ci))/\B0 w w'
theorem FX[Lay α]{F:Nat->Prop}{xs:List α}(h:BD W B v xs)(ht:Touch F W V)(hf:∀k,v.ownBlock=some k->¬F k):BD V B v xs:=by
 rcases h with h|⟨g,cap,rfl,hB,h⟩
 .exact .inl h
 .obtain⟨rest,h1,h2⟩:=h;have hlt:=(Array.getElem?_eq_some_iff.1 h1).1;exact .inr ⟨g,cap,rfl,hB,rest,(ht.block g hlt (hf g rfl)).trans h1,h2⟩
theorem MW[Lay α]{xs:List α}(h:BD W B v xs)(hk:v.ownBlock=some k):B<=k:=by
 rcases h with⟨rfl,_⟩|⟨g,cap,rfl,hB,_⟩
 .simp[Value.ownBlock]at hk
 .simp[Value.ownBlock]at hk;omega
def FrT(w:World)(e:Ending):Prop:=∀x0 x1 x2 x3 x4 x5 x6 x7 x8 x9 z:Value,e=.returned (.tuple #[.agg #[x0,x1,x2,x3,x4,x5,x6,x7,x8,x9],z])->JV w.heap.size x1/\JV w.heap.size x4/\JV w.heap.size x7/\JV w.heap.size x9
theorem BQ7{x0 x1 x2 x3 x4 x5 x6 x7 x8 x9 z:Value}(h:JV w.heap.size x1/\JV w.heap.size x4/\JV w.heap.size x7/\JV w.heap.size x9):FrT w (.returned (.tuple #[.agg #[x0,x1,x2,x3,x4,x5,x6,x7,x8,x9],z])):=by
 intro u0 u1 u2 u3 u4 u5 u6 u7 u8 u9 t e;simp only[Ending.returned.injEq,Value.tuple.injEq,Value.agg.injEq,Array.mk.injEq,List.cons.injEq]at e;obtain⟨⟨_,rfl,_,_,rfl,_,_,rfl,_,rfl,_⟩,_⟩:=e;exact h
theorem FrT.lower(h:FrT W e)(hw:w.heap.size<=W.heap.size):FrT w e:=fun _ _ _ _ _ _ _ _ _ _ _ he=>by
 obtain⟨h1,h2,h3,h4⟩:=h _ _ _ _ _ _ _ _ _ _ _ he;exact⟨h1.lower hw,h2.lower hw,h3.lower hw,h4.lower hw⟩
theorem A54(he:e=.returned (.tuple #[svZ,I0 E])):FrT w e:=by
 rw[he];exact BQ7 ⟨QJ _ _ _,QJ _ _ _,QJ _ _ _,QJ _ _ _⟩
theorem yE(s s':Sv)(t:AQ)(safe:Bool)(E:Int)(hT:CO7 s t safe E s')(hp:t.p.length<=140737488355328)(hdl:t.d.length<=140737488355328)(hn:s.ts.length<=1000000000)(W w1:World)(q:Nat)(hq:q<W.heap.size)
  (ad al an ai aw:Option Addr) (nd cd cl cn ci cw B1 B2:Nat) (h1:W.heap.size<=B1) (h2:B1<=B2) (od:BD w1 W.heap.size (.slice ad nd cd) s.fs) (_hd1:∀k,(Value.slice ad nd cd).ownBlock=some k->k<B1)
  (ol:BD w1 B1 (.slice al s.ts.length cl) s.ts) (hl2:∀k,(Value.slice al s.ts.length cl).ownBlock=some k->k<B2) (on:BD w1 B2 (.slice an s.tr.ns.length cn) s.tr.ns) (oi:BD w1 B2 (.slice ai s.tr.ss.length ci) s.tr.ss) (ow:BD w1 B2 (.slice aw s.ws.length cw) s.ws) (hb1:B0 W w1):
  Calls prog 164 #[.agg #[.bool s.up,.slice ad nd cd,I0 s.id,I0 s.ep,.slice al s.ts.length cl,I0 s.dn,I0 s.tr.z,.slice an s.tr.ns.length cn,.slice ai s.tr.ss.length ci,.slice aw s.ws.length cw],DW t,.bool safe] w1 fun e w'=>CE0 W q s' E e w'/\FrT W e:=by
 have hd:=PD.1 od.seq;have hl:=FV.1 ol.seq;rcases hT with⟨hz,rfl,rfl⟩|⟨hz,hE,rfl,d1,G⟩|⟨hz,rfl,d1,rfl,G⟩
 .exact(AX4 s.up s.id s.ep s.dn s.tr.z s.fs s.ts t safe _ _ an ai aw _ cn _ ci _ cw w1 hd hl hz).mono fun e w' h=>⟨kG h.1 (AL hb1 h.2),A54 h.1⟩
 .exact(BZ1 s.up s.id s.ep s.dn s.tr.z s.fs s.ts t safe _ _ an ai aw _ cn _ ci _ cw w1 hd hl hz E d1 hE G).mono fun e w' h=>⟨kG h.1 (AL hb1 h.2),A54 h.1⟩
 .refine(AX6 s.up s.id s.ep s.dn s.tr.z s.fs s.ts t safe _ _ an ai aw _ cn _ ci _ cw w1 hd hl hz d1 W.heap.size hb1.size (ol.lower h1) hn hp hdl G).mono fun e w' h=>?_;obtain⟨⟨a,n,c,a2,c2,he,hd',ol',_,ht⟩,hfd⟩:=h;have hs:∀ {α:Type} [Lay α] {v:Value} {xs:List α},BD w1 B2 v xs->BD w' B2 v xs:=fun ho=>FX ho ht (fun k hk hf=>by have:=MW ho hk;have:=hl2 k hf;omega);refine⟨⟨a,n,c,a2,_,c2,an,_,cn,ai,_,ci,aw,_,cw,he,AA ⟨hd',FV.1 ol'.seq,(hs on).seq,(hs oi).seq,UW oi (by omega),(hs ow).seq,(IG oi).lower (by omega)⟩,?_⟩,?_⟩;rotate_left
  .have f1:=hfd _ _ _ _ _ _ _ _ _ _ _ he;rw[he];exact BQ7 ⟨f1.lower hb1.size,IG ol',(IG on).lower (by omega),(IG ow).lower (by omega)⟩
  exact hb1.trans (ht.below (B:=W.heap.size) hb1.size (fun k hk=>by have:=MW ol hk;omega))
theorem yF(s s':Sv)(v:Value)(t:AQ)(safe:Bool)(E:Int)(w:World)(hv:SvV w v s)(hf:BQ0 s)(hT:CO7 s t safe E s')(hp:t.p.length<=140737488355328)(hdl:t.d.length<=140737488355328)(hn:s.ts.length<=1000000000):
  Calls prog 147 #[v,DW t,.bool safe] w fun e w'=>ZE w s' E e w'/\FrT w e:=by
 have CC:=AA (fun W (hW:B0 w W)=>WG s v W (hv.next hW) hf);have CX:=AA (yE s s' t safe E hT hp hdl hn);obtain⟨ad,nd,cd,al,cl,an,cn,ai,ci,aw,cw,rfl,d1,l1,n1,s1,k1⟩:=hv.five;clear hv d1 l1 n1 s1 k1 hf hT hp hdl hn;obtain⟨up,fs,id,ep,ts,dn,⟨tz,tns,tss⟩,ws⟩:=s;obtain⟨z,o,s,p,d,y,u⟩:=t;unfold DW at*;simp only at*;go_enter func147,ntmps147;go_upto_region 1 with fail;have X:=AA (EB.start w up id ep dn tz (.slice ad nd cd) (.slice al ts.length cl) (.slice an tns.length cn) (.slice ai tss.length ci) (.slice aw ws.length cw) ⟨z,o,s,p,d,y,u⟩);have HB0:=AA (EB.A53 w (.cells #[.bool up,.slice ad nd cd,I0 id,I0 ep,.slice al ts.length cl,I0 dn,I0 tz,.slice an tns.length cn,.slice ai tss.length ci,.slice aw ws.length cw] 43) (.cells #[I0 z,I0 o,I0 s,S0 p,S0 d,I0 y,I0 u] 49) (.cells #[.bool false,N0,I0 0,I0 0,N0,I0 0,I0 0,N0,N0,N0] 43));simp only at X;generalize ((w.alloc (.cells #[.bool up,.slice ad nd cd,I0 id,I0 ep,.slice al ts.length cl,I0 dn,I0 tz,.slice an tns.length cn,.slice ai tss.length ci,.slice aw ws.length cw] 43)).alloc (.cells #[I0 z,I0 o,I0 s,S0 p,S0 d,I0 y,I0 u] 49)).alloc (.cells #[.bool false,N0,I0 0,I0 0,N0,I0 0,I0 0,N0,N0,N0] 43)=W0 at*;have K1:∀V,B0 W0 V->V.cell? ⟨w.heap.size+1,0,none⟩=some (I0 z)/\V.cell? ⟨w.heap.size+1,1,none⟩=some (I0 o)/\V.cell? ⟨w.heap.size+1,2,none⟩=some (I0 s)/\V.cell? ⟨w.heap.size+1,3,none⟩=some (S0 p)/\V.cell? ⟨w.heap.size+1,4,none⟩=some (S0 d)/\V.cell? ⟨w.heap.size+1,5,none⟩=some (I0 y)/\V.cell? ⟨w.heap.size+1,6,none⟩=some (I0 u):=fun V hV=>by
  have h:=((A8 X).next hV).x;exact⟨h.c0,h.c1,h.c2,h.c3,h.c4,h.c5,h.c6⟩
 have HK1:=AA K1;obtain⟨x0,x1,x2,x3,x4,x5,x6,x7,x8,x9⟩:=(A8 X).s.cells;obtain⟨e0,e1,e2,e3,e4,e5,e6⟩:=K1 W0 (Below.refl _ _);have hq:=(A8 X).lt;clear K1
 go_region_with (first
  |(go_at_call 163;refine(A8 CC _ (A8 HB0).drew).mono ?_;rintro e w1 ⟨bd,md,fd,bl,fl,bn,fn,bi,fi,bw,fw,B1,B2,rfl,h1,h2,od,hd1,ol,hl2,on,oi,ow,hb1⟩;have HB1:=AA (BK hb1);obtain⟨m0,m1,m2,m3,m4,m5,m6⟩:=A8 HK1 _ (A8 HB1);have CY:=AA (A8 CX _ _ (w.heap.size+1+1) (by show w.heap.size+1+1<W0.heap.size;omega) _ _ _ _ _ _ _ _ _ _ _ _ _ h1 h2 od hd1 ol hl2 on oi ow hb1);have X1:=AA ((A8 X).next (A8 HB1));clear h1 h2 od hd1 ol hl2 on oi ow hb1)
  |(go_at_call 164;refine(A8 CY).mono ?_;rintro e w2 ⟨⟨gd,nd2,cd2,gl,nl2,cl2,gn,nn2,cn2,gi,ni2,ci2,gw,nw2,cw2,rfl,H2,hb2⟩,hft⟩;have HFT:=AA hft;clear hft;have X2:=(A8 X).next (BK hb2);have R2:=X2.r;obtain⟨r0,r1,r2,r3,r4,r5,r6,r7,r8,r9⟩:=R2.cells;have rf0:=R2.AX 0;have rf1:=R2.AX 1;have rf2:=R2.AX 2;have rf3:=R2.AX 3;have rf4:=R2.AX 4;have rf5:=R2.AX 5;have rf6:=R2.AX 6;have rf7:=R2.AX 7;have rf8:=R2.AX 8;have rf9:=R2.AX 9;have D2:=AA R2.aP;have HB2:=AA (AL (A8 HB0) (BK hb2));clear hb2 R2 X2))
 all_goals
  go_wp2_with fail;refine bodyPost_ret (v:=.tuple #[.agg #[.bool s'.up,.slice gd nd2 cd2,I0 s'.id,I0 s'.ep,.slice gl nl2 cl2,I0 s'.dn,I0 s'.tr.z,.slice gn nn2 cn2,.slice gi ni2 ci2,.slice gw nw2 cw2],I0 E]) (by simp[results,results147,go_sem,r0,r1,r2,r3,r4,r5,r6,r7,r8,r9]) rfl ?_;obtain⟨g1,g2,g3,g4,g5,g6,g7⟩:=A8 H2;exact⟨⟨gd,nd2,cd2,gl,nl2,cl2,gn,nn2,cn2,gi,ni2,ci2,gw,nw2,cw2,rfl,AA ⟨XZ (s:=s') (A8 D2) g1 g2 g3 g4 g5 g6,g7.lower (by show w.heap.size<=W0.heap.size;omega)⟩,ES (A8 HB2) (by omega) _ _ _ _ _ _ _ _ _ _⟩,(A8 HFT).lower (by show w.heap.size<=W0.heap.size;omega)⟩
theorem CB.dput(h:CB w W up vd id ep vl dn z vn vs vw)(q:Nat)(u:Value)(hq:w.heap.size+2<=q):CB w (W.setCell ⟨q,0,none⟩ u) up vd id ep vl dn z vn vs vw:=
 ⟨h.below.setCell (by simp only;omega) u,h.s.other (by omega),h.r.other (by omega)⟩
def CO9(l:List AQ)(k:Nat)(z:Int):Prop:=(k=0/\z=-1)\/∃x,0<k/\l[k-1]?=some x/\z=x.z
theorem AG7(s:Sv)(v:Value)(vl:Value)(l:List AQ)(epo:Int)(w:World)(hv:SvV w v s)(hvl:J8 w vl l)(hf:BQ0 s)(hll:l.length<=1000000000)(hk:(G5 s.ts l:Int)<s.dn):
  Calls prog 118 #[v,vl,I0 epo] w (kE w 13):=by
 obtain⟨ad,nd,cd,al,cl,an,cn,ai,ci,aw,cw,rfl,d1,l1,n1,s1,k1⟩:=hv.five;have CC:=AA (fun W (hW:B0 w W)=>jY _ vl s.ts l W (l1.next hW) (hvl.next hW) (by have:=hf.l;omega) (by omega));obtain⟨lb,lc,rfl⟩:=IC hvl;clear hv d1 l1 n1 s1 k1 hvl hf hll;obtain⟨up,fs,id,ep,ts,dn,⟨tz,tns,tss⟩,ws⟩:=s;simp only at*;generalize G5 ts l=k at*;go_enter func118,ntmps118;go_wp2_with fail;have X0:=AA (CB.start w up id ep dn tz (.slice ad nd cd) (.slice al ts.length cl) (.slice an tns.length cn) (.slice ai tss.length ci) (.slice aw ws.length cw));generalize (w.alloc (.cells #[.bool up,.slice ad nd cd,I0 id,I0 ep,.slice al ts.length cl,I0 dn,I0 tz,.slice an tns.length cn,.slice ai tss.length ci,.slice aw ws.length cw] 43)).alloc (.cells #[.bool false,N0,I0 0,I0 0,N0,I0 0,I0 0,N0,N0,N0] 43)=W0 at*;refine(A8 CC _ (A8 X0).below).mono ?_;rintro e w1 ⟨rfl,hb1⟩;have X1:=AA ((A8 X0).next hb1);have x5:=(A8 X1).s.cells.2.2.2.2.2.1;clear hb1 X0 CC;obtain⟨r0,r1,r2,r3,r4,r5,r6,r7,r8,r9⟩:=(A8 X1).r.cells;have rf0:=(A8 X1).r.AX 0;have rf1:=(A8 X1).r.AX 1;have rf2:=(A8 X1).r.AX 2;have rf3:=(A8 X1).r.AX 3;have rf4:=(A8 X1).r.AX 4;have rf5:=(A8 X1).r.AX 5;have rf6:=(A8 X1).r.AX 6;have rf7:=(A8 X1).r.AX 7;have rf8:=(A8 X1).r.AX 8;have rf9:=(A8 X1).r.AX 9;go_wp2_with fail;exact bodyPost_ret (v:=.tuple #[.agg #[.bool false,N0,I0 0,I0 0,N0,I0 0,I0 0,N0,N0,N0],I0 13]) (by simp[results,results118,go_sem,r0,r1,r2,r3,r4,r5,r6,r7,r8,r9]) rfl (fK rfl (A8 X1).zero)
def RF(w W:World)(s:Sv):Prop:=∃ad nd cd al nl cl an nn cn ai ni ci aw nw cw,CB w W s.up (.slice ad nd cd) s.id s.ep (.slice al nl cl) s.dn s.tr.z (.slice an nn cn) (.slice ai ni ci) (.slice aw nw cw)/\QT (.slice ai ni ci) (w.heap.size+1)/\
 SvV W (.agg #[.bool s.up,.slice ad nd cd,I0 s.id,I0 s.ep,.slice al nl cl,I0 s.dn,I0 s.tr.z,.slice an nn cn,.slice ai ni ci,.slice aw nw cw]) s
theorem J8.take(h:J8 w (.slice a ts.length c) ts)(hk:k<=ts.length):J8 w (.slice a k c) (ts.take k):=by
 rcases h with⟨a',cap,e,rfl,hc⟩|⟨b,off,cap,e,h1,h2,h3,h0,h4⟩
 .simp only[Value.slice.injEq]at e;obtain⟨rfl,_,rfl⟩:=e;obtain rfl:k=0:=by simpa using hk
  exact .inl ⟨a,c,rfl,by simp,hc⟩
 .simp only[Value.slice.injEq]at e;obtain⟨rfl,_,rfl⟩:=e;by_cases k0:k=0
  .subst k0;exact .inl ⟨_,c,rfl,by simp,h2⟩
  .have hl:(ts.take k).length=k:=by simp;omega
   refine .inr ⟨b,off,c,by rw[hl],by omega,h2,h3,by intro e;rw[e]at hl;simp at hl;omega,fun j v hj=>h4 j v ?_⟩;have e:ts=ts.take k++ts.drop k:=(List.take_append_drop k ts).symm;rw[e,O9,List.getElem?_append_left (List.getElem?_eq_some_iff.1 hj).1];exact hj
theorem CB.LC(h:CB w W up0 vd0 id0 ep0 vl0 dn0 z0 vn0 vs0 vw0)(up:Bool)(id ep dn z:Int)(vd vl vn vs vw:Value):
  CB w (Go.Proofs.YtenkgjfahcgppaaGreatDoor.LC W w.heap.size (.bool up) vd (I0 id) (I0 ep) vl (I0 dn) (I0 z) vn vs vw) up vd id ep vl dn z vn vs vw:=by
 refine⟨ES h.below (Nat.le_refl _) _ _ _ _ _ _ _ _ _ _,?_,?_⟩
 .unfold BO Go.Proofs.YtenkgjfahcgppaaGreatDoor.LC;rw[AV _ (AV _ (AV _ (AV _ (AV _ (AV _ (AV _ (AV _ (AV _ (AV _ h.s)))))))))];simp
 .unfold Go.Proofs.YtenkgjfahcgppaaGreatDoor.LC;exact(BO.other (BO.other (BO.other (BO.other (BO.other (BO.other (BO.other (BO.other (BO.other (BO.other h.r (by omega)) (by omega)) (by omega)) (by omega)) (by omega)) (by omega)) (by omega)) (by omega)) (by omega)) (by omega))
theorem J8.drop{l:List AQ}(h:J8 w (.slice a l.length c) l)(hk:k<=l.length):
  (c=k->J8 w (.slice a (l.length-k) 0) (l.drop k))/\(c≠k->J8 w (.slice (Option.map (fun x=>x.add (k*7)) a) (l.length-k) (c-k)) (l.drop k)):=by
 have hlen:(l.drop k).length=l.length-k:=by simp
 rcases h with⟨a',cap,e,rfl,hc⟩|⟨b,off,cap,e,h1,h2,h3,h0,h4⟩
 .simp only[Value.slice.injEq]at e;obtain⟨rfl,_,rfl⟩:=e;exact⟨fun _=>.inl ⟨a,0,by simp,by simp,Nat.zero_le _⟩,fun _=>.inl ⟨Option.map (fun x=>x.add (k*7)) a,c-k,by simp,by simp,by omega⟩⟩
 .simp only[Value.slice.injEq]at e;obtain⟨rfl,_,rfl⟩:=e;by_cases hd:l.drop k=[]
  .have h0':l.length-k=0:=by rw[<-hlen,hd];rfl
   exact⟨fun _=>.inl ⟨_,_,by rw[h0'],hd,by simp⟩,fun _=>.inl ⟨_,_,by rw[h0'],hd,by omega⟩⟩
  .have hlt:0<l.length-k:=by rw[<-hlen];exact List.length_pos_iff.2 hd
   refine⟨fun e=>by omega,fun _=>.inr ⟨b,off+k*7,c-k,by rw[hlen,Option.map_some,Addr.add_lit],by omega,by omega,h3,hd,fun j v hj=>?_⟩⟩;have e:FH l=FH (l.take k)++FH (l.drop k):=by rw[<-O9,List.take_append_drop]
   have hl7:(FH (l.take k)).length=k*7:=by rw[XP];simp;omega
   have:=h4 (k*7+j) v (by rw[e,List.getElem?_append_right (by omega),hl7,Nat.add_sub_cancel_left];exact hj);rwa[<-Nat.add_assoc]at this
theorem CB.putE(h:CB w W up vd id ep vl dn z vn vs vw)(e:Int):CB w (W.setCell ⟨w.heap.size,3,none⟩ (I0 e)) up vd id e vl dn z vn vs vw:=by
 refine⟨h.below.setCell (by simp) _,?_,h.r.other (by omega)⟩;unfold BO;rw[AV (I0 e) h.s];rfl
def fQ(w:World)(s:Sv)(N:List Nt)(E:Int)(e:Ending)(w':World):Prop:=∃v a c,e=.returned (.tuple #[v,.slice a N.length c,I0 E])/\SvV w' v s/\BQ w' (.slice a N.length c) N/\B0 w w'
theorem AG9{w':World}(he:e=.returned (.tuple #[.agg #[.bool false,N0,I0 0,I0 0,N0,I0 0,I0 0,N0,N0,N0],N0,I0 E]))(hb:B0 w w'):fQ w sv0 [] E e w':=
 ⟨_,none,0,he,SvV.zero w',BQ.nil w',hb⟩
theorem BG5(hb:B0 w W)(hk:w.heap.size<=k):B0 w (LC W k (.bool false) (N0) (I0 0) (I0 0) (N0) (I0 0) (I0 0) (N0) (N0) (N0)):=ES hb hk _ _ _ _ _ _ _ _ _ _
theorem BG6{lo hi:Nat}(h:J8 w (.slice a ts.length c) ts)(h1:lo<=hi)(h2:hi<=ts.length):
  (c=lo->J8 w (.slice a (hi-lo) 0) ((ts.drop lo).take (hi-lo)))/\(c≠lo->J8 w (.slice (Option.map (fun x=>x.add (lo*7)) a) (hi-lo) (c-lo)) ((ts.drop lo).take (hi-lo))):=by
 have hl:(ts.drop lo).length=ts.length-lo:=by simp
 obtain⟨d1,d2⟩:=h.drop (k:=lo) (by omega);rw[<-hl]at d1 d2;exact⟨fun e=>(d1 e).take (by omega),fun e=>(d2 e).take (by omega)⟩
theorem CI.done(h:CI w W ka kn kr s N vd vl vn vs vw vN)(n:Int):CI w (W.setCell ⟨ka,5,none⟩ (I0 n)) ka kn kr ⟨s.up,s.fs,s.id,s.ep,s.ts,n,s.tr,s.ws⟩ N vd vl vn vs vw vN:=by
 have b1:BO (W.setCell ⟨ka,5,none⟩ (I0 n)) ka s.up vd s.id s.ep vl n s.tr.z vn vs vw:=AV (j:=5) _ h.box;refine⟨b1,(Below.heap_setCell _ _ _ _ (Ne.symm h.ne)).trans h.nb,ML h.d h.box (by decide) _,ML h.l h.box (by decide) _,ML h.n h.box (by decide) _,ML h.i h.box (by decide) _,ML h.o h.box (by decide) _,ML h.t h.box (by decide) _,h.below.setCell h.ha _,h.ha,h.hn,h.ne,h.r.other h.r1,h.r1,h.r2,h.hr⟩
theorem ZF[Lay α]{xs:List α}(h:BD W B v xs)(hb:BO W k up vd id ep vl dn z vn vs vw)(hne:43≠Lay.ty α)(x0 x1 x2 x3 x4 x5 x6 x7 x8 x9:Value):BD (LC W k x0 x1 x2 x3 x4 x5 x6 x7 x8 x9) B v xs:=by
 have hk:=Y0 h hb hne;unfold LC;exact(((((((((h.other hk _).other hk _).other hk _).other hk _).other hk _).other hk _).other hk _).other hk _).other hk _).other hk _
theorem CI.out(h:CI w W ka kn kr s N vd vl vn vs vw vN)(x0 x1 x2 x3 x4 x5 x6 x7 x8 x9:Value):
  SvV (LC W kr x0 x1 x2 x3 x4 x5 x6 x7 x8 x9) (.agg #[.bool s.up,vd,I0 s.id,I0 s.ep,vl,I0 s.dn,I0 s.tr.z,vn,vs,vw]) s/\BQ (LC W kr x0 x1 x2 x3 x4 x5 x6 x7 x8 x9) vN N/\B0 w (LC W kr x0 x1 x2 x3 x4 x5 x6 x7 x8 x9):=
 ⟨⟨vd,vl,vn,vs,vw,rfl,PD.1 (ZF h.d h.r (by decide) _ _ _ _ _ _ _ _ _ _).seq,FV.1 (ZF h.l h.r (by decide) _ _ _ _ _ _ _ _ _ _).seq,(ZF h.n h.r (by decide) _ _ _ _ _ _ _ _ _ _).seq,(ZF h.i h.r (by decide) _ _ _ _ _ _ _ _ _ _).seq,(ZF h.o h.r (by decide) _ _ _ _ _ _ _ _ _ _).seq⟩,(ZF h.t h.r (by decide) _ _ _ _ _ _ _ _ _ _).seq,ES h.below h.hr _ _ _ _ _ _ _ _ _ _⟩
theorem BG7{w W1 w1:World}{s:Sv}{ad al an ai aw:Option Addr}{nd cd cl cn ci cw:Nat}{bd bl bn bi bw:Option Addr}{md fd fl fn fi fw B1 B2:Nat}(h:CB w W1 s.up (.slice ad nd cd) s.id s.ep (.slice al s.ts.length cl) s.dn s.tr.z (.slice an s.tr.ns.length cn) (.slice ai s.tr.ss.length ci) (.slice aw s.ws.length cw))
  (h1:W1.heap.size<=B1) (h2:B1<=B2) (od:BD w1 W1.heap.size (.slice bd md fd) s.fs) (ol:BD w1 B1 (.slice bl s.ts.length fl) s.ts) (on:BD w1 B2 (.slice bn s.tr.ns.length fn) s.tr.ns) (oi:BD w1 B2 (.slice bi s.tr.ss.length fi) s.tr.ss) (ow:BD w1 B2 (.slice bw s.ws.length fw) s.ws) (hb:B0 W1 w1):
  CI w ((w1.alloc (.cells #[.bool s.up,.slice bd md fd,I0 s.id,I0 s.ep,.slice bl s.ts.length fl,I0 s.dn,I0 s.tr.z,.slice bn s.tr.ns.length fn,.slice bi s.tr.ss.length fi,.slice bw s.ws.length fw] 43)).alloc (.cells #[N0] 63)) w1.heap.size (w1.heap.size+1) (w.heap.size+1) s [] (.slice bd md fd) (.slice bl s.ts.length fl) (.slice bn s.tr.ns.length fn) (.slice bi s.tr.ss.length fi) (.slice bw s.ws.length fw) (N0):=by
 have hz:=h.below.size;have hz1:=hb.size;have hr:=h.r.lt;have a1:=AB w1 (.cells #[.bool s.up,.slice bd md fd,I0 s.id,I0 s.ep,.slice bl s.ts.length fl,I0 s.dn,I0 s.tr.z,.slice bn s.tr.ns.length fn,.slice bi s.tr.ss.length fi,.slice bw s.ws.length fw] 43);have a2:=AB (w1.alloc (.cells #[.bool s.up,.slice bd md fd,I0 s.id,I0 s.ep,.slice bl s.ts.length fl,I0 s.dn,I0 s.tr.z,.slice bn s.tr.ns.length fn,.slice bi s.tr.ss.length fi,.slice bw s.ws.length fw] 43)) (.cells #[N0] 63);have b:=AL a1 a2;refine⟨(BO.new w1 s.up s.id s.ep s.dn s.tr.z _ _ _ _ _).next a2,?_,(od.next b).lower hz,(ol.next b).lower (by omega),(on.next b).lower (by omega),(oi.next b).lower (by omega),(ow.next b).lower (by omega),.inl ⟨rfl,rfl⟩,AL (AL h.below hb) b,by omega,by omega,by omega,(h.r.next hb).next b,by omega,by omega,by omega⟩;have:=heap_alloc_new (w1.alloc (.cells #[.bool s.up,.slice bd md fd,I0 s.id,I0 s.ep,.slice bl s.ts.length fl,I0 s.dn,I0 s.tr.z,.slice bn s.tr.ns.length fn,.slice bi s.tr.ss.length fi,.slice bw s.ws.length fw] 43)) (.cells #[N0] 63);rwa[show (w1.alloc (.cells #[.bool s.up,.slice bd md fd,I0 s.id,I0 s.ep,.slice bl s.ts.length fl,I0 s.dn,I0 s.tr.z,.slice bn s.tr.ns.length fn,.slice bi s.tr.ss.length fi,.slice bw s.ws.length fw] 43)).heap.size=w1.heap.size+1 by simp]at this
def FrS(w:World)(e:Ending):Prop:=∀x0 x1 x2 x3 x4 x5 x6 x7 x8 x9 y z:Value,e=.returned (.tuple #[.agg #[x0,x1,x2,x3,x4,x5,x6,x7,x8,x9],y,z])->JV w.heap.size x8/\JV w.heap.size x1/\JV w.heap.size x4/\JV w.heap.size x7/\JV w.heap.size x9/\JV w.heap.size y
theorem CE1{x0 x1 x2 x3 x4 x5 x6 x7 x8 x9 y z:Value}(h:JV w.heap.size x8/\JV w.heap.size x1/\JV w.heap.size x4/\JV w.heap.size x7/\JV w.heap.size x9/\JV w.heap.size y):FrS w (.returned (.tuple #[.agg #[x0,x1,x2,x3,x4,x5,x6,x7,x8,x9],y,z])):=by
 intro u0 u1 u2 u3 u4 u5 u6 u7 u8 u9 t r e;simp only[Ending.returned.injEq,Value.tuple.injEq,Value.agg.injEq,Array.mk.injEq,List.cons.injEq]at e;obtain⟨⟨_,rfl,_,_,rfl,_,_,rfl,rfl,rfl,_⟩,rfl,_⟩:=e;exact h
theorem sF(s:Sv)(v:Value)(dN nN k:Nat)(xs:List AQ)(w:World)(hv:SvV w v s)(hf:BQ0 s)(hdn:s.dn=dN)(h1:dN<=nN)(h2:nN<=s.ts.length)(hxs:xs=(s.ts.drop dN).take (nN-dN))(hC:Chn s xs k)(hB:BF6 s xs):
  Calls prog 148 #[v,I0 nN] w fun e w'=>(k=xs.length->fQ w ⟨(csP s xs k).1.up,(csP s xs k).1.fs,(csP s xs k).1.id,(csP s xs k).1.ep,(csP s xs k).1.ts,nN,(csP s xs k).1.tr,(csP s xs k).1.ws⟩ (csP s xs k).2 0 e w'/\FrS w e)/\(∀x,xs[k]?=some x->fQ w sv0 [] (UL (csP s xs k).1.tr x) e w'):=by
 have CC:=AA (fun W (hW:B0 w W)=>WG s v W (hv.next hW) hf);obtain⟨ad,nd,cd,al,cl,an,cn,ai,ci,aw,cw,rfl,d1,l1,n1,s1,k1⟩:=hv.five;have hxl:xs.length=nN-dN:=by rw[hxs];simp;omega
 have HLS:=AA (fun W (hW:B0 w W)=>BG6 (l1.next hW) h1 h2);rw[<-hxs]at HLS;have hcl:s.ts.length<=cl/\cl<=9223372036854775807:=by
  rcases l1 with⟨_,_,e,e0,hm⟩|⟨_,_,_,e,h3,h4,_⟩
  .simp only[Value.slice.injEq]at e;rw[e0]at e⊢;simp only[maxLen]at hm;simp;omega
  .simp only[Value.slice.injEq]at e;simp only[maxLen]at h4;omega
 have hll:s.ts.length*72<=140737488355328:=hf.l;have HC:=AA hC;have HBs:=AA hB;have hkl:=hC.le;clear hv d1 l1 n1 s1 k1 hxs hC hB hf;have hdi:¬s.dn<0:=by omega
 have hni:¬ (nN:Int)<s.dn:=by omega
 have HDN:=AA hdn;clear hdn;have hnl:¬ (nN:Int)>(s.ts.length:Int):=by omega
 go_enter func148,ntmps148;go_upto_region 1 with fail;have X1:=AA (CB.start w s.up s.id s.ep s.dn s.tr.z (.slice ad nd cd) (.slice al s.ts.length cl) (.slice an s.tr.ns.length cn) (.slice ai s.tr.ss.length ci) (.slice aw s.ws.length cw));generalize (w.alloc (.cells #[.bool s.up,.slice ad nd cd,I0 s.id,I0 s.ep,.slice al s.ts.length cl,I0 s.dn,I0 s.tr.z,.slice an s.tr.ns.length cn,.slice ai s.tr.ss.length ci,.slice aw s.ws.length cw] 43)).alloc (.cells #[.bool false,N0,I0 0,I0 0,N0,I0 0,I0 0,N0,N0,N0] 43)=W1 at*;obtain⟨x0,x1,x2,x3,x4,x5,x6,x7,x8,x9⟩:=(A8 X1).s.cells;go_upto_region 4 with fail;go_wp2_with fail
 with_reducible refine(A8 CC _ (A8 X1).below).mono ?_
 rintro e w1 ⟨bd,md,fd,bl,fl,bn,fn,bi,fi,bw,fw,B1,B2,rfl,g1,g2,od,hd1,ol,hl2,on,oi,ow,hb1⟩;have CI0:=AA (BG7 (A8 X1) g1 g2 od ol on oi ow hb1);have X2:=AA (((A8 X1).next hb1).next (AL (AB w1 (.cells #[.bool s.up,.slice bd md fd,I0 s.id,I0 s.ep,.slice bl s.ts.length fl,I0 s.dn,I0 s.tr.z,.slice bn s.tr.ns.length fn,.slice bi s.tr.ss.length fi,.slice bw s.ws.length fw] 43)) (AB (w1.alloc (.cells #[.bool s.up,.slice bd md fd,I0 s.id,I0 s.ep,.slice bl s.ts.length fl,I0 s.dn,I0 s.tr.z,.slice bn s.tr.ns.length fn,.slice bi s.tr.ss.length fi,.slice bw s.ws.length fw] 43)) (.cells #[N0] 63))));clear g1 g2 od hd1 ol hl2 on oi ow hb1 X1 CC x0 x1 x2 x3 x4 x5 x6 x7 x8 x9;go_upto_region 7 with fail;generalize (w1.alloc (.cells #[.bool s.up,.slice bd md fd,I0 s.id,I0 s.ep,.slice bl s.ts.length fl,I0 s.dn,I0 s.tr.z,.slice bn s.tr.ns.length fn,.slice bi s.tr.ss.length fi,.slice bw s.ws.length fw] 43)).alloc (.cells #[N0] 63)=W2 at*;generalize w1.heap.size+1=kn at*;generalize w1.heap.size=ka at*;have x4:=(A8 X2).s.cells.2.2.2.2.1;rw[A8 HDN]
 go_cut [41,42,43]from 36 (fun t41 t42 t43 wx=>∃la lcc,t41=.slice la (nN-dN) lcc/\t42=I0 ((nN-dN:Nat):Int)/\t43=I0 0/\wx=W2/\Hid (∀W,B0 w W->J8 W (.slice la (nN-dN) lcc) xs))
 case first=>
  by_cases hlc:cl=dN
  .subst hlc;go_wp2_with fail
   all_goals go_meet
   all_goals exact⟨_,_,rfl,rfl,rfl,rfl,AA fun W hW=>(A8 HLS W hW).1 (by first|rfl|trivial)⟩
  .go_wp2_with fail
   all_goals go_meet
   all_goals exact⟨_,_,rfl,rfl,rfl,rfl,AA fun W hW=>(A8 HLS W hW).2 hlc⟩
 case rest=>
  obtain⟨la,lcc,rfl,rfl,rfl,rfl,HLX⟩:=hcut;rw[<-hxl]at HLX⊢;have HXL:=AA hxl;have hx63:xs.length<=1000000000000000:=by omega
  clear HLS hxl h1 h2 hcl hll hdi hni hnl X2 x4;go_wp2_with fail
  go_loopg [43] xs.length (fun kx s43 wr=>∃i:Nat,s43=I0 i/\i<=k/\xs.length-i<=kx/\Hid (∃ad nd cd al cl an cn ai ci aw cw aN cN,CI w wr ka kn (w.heap.size+1) (csP s xs i).1 (csP s xs i).2 (.slice ad nd cd) (.slice al (csP s xs i).1.ts.length cl) (.slice an (csP s xs i).1.tr.ns.length cn) (.slice ai (csP s xs i).1.tr.ss.length ci) (.slice aw (csP s xs i).1.ws.length cw) (.slice aN (csP s xs i).2.length cN)))
  case atStart=>exact⟨0,rfl,Nat.zero_le _,Nat.le_refl _,AA (by rw[mZ];exact⟨_,_,_,_,_,_,_,_,_,_,_,_,_,A8 CI0⟩)⟩
  case round=>
   obtain⟨i,rfl,hi,hgi,HI⟩:=hrel;by_cases hlt:i<xs.length
   .obtain⟨x,hx⟩:∃x,xs[i]?=some x:=⟨_,List.getElem?_eq_getElem hlt⟩;obtain⟨ead,CM3,ecd,eal,ecl,ean,ecn,eai,eci,eaw,ecw,eaN,ecN,hci⟩:=A8 HI;obtain⟨b,o,c,he,hb,q,hq9⟩:=RH (A8 HLX wr hci.below) hx;simp only[Value.slice.injEq]at he;obtain⟨rfl,he2,rfl⟩:=he;clear he2 hq9;have e0:=q.z hx;have e1:=q.o hx;have e2:=q.s hx;have e3:=q.p hx;have e4:=q.d hx;have e5:=q.v hx;have e6:=q.w hx;have hii:(i:Int)<(xs.length:Int):=by omega
    have hal:=AB wr (.cells #[I0 x.z,I0 x.o,I0 x.s,S0 x.p,S0 x.d,I0 x.v,I0 x.w] 49);have HC1:=AA (xZ w _ ka kn (w.heap.size+1) (csP s xs i).1 (csP s xs i).2 x ead eal ean eai eaw eaN CM3 ecd ecl ecn eci ecw ecN (hci.next hal) (BX9 (A8 HBs) (A8 HC) hi hx));have HT1:=TAt.new wr x;have HX:=AA hx;have HR0:=AA (hci.r.next hal);have HB1:=AA (AL hci.below hal);have t0:=HT1.c0;have t1:=HT1.c1;have t2:=HT1.c2;have t3:=HT1.c3;have t4:=HT1.c4;have t5:=HT1.c5;have t6:=HT1.c6;clear q hb hx hal HT1 hci HI;obtain⟨z,op,u,p,d,y,vv⟩:=x;unfold DW at HC1;simp only at e0 e1 e2 e3 e4 e5 e6 t0 t1 t2 t3 t4 t5 t6;go_upto_region 10 with fail;generalize wr.alloc (.cells #[I0 z,I0 op,I0 u,S0 p,S0 d,I0 y,I0 vv] 49)=W6 at*;generalize wr.heap.size=kx at*;clear e0 e1 e2 e3 e4 e5 e6;go_wp2_with fail;refine(A8 HC1).mono ?_;rintro e w7 ⟨rfl,hout⟩;have HO:=AA hout;clear HC1 hout t0 t1 t2 t3 t4 t5 t6;have HX':=A8 HX;obtain⟨E,hE⟩:∃E,UL (csP s xs i).1.tr ⟨z,op,u,p,d,y,vv⟩=E:=⟨_,rfl⟩;rw[hE]at HO;rw[hE];by_cases hik:i<k
    .obtain rfl:E=0:=by rw[<-hE];exact(A8 HC).ok i _ hik HX'
     have HIN:Hid (∃ad nd cd al cl an cn ai ci aw cw aN cN,CI w w7 ka kn (w.heap.size+1) (csP s xs (i+1)).1 (csP s xs (i+1)).2 (.slice ad nd cd) (.slice al (csP s xs (i+1)).1.ts.length cl) (.slice an (csP s xs (i+1)).1.tr.ns.length cn) (.slice ai (csP s xs (i+1)).1.tr.ss.length ci) (.slice aw (csP s xs (i+1)).1.ws.length cw) (.slice aN (csP s xs (i+1)).2.length cN)):=AA (by
      rw[A47 HX'];simp only[stP,List.length_append];exact(A8 HO).2.2 rfl)
     clear HO hE HX';go_wp2_with fail
     go_roundg (xs.length-(i+1))
     case measure=>omega
     case rel=>exact⟨i+1,rfl,by omega,Nat.le_refl _,HIN⟩
    .obtain rfl:i=k:=by omega
     have hE0:E≠0:=by rw[<-hE];exact(A8 HC).stop _ HX'
     have HR7:=(A8 HR0).next ((A8 HO).2.1 hE0);have HBw:=AA (BG5 (A8 HO).1 (show w.heap.size<=w.heap.size+1 by omega));unfold LC at HBw;obtain⟨r0,r1,r2,r3,r4,r5,r6,r7,r8,r9⟩:=HR7.cells;have rf0:=HR7.AX 0;have rf1:=HR7.AX 1;have rf2:=HR7.AX 2;have rf3:=HR7.AX 3;have rf4:=HR7.AX 4;have rf5:=HR7.AX 5;have rf6:=HR7.AX 6;have rf7:=HR7.AX 7;have rf8:=HR7.AX 8;have rf9:=HR7.AX 9;have HE:=AA hE;clear HR7 HO HR0 hE HX';go_wp2_with fail;refine bodyPost_ret (v:=.tuple #[.agg #[.bool false,N0,I0 0,I0 0,N0,I0 0,I0 0,N0,N0,N0],N0,I0 E]) (by simp[results,results148,go_sem,r0,r1,r2,r3,r4,r5,r6,r7,r8,r9]) rfl ?_;refine⟨fun h=>by omega,fun x' hx'=>?_⟩;rw[A8 HX]at hx'
     cases hx'
     rw[A8 HE];exact AG9 rfl (A8 HBw)
   .obtain rfl:i=k:=by omega
    have hik:i=xs.length:=by omega
    obtain⟨ead,CM3,ecd,eal,ecl,ean,ecn,eai,eci,eaw,ecw,eaN,ecN,hci⟩:=A8 HI;obtain⟨S,hS⟩:∃S,(csP s xs i).1=S:=⟨_,rfl⟩;obtain⟨NN,hNN⟩:∃NN,(csP s xs i).2=NN:=⟨_,rfl⟩;rw[hS,hNN]at hci;have HD:=AA (hci.done nN);have HFR:=AA (And.intro (IG hci.i) (And.intro (IG hci.d) (And.intro (IG hci.l) (And.intro (IG hci.n) (And.intro (IG hci.o) (IG hci.t))))));have x5:=hci.box.cells.2.2.2.2.2.1;have xf5:=hci.box.AX 5;have HS:=AA hS;have HNN:=AA hNN;have HIK:=AA hik;have hki:¬ ((i:Int)<(xs.length:Int)):=by omega
    clear hci HI hS hNN hik;go_upto_region 15 with fail;generalize wr.setCell ⟨ka,5,none⟩ (I0 nN)=W8 at*;clear x5 xf5;obtain⟨x0,x1,x2,x3,x4,x5,x6,x7,x8,x9⟩:=(A8 HD).box.cells;have n0:W8.cell? ⟨kn,0,none⟩=some (.slice eaN NN.length ecN):=by simp[World.cell?,(A8 HD).nb]
    obtain⟨r0,r1,r2,r3,r4,r5,r6,r7,r8,r9⟩:=(A8 HD).r.cells;have rf0:=(A8 HD).r.AX 0;have rf1:=(A8 HD).r.AX 1;have rf2:=(A8 HD).r.AX 2;have rf3:=(A8 HD).r.AX 3;have rf4:=(A8 HD).r.AX 4;have rf5:=(A8 HD).r.AX 5;have rf6:=(A8 HD).r.AX 6;have rf7:=(A8 HD).r.AX 7;have rf8:=(A8 HD).r.AX 8;have rf9:=(A8 HD).r.AX 9;have BZ6:=AA ((A8 HD).out (.bool S.up) (.slice ead CM3 ecd) (I0 S.id) (I0 S.ep) (.slice eal S.ts.length ecl) (I0 nN) (I0 S.tr.z) (.slice ean S.tr.ns.length ecn) (.slice eai S.tr.ss.length eci) (.slice eaw S.ws.length ecw));have hl1:=(A8 HD).box.lt;have hl2:=(A8 HD).r.lt;have HB8:=AA (A8 HD).below;have hne1:w.heap.size+1≠ka:=(A8 HD).r1;have hne2:w.heap.size+1≠kn:=(A8 HD).r2;have hne3:ka≠w.heap.size+1:=fun h=>hne1 h.symm;have hne4:kn≠w.heap.size+1:=fun h=>hne2 h.symm;clear HD;simp only at x0 x1 x2 x3 x4 x5 x6 x7 x8 x9;unfold LC at BZ6;go_region
    all_goals go_wp2_with fail
    all_goals refine bodyPost_ret (v:=.tuple #[.agg #[.bool S.up,.slice ead CM3 ecd,I0 S.id,I0 S.ep,.slice eal S.ts.length ecl,I0 nN,I0 S.tr.z,.slice ean S.tr.ns.length ecn,.slice eai S.tr.ss.length eci,.slice eaw S.ws.length ecw],.slice eaN NN.length ecN,I0 0]) (by simp[results,results148,go_sem,r0,r1,r2,r3,r4,r5,r6,r7,r8,r9]) rfl ?_
    all_goals rw[A8 HS,A8 HNN]
    all_goals refine fun _=>⟨⟨_,_,_,rfl,?_,?_,?_⟩,CE1 (A8 HFR)⟩
    all_goals first
     |exact(A8 BZ6).1.next ((Below.refl _ _).drew)
     |exact(A8 BZ6).2.1.next ((Below.refl _ _).drew)
     |exact(A8 BZ6).2.2.drew
     |exact(A8 BZ6).1
     |exact(A8 BZ6).2.1
     |exact(A8 BZ6).2.2
noncomputable def CP0(id:Int):Sv:=⟨true,[KU []],id,VN [],[],0,JK,[]⟩
theorem AX9:kC 74 (fun x=>#[x]) [] [] [KU []] 0:=
 aC [] [KU []] 0 (fun v W hv=>by
  have h:=wM v [] JI 7 W hv (F8 TY) (.inr ⟨TY,⟨[],[],nG _⟩,rfl⟩);exact h)
  (IW fun v W hv=>XV v [] [] [] JI [] W hv (F8 TY) TY Y6 (by decide) (nG _) (by decide))
theorem AY0(id:Int)(h0:0<=id)(h1:id<3)(w:World):Calls prog 48 #[I0 id,.agg #[N0]] w (XW w (CP0 id) 0):=
 A52 (N0) [] [KU []] [] id w (C9.nil w) (by intro f hf;simp at hf) h0 h1 AX9
noncomputable def JX(m:List AQ)(i:Nat):Tr:=(m.take i).foldl aX JK
theorem MX(m:List AQ):JX m 0=JK:=by simp[JX]
theorem fV{m:List AQ}(h:m[i]?=some x):JX m (i+1)=aX (JX m i) x:=by
 unfold JX;rw[LV h,List.foldl_append];rfl
theorem bJ(m:List AQ)(x:AQ)(h:i<=m.length):JX (m++[x]) i=JX m i:=by
 unfold JX;rw[List.take_append_of_le_length h]
theorem AY1(xs:List AQ):∀ (s:Sv) (N:List Nt),(xs.foldl stP (s,N)).1.tr=xs.foldl aX s.tr:=by
 induction xs with
 |nil=>intro s N;rfl
 |cons x xs ih=>
  intro s N;simp only[List.foldl_cons];exact ih (aA s x) _
structure CE3(s:Sv)(t:AQ)(s':Sv):Prop where
 z:¬t.z<=DU s.ts
 p:t.p.length<=140737488355328
 d:t.d.length<=140737488355328
 n:s.ts.length<=1000000000
 g:∃d1,s'=⟨s.up,d1,s.id,s.ep,s.ts++[t],s.dn,s.tr,s.ws⟩/\VP 209 (fun x=>#[x,DW t,.bool true]) s.fs d1 0
theorem yN(hf:BQ0 s){d:List DF}(g:H6 d)(e:Int)(k:Nat):BQ0 ⟨s.up,d,s.id,e,s.ts.take k,s.dn,s.tr,s.ws⟩:=
 ⟨by have:=g.few;simp only;omega,F8 g,by have:=hf.l;simp only[List.length_take];omega,fun x hx=>hf.lf x (List.mem_of_mem_take hx),hf.n,hf.nf,hf.si,hf.wa,hf.wf⟩
theorem BZ8(h:∀W,B0 w W->J8 W (.slice a ts.length c) ts):ts.length<=c:=by
 rcases h w (Below.refl _ _)with⟨a',cap,e,rfl,_⟩|⟨b,off,cap,e,h1,_⟩
 .simp
 .simp only[Value.slice.injEq]at e;omega
def SF0(w W:World)(s:Sv)(al:Option Addr)(cl:Nat)(an:Option Addr)(cn:Nat)(ai:Option Addr)(ci:Nat)(aw:Option Addr)(cw:Nat):Prop:=
 ∃ad nd cd,CB w W s.up (.slice ad nd cd) s.id s.ep (.slice al s.ts.length cl) s.dn s.tr.z (.slice an s.tr.ns.length cn) (.slice ai s.tr.ss.length ci) (.slice aw s.ws.length cw)/\
 SvV W (.agg #[.bool s.up,.slice ad nd cd,I0 s.id,I0 s.ep,.slice al s.ts.length cl,I0 s.dn,I0 s.tr.z,.slice an s.tr.ns.length cn,.slice ai s.tr.ss.length ci,.slice aw s.ws.length cw]) s
theorem SF0.next{al an ai aw:Option Addr}{cl cn ci cw:Nat}(h:SF0 w W s al cl an cn ai ci aw cw)(hb:B0 W V):SF0 w V s al cl an cn ai ci aw cw:=by
 obtain⟨ad,nd,cd,h1,h2⟩:=h;exact⟨ad,nd,cd,h1.next hb,h2.next hb⟩
theorem BH1{w P:World}{s:Sv}{ts:List AQ}{k:Nat}{ad ad0 al an ai aw:Option Addr}{nd cd nd0 cd0 cl cn ci cw:Nat}{ep0:Int}(h:CB w P s.up (.slice ad0 nd0 cd0) s.id ep0 (.slice al ts.length cl) s.dn s.tr.z (.slice an s.tr.ns.length cn) (.slice ai s.tr.ss.length ci) (.slice aw s.ws.length cw))(hd:C9 P (.slice ad nd cd) s.fs)
  (hs:(∀W,B0 w W->J8 W (.slice al ts.length cl) ts)/\(∀W,B0 w W->BQ W (.slice an s.tr.ns.length cn) s.tr.ns)/\(∀W,B0 w W->BQ W (.slice ai s.tr.ss.length ci) s.tr.ss)/\∀W,B0 w W->BQ W (.slice aw s.ws.length cw) s.ws) (hk:k<=ts.length) (ht:s.ts=ts.take k:=by rfl):
  SF0 w (((P.setCell ⟨w.heap.size,1,none⟩ (.slice ad nd cd)).setCell ⟨w.heap.size,3,none⟩ (I0 s.ep)).setCell ⟨w.heap.size,4,none⟩ (.slice al k cl)) s al cl an cn ai ci aw cw:=by
 have hlen:s.ts.length=k:=by rw[ht];simp;omega
 have hb:=((h.below.setCell (p:=⟨w.heap.size,1,none⟩) (by simp) (.slice ad nd cd)).setCell (p:=⟨w.heap.size,3,none⟩) (by simp) (I0 s.ep)).setCell (p:=⟨w.heap.size,4,none⟩) (by simp) (.slice al k cl);have u0:=h.s.aP;have u1:YO (P.setCell ⟨w.heap.size,1,none⟩ (.slice ad nd cd)) w.heap.size:=u0.set (by simp);have u2:YO ((P.setCell ⟨w.heap.size,1,none⟩ (.slice ad nd cd)).setCell ⟨w.heap.size,3,none⟩ (I0 s.ep)) w.heap.size:=u1.set (by simp);refine⟨ad,nd,cd,by rw[hlen];exact((h.put 1 (.slice ad nd cd) rfl).putE s.ep).put 4 (.slice al k cl) rfl,_,_,_,_,_,rfl,OM (OM (OM hd u0 _) u1 _) u2 _,?_,hs.2.1 _ hb,hs.2.2.1 _ hb,hs.2.2.2 _ hb⟩;rw[hlen,ht];exact(hs.1 _ hb).take hk
def LF(w W:World)(q:Nat)(s:Sv):Prop:=
 ∃ad nd cd al cl an cn ai ci aw cw,B0 w W/\BO W (w.heap.size+1) false (N0) 0 0 (N0) 0 0 (N0) (N0) (N0)/\
  BO W q s.up (.slice ad nd cd) s.id s.ep (.slice al s.ts.length cl) s.dn s.tr.z (.slice an s.tr.ns.length cn) (.slice ai s.tr.ss.length ci) (.slice aw s.ws.length cw)/\w.heap.size+2<=q/\
  C9 W (.slice ad nd cd) s.fs/\BD W (w.heap.size+2) (.slice al s.ts.length cl) s.ts/\BD W (w.heap.size+2) (.slice an s.tr.ns.length cn) s.tr.ns/\BD W (w.heap.size+2) (.slice ai s.tr.ss.length ci) s.tr.ss/\BD W (w.heap.size+2) (.slice aw s.ws.length cw) s.ws/\
  (∀k,(Value.slice al s.ts.length cl).ownBlock=some k->k≠q/\(Value.slice an s.tr.ns.length cn).ownBlock≠some k/\(Value.slice ai s.tr.ss.length ci).ownBlock≠some k/\(Value.slice aw s.ws.length cw).ownBlock≠some k)/\
  (Value.slice an s.tr.ns.length cn).ownBlock≠some q/\(Value.slice ai s.tr.ss.length ci).ownBlock≠some q/\(Value.slice aw s.ws.length cw).ownBlock≠some q
theorem RP[Lay α]{xs:List α}(h:BD W B v xs)(hk:W.heap.size<=k):v.ownBlock≠some k:=fun e=>by have:=h.low k e;omega
theorem BH2{w W w1:World}{s:Sv}{ad al an ai aw:Option Addr}{nd cd cl cn ci cw B1 B2:Nat}(hW:B0 w W)(hr:BO W (w.heap.size+1) false (N0) 0 0 (N0) 0 0 (N0) (N0) (N0))(h1:W.heap.size<=B1)(h2:B1<=B2)
  (od:BD w1 W.heap.size (.slice ad nd cd) s.fs) (ol:BD w1 B1 (.slice al s.ts.length cl) s.ts) (hl2:∀k,(Value.slice al s.ts.length cl).ownBlock=some k->k<B2) (on:BD w1 B2 (.slice an s.tr.ns.length cn) s.tr.ns) (oi:BD w1 B2 (.slice ai s.tr.ss.length ci) s.tr.ss) (ow:BD w1 B2 (.slice aw s.ws.length cw) s.ws) (hb:B0 W w1):
  LF w (w1.alloc (.cells #[.bool s.up,.slice ad nd cd,I0 s.id,I0 s.ep,.slice al s.ts.length cl,I0 s.dn,I0 s.tr.z,.slice an s.tr.ns.length cn,.slice ai s.tr.ss.length ci,.slice aw s.ws.length cw] 43)) w1.heap.size s:=by
 have hl:=hr.lt;have hal:=AB w1 (.cells #[.bool s.up,.slice ad nd cd,I0 s.id,I0 s.ep,.slice al s.ts.length cl,I0 s.dn,I0 s.tr.z,.slice an s.tr.ns.length cn,.slice ai s.tr.ss.length ci,.slice aw s.ws.length cw] 43);refine⟨ad,nd,cd,al,cl,an,cn,ai,ci,aw,cw,AL (AL hW hb) hal,(hr.next hb).next hal,BO.new w1 s.up s.id s.ep s.dn s.tr.z _ _ _ _ _,by have:=hb.size;omega,PD.1 (od.next hal).seq,(ol.next hal).lower (by omega),(on.next hal).lower (by omega),(oi.next hal).lower (by omega),(ow.next hal).lower (by omega),fun k hk=>⟨?_,?_,?_,?_⟩,RP on (Nat.le_refl _),RP oi (Nat.le_refl _),RP ow (Nat.le_refl _)⟩
 .rintro rfl;exact RP ol (Nat.le_refl _) hk
 .intro e;have:=MW on e;have:=hl2 k hk;omega
 .intro e;have:=MW oi e;have:=hl2 k hk;omega
 .intro e;have:=MW ow e;have:=hl2 k hk;omega
theorem fZ(h:BO W k up0 vd0 id0 ep0 vl0 dn0 z0 vn0 vs0 vw0)(up:Bool)(id ep dn z:Int)(vd vl vn vs vw:Value):
  BO (LC W k (.bool up) vd (I0 id) (I0 ep) vl (I0 dn) (I0 z) vn vs vw) k up vd id ep vl dn z vn vs vw:=by
 unfold BO at*;unfold LC;rw[AV _ (AV _ (AV _ (AV _ (AV _ (AV _ (AV _ (AV _ (AV _ (AV _ h)))))))))];simp
theorem AY2{q:Nat}(h:BO W k up0 vd0 id0 ep0 vl0 dn0 z0 vn0 vs0 vw0)(hk:k≠q)(x0 x1 x2 x3 x4 x5 x6 x7 x8 x9:Value):BO (LC W q x0 x1 x2 x3 x4 x5 x6 x7 x8 x9) k up0 vd0 id0 ep0 vl0 dn0 z0 vn0 vs0 vw0:=by
 unfold LC;exact(BO.other (BO.other (BO.other (BO.other (BO.other (BO.other (BO.other (BO.other (BO.other (BO.other h hk) hk) hk) hk) hk) hk) hk) hk) hk) hk)
theorem BO.touch{F:Nat->Prop}(h:BO W k up vd id ep vl dn z vn vs vw)(ht:Touch F W V)(hk:¬F k):BO V k up vd id ep vl dn z vn vs vw:=(ht.block k h.lt hk).trans h
theorem BZ9{w W V:World}{q:Nat}{s:Sv}{d1:List DF}{tn:List AQ}{ad al an ai aw a a2:Option Addr}{nd cd cl cn ci cw n c c2:Nat}(hb:B0 w W)(hr:BO W (w.heap.size+1) false (N0) 0 0 (N0) 0 0 (N0) (N0) (N0))
  (ha:BO W q s.up (.slice ad nd cd) s.id s.ep (.slice al s.ts.length cl) s.dn s.tr.z (.slice an s.tr.ns.length cn) (.slice ai s.tr.ss.length ci) (.slice aw s.ws.length cw)) (hq:w.heap.size+2<=q)
  (ol:BD W (w.heap.size+2) (.slice al s.ts.length cl) s.ts) (on:BD W (w.heap.size+2) (.slice an s.tr.ns.length cn) s.tr.ns) (oi:BD W (w.heap.size+2) (.slice ai s.tr.ss.length ci) s.tr.ss) (ow:BD W (w.heap.size+2) (.slice aw s.ws.length cw) s.ws)
  (sep:∀k,(Value.slice al s.ts.length cl).ownBlock=some k->k≠q/\(Value.slice an s.tr.ns.length cn).ownBlock≠some k/\(Value.slice ai s.tr.ss.length ci).ownBlock≠some k/\(Value.slice aw s.ws.length cw).ownBlock≠some k)
  (n1:(Value.slice an s.tr.ns.length cn).ownBlock≠some q) (n2:(Value.slice ai s.tr.ss.length ci).ownBlock≠some q) (n3:(Value.slice aw s.ws.length cw).ownBlock≠some q)
  (ht:Touch (fun k=>(Value.slice al s.ts.length cl).ownBlock=some k) W V) (D:C9 V (.slice a n c) d1) (L:BD V (w.heap.size+2) (.slice a2 tn.length c2) tn) (hl:(Value.slice a2 tn.length c2).ownBlock=(Value.slice al s.ts.length cl).ownBlock\/∃k,(Value.slice a2 tn.length c2).ownBlock=some k/\W.heap.size<=k):
  BO V q s.up (.slice ad nd cd) s.id s.ep (.slice al s.ts.length cl) s.dn s.tr.z (.slice an s.tr.ns.length cn) (.slice ai s.tr.ss.length ci) (.slice aw s.ws.length cw)/\
  LF w (LC V q (.bool s.up) (.slice a n c) (I0 s.id) (I0 s.ep) (.slice a2 tn.length c2) (I0 s.dn) (I0 s.tr.z) (.slice an s.tr.ns.length cn) (.slice ai s.tr.ss.length ci) (.slice aw s.ws.length cw)) q ⟨s.up,d1,s.id,s.ep,tn,s.dn,s.tr,s.ws⟩:=by
 have ha':=ha.touch ht (fun e=>(sep q e).1 rfl);have hr':=hr.touch ht (fun e=>by have:=MW ol e;omega);have hqW:=ha.lt;have hb':=hb.trans (ht.below (B:=w.heap.size) hb.size (fun k hk=>by have:=MW ol hk;omega));have CP1:=FX on ht (fun k hk hf=>(sep k hf).2.1 hk);have CP2:=FX oi ht (fun k hk hf=>(sep k hf).2.2.1 hk);have keepW:=FX ow ht (fun k hk hf=>(sep k hf).2.2.2 hk);have lq:(Value.slice a2 tn.length c2).ownBlock≠some q:=by
  intro e;rcases hl with h|⟨k,h,hk⟩
  .rw[h]at e;exact(sep q e).1 rfl
  .rw[h]at e;simp only[Option.some.injEq]at e;omega
 refine⟨ha',a,n,c,a2,c2,an,cn,ai,ci,aw,cw,ES hb' (by omega) _ _ _ _ _ _ _ _ _ _,AY2 hr' (by omega) _ _ _ _ _ _ _ _ _ _,fZ ha' _ _ _ _ _ _ _ _ _ _,hq,kF ha'.aP D,U4 L lq _ _ _ _ _ _ _ _ _ _,U4 CP1 n1 _ _ _ _ _ _ _ _ _ _,U4 CP2 n2 _ _ _ _ _ _ _ _ _ _,U4 keepW n3 _ _ _ _ _ _ _ _ _ _,fun k hk=>?_,n1,n2,n3⟩;simp only at hk⊢;rcases hl with h|⟨k',h,hk'⟩
 .rw[h]at hk;exact sep k hk
 .rw[h]at hk;simp only[Option.some.injEq]at hk;subst hk;exact⟨by omega,RP on hk',RP oi hk',RP ow hk'⟩
theorem AY3(s:Sv)(v:Value)(vl:Value)(l:List AQ)(epo:Int)(w:World)(hv:SvV w v s)(hvl:J8 w vl l)(hf:BQ0 s)(hll:l.length<=1000000000)(ht:VQ w)(hk:¬ (G5 s.ts l:Int)<s.dn)(z:Int)(d2 d3:List DF)(hz:CO9 l (G5 s.ts l) z)(G:J9 161 (fun g=>#[g,I0 z]) s.fs d2 0)(R:fP 162 (fun g=>#[g,I0 epo]) d2 d3 0)(gd:H6 d3)(st:Nat->Sv)(h0:st 0=⟨s.up,d3,s.id,epo,s.ts.take (G5 s.ts l),s.dn,s.tr,s.ws⟩)(HT:∀i x,(l.drop (G5 s.ts l))[i]?=some x->CE3 (st i) x (st (i+1))):
  Calls prog 118 #[v,vl,I0 epo] w (ZE w (st (l.drop (G5 s.ts l)).length) 0):=by
 obtain⟨ad,nd,cd,al,cl,an,cn,ai,ci,aw,cw,rfl,d1,l1,n1,s1,k1⟩:=hv.five;have CC:=AA (fun W (hW:B0 w W)=>jY _ vl s.ts l W (l1.next hW) (hvl.next hW) (by have:=hf.l;omega) (by omega));have HG:=AA (fun W (hW:B0 w W)=>G _ W (d1.next hW));have HLR:=AA (fun(j:Nat) (x:AQ) (hx:l[j]?=some x) W (hW:B0 w W)=>RH (hvl.next hW) hx);obtain⟨lb,lc,rfl⟩:=IC hvl;have HR:=AA R;have HTK:=AA HT;have HLV:=AA (fun W (hW:B0 w W)=>hvl.next hW);have HS0:=AA (And.intro (fun W (hW:B0 w W)=>l1.next hW) (And.intro (fun W (hW:B0 w W)=>n1.next hW) (And.intro (fun W (hW:B0 w W)=>s1.next hW) (fun W (hW:B0 w W)=>k1.next hW))));have HFit:=AA (yN hf gd epo (G5 s.ts l));have HTab:=AA (fun W (hW:B0 w W)=>ht.next hW);clear hv d1 l1 n1 s1 k1 hvl hf G R ht HT gd;obtain⟨up,fs,id,ep,ts,dn,⟨tz,tns,tss⟩,ws⟩:=s;simp only at*;go_enter func118,ntmps118;go_wp2_with fail;have X0:=AA (CB.start w up id ep dn tz (.slice ad nd cd) (.slice al ts.length cl) (.slice an tns.length cn) (.slice ai tss.length ci) (.slice aw ws.length cw));generalize (w.alloc (.cells #[.bool up,.slice ad nd cd,I0 id,I0 ep,.slice al ts.length cl,I0 dn,I0 tz,.slice an tns.length cn,.slice ai tss.length ci,.slice aw ws.length cw] 43)).alloc (.cells #[.bool false,N0,I0 0,I0 0,N0,I0 0,I0 0,N0,N0,N0] 43)=W0 at*;refine(A8 CC _ (A8 X0).below).mono ?_;rintro e w1 ⟨rfl,hb1⟩;have X1:=AA ((A8 X0).next hb1);have x5:=(A8 X1).s.cells.2.2.2.2.2.1;clear hb1 X0 CC;have x1:=(A8 X1).s.cells.2.1;have hkl:=(TV ts l).2;have hkt:=(TV ts l).1;generalize G5 ts l=k at*;have hnk:¬ ((k:Int)<dn):=by omega
 go_upto_if 27 with fail
 go_cut [9]from 15 (fun t9 wx=>t9=I0 z/\wx=w1)
 case first=>
  rcases hz with⟨rfl,rfl⟩|⟨x,hk0,hx,rfl⟩
  .go_wp2_with fail
   go_meet
   exact⟨rfl,rfl⟩
  .obtain⟨m,rfl⟩:∃m,k=m+1:=⟨k-1,by omega⟩;simp only[Nat.add_sub_cancel]at hx;obtain⟨b,o,c,he,hb,q,hm1,_⟩:=A8 HLR m x hx w1 (A8 X1).below;simp only[Value.slice.injEq]at he;obtain⟨rfl,_,rfl⟩:=he;have e0:=q.z hx;generalize x.z=z at*;have i1:(m:Int)<(l.length:Int):=by omega
   have i2:(0:Int)<((m+1:Nat):Int):=by omega
   have i3:IntKind.i64.wrap (((m+1:Nat):Int)-1)=(m:Int):=by rw[IntKind.wrap_i64];omega
   have i4:(((m+1:Nat):Int)-1)=(m:Int):=by omega
   clear q hx;go_wp2_with fail
   go_meet
   exact⟨rfl,rfl⟩
 case rest=>
  obtain⟨rfl,rfl⟩:=hcut;clear HLR;go_wp2_with fail;refine(A8 HG _ (A8 X1).below).mono ?_;rintro e w2 ⟨a2,n2,c2,rfl,D2,hb2⟩;have hal:=AB w2 (.cells #[.slice a2 n2 c2] 34);have X2:=AA (((A8 X1).next hb2).next hal);have A2:=AA (FT.new w2 (.slice a2 n2 c2));have F2:=AA ((A8 D2).next hal);have Q2:=AA (show w.heap.size+2<=w2.heap.size from((A8 X1).next hb2).lt);clear hb2 hal X1 D2 HG x1 x5;have ca:=(A8 A2).c;have fa:=(A8 A2).f;go_wp2_with fail;generalize w2.heap.size=q2 at*;generalize w2.alloc (.cells #[.slice a2 n2 c2] 34)=W2 at*;refine(A8 HR _ _ (A8 HTab _ (A8 X2).below) (A8 F2)).mono ?_;rintro e w3 ⟨a3,n3,c3,rfl,D3,hb3⟩;have X3:=(A8 X2).next hb3;have A3:=(A8 A2).next hb3;have ca3:=A3.c;have fa3:=A3.f;have Y3:=X3.dput q2 (.slice a3 n3 c3) (by have:=A8 Q2;omega);have E3:=MN (A8 D3) A3 (.slice a3 n3 c3);have B3:=A3.set (.slice a3 n3 c3);have HX3:=AA Y3;have HD3:=AA E3;have HA3:=AA B3;clear hb3 X2 A2 F2 D3 X3 A3 Y3 E3 B3 HR ca fa;go_upto_region 13 with fail;generalize w3.setCell ⟨q2,0,none⟩ (.slice a3 n3 c3)=W3 at*;clear ca3 fa3;have hcap:ts.length<=cl:=BZ8 (A8 HS0).1;have ca5:=(A8 HA3).c;have x4:=(A8 HX3).s.cells.2.2.2.2.1;have x1:=(A8 HX3).s.cells.2.1;have x3:=(A8 HX3).s.cells.2.2.2.1;have xf1:=(A8 HX3).s.AX 1;have xf3:=(A8 HX3).s.AX 3;have xf4:=(A8 HX3).s.AX 4;have hnq:q2≠w.heap.size:=by have:=A8 Q2;omega
  have k0:(0:Int)<=(k:Int):=by omega
  have kk1:(k:Int)<=(cl:Int):=by omega
  have k2:k<=cl:=by omega
  have RF4:=AA (BH1 (s:=⟨up,d3,id,epo,ts.take k,dn,⟨tz,tns,tss⟩,ws⟩) (A8 HX3) (A8 HD3) (A8 HS0) hkt)
  go_cut [14]from 16 (fun _ wx=>Hid (SF0 w wx ⟨up,d3,id,epo,ts.take k,dn,⟨tz,tns,tss⟩,ws⟩ al cl an cn ai ci aw cw))
  case first=>
   go_region
   all_goals go_wp2_with fail
   all_goals go_meet
   all_goals exact AA ((A8 RF4).next (Below.refl _ _).drew)
  case rest=>
   have HRF:=hcut;clear hcut RF4 ca5 x4 x1 x3 xf1 xf3 xf4 HX3 HD3 HA3;generalize ts.take k=tk at*;obtain⟨ad4,nd4,cd4,CB4,SV4⟩:=A8 HRF;simp only at CB4 SV4;obtain⟨x0,x1,x2,x3,x4,x5,x6,x7,x8,x9⟩:=CB4.s.cells;have CPY:=AA (WG (⟨up,d3,id,epo,tk,dn,⟨tz,tns,tss⟩,ws⟩:Sv) _ wc SV4 (A8 HFit));have HBR:=AA (And.intro CB4.below CB4.r);clear SV4 CB4 HRF HFit HS0;go_wp2_with fail;refine(A8 CPY).mono ?_;rintro e w5 ⟨bd,md,fd,bl,fl,bn,fn,bi,fi,bw,fw,B1,B2,rfl,h1,h2,od,hd1,ol,hl2,on,oi,ow,hb5⟩;simp only at od ol hl2 on oi ow;have LF5:=AA (BH2 (s:=(⟨up,d3,id,epo,tk,dn,⟨tz,tns,tss⟩,ws⟩:Sv)) (A8 HBR).1 (A8 HBR).2 h1 h2 od ol hl2 on oi ow hb5);simp only at LF5;clear h1 h2 od hd1 ol hl2 on oi ow hb5 HBR CPY x0 x1 x2 x3 x4 x5 x6 x7 x8 x9;go_upto_region 15 with fail;generalize w5.heap.size=q5 at*;generalize w5.alloc (.cells #[.bool up,.slice bd md fd,I0 id,I0 epo,.slice bl tk.length fl,I0 dn,I0 tz,.slice bn tns.length fn,.slice bi tss.length fi,.slice bw ws.length fw] 43)=W5 at*
   go_cut [71,72,73]from 15 (fun t71 t72 t73 wx=>∃la lcc,t71=.slice la (l.length-k) lcc/\t72=I0 ((l.length-k:Nat):Int)/\t73=I0 0/\wx=W5/\Hid (∀W,B0 w W->J8 W (.slice la (l.length-k) lcc) (l.drop k)))
   case first=>
    by_cases hlc:lc=k
    .subst hlc;go_wp2_with fail
     all_goals go_meet
     all_goals exact⟨_,_,rfl,rfl,rfl,rfl,AA fun W hW=>((A8 HLV W hW).drop hkl).1 rfl⟩
    .go_wp2_with fail
     all_goals go_meet
     all_goals exact⟨_,_,rfl,rfl,rfl,rfl,AA fun W hW=>((A8 HLV W hW).drop hkl).2 hlc⟩
   case rest=>
    obtain⟨la,lcc,rfl,rfl,rfl,rfl,HLD⟩:=hcut;clear HLV hcap hnq k0 kk1 k2 hkt;go_wp2_with fail
    go_loopg [73] (l.length-k) (fun kx s73 wr=>∃i:Nat,s73=I0 i/\i<=l.length-k/\l.length-k-i<=kx/\Hid (LF w wr q5 (st i)))
    case atStart=>exact⟨0,rfl,Nat.zero_le _,by omega,AA (by rw[h0];exact A8 LF5)⟩
    case round=>
     obtain⟨i,rfl,hi,hgi,hR⟩:=hrel;by_cases hlt:i<l.length-k
     .clear h0 LF5;obtain⟨x,hx⟩:∃x,(l.drop k)[i]?=some x:=⟨_,List.getElem?_eq_getElem (by simp;omega)⟩;obtain⟨gad,gnd,gcd,gal,gcl,gan,gcn,gai,gci,gaw,gcw,hbw,hr,ha,hq,hd,ol,on,oi,ow,sep,n1,n2,n3⟩:=A8 hR;obtain⟨b,o,c,he,hb,q,hq9⟩:=RH (A8 HLD wr hbw) hx;simp only[Value.slice.injEq]at he;obtain⟨rfl,he2,rfl⟩:=he;clear he2 hq9;have e0:=q.z hx;have e1:=q.o hx;have e2:=q.s hx;have e3:=q.p hx;have e4:=q.d hx;have e5:=q.v hx;have e6:=q.w hx;obtain⟨tz',tp',td',tn',d1,hst,G⟩:=A8 HTK i x hx;obtain⟨xz,xo,xs,xp,xd,xv,xw⟩:=x;have hal:=AB wr (.cells #[I0 xz,I0 xo,I0 xs,S0 xp,S0 xd,I0 xv,I0 xw] 49);have CT:=AA (CD9 (st i).up (st i).id (st i).ep (st i).dn (st i).tr.z (st i).fs (st i).ts (⟨xz,xo,xs,xp,xd,xv,xw⟩:AQ) true (.slice gad gnd gcd) (.slice gal (st i).ts.length gcl) gan gai gaw (st i).tr.ns.length gcn (st i).tr.ss.length gci (st i).ws.length gcw _ (hd.next hal) (FV.1 (ol.next hal).seq) tz' d1 (w.heap.size+2) (by have:=ha.lt;have:=hal.size;omega) (ol.next hal) tn' tp' td' G);unfold DW at CT;simp only at e0 e1 e2 e3 e4 e5 e6 CT;have LS:=AA (fun V a n c a2 c2 (tn:List AQ) (T:Touch _ _ V) (D:C9 V (.slice a n c) d1) (L:BD V (w.heap.size+2) (.slice a2 tn.length c2) tn) hl=>BZ9 (s:=(st i)) (AL hbw hal) (hr.next hal) (ha.next hal) hq (ol.next hal) (on.next hal) (oi.next hal) (ow.next hal) sep n1 n2 n3 T D L hl);obtain⟨x0,x1,x2,x3,x4,x5,x6,x7,x8,x9⟩:=(ha.next hal).cells;have BV6:(i:Int)<((l.length-k:Nat):Int):=by omega
      clear q hx hal hbw hr ha hd ol on oi ow sep n1 n2 n3 hR tz' tp' td' tn' G;go_wp2_with fail;generalize wr.alloc (.cells #[I0 xz,I0 xo,I0 xs,S0 xp,S0 xd,I0 xv,I0 xw] 49)=W6 at*;refine(A8 CT).mono ?_;rintro e w7 ⟨a7,n7,c7,b7,f7,rfl,D7,L7,hl7,T7⟩;obtain⟨HA7,LF7⟩:=A8 LS w7 a7 n7 c7 b7 f7 ((st i).ts++[(⟨xz,xo,xs,xp,xd,xv,xw⟩:AQ)]) T7 D7 L7 hl7;rw[<-hst]at LF7;generalize (st i).ts++[(⟨xz,xo,xs,xp,xd,xv,xw⟩:AQ)]=tn at*;have HLF7:=AA LF7;clear x0 x1 x2 x3 x4 x5 x6 x7 x8 x9;obtain⟨x0,x1,x2,x3,x4,x5,x6,x7,x8,x9⟩:=HA7.cells;have xf0:=HA7.AX 0;have xf1:=HA7.AX 1;have xf2:=HA7.AX 2;have xf3:=HA7.AX 3;have xf4:=HA7.AX 4;have xf5:=HA7.AX 5;have xf6:=HA7.AX 6;have xf7:=HA7.AX 7;have xf8:=HA7.AX 8;have xf9:=HA7.AX 9;clear LF7 D7 L7 hl7 T7 HA7 LS CT hst e0 e1 e2 e3 e4 e5 e6;unfold LC at HLF7;go_wp2_with fail
      go_roundg (l.length-k-(i+1))
      case measure=>omega
      case rel=>exact⟨i+1,rfl,by omega,Nat.le_refl _,HLF7⟩
     .obtain rfl:i=l.length-k:=by omega
      obtain⟨gad,gnd,gcd,gal,gcl,gan,gcn,gai,gci,gaw,gcw,hbw,hr,ha,hq,hd,ol,on,oi,ow,sep,n1,n2,n3⟩:=A8 hR;obtain⟨x0,x1,x2,x3,x4,x5,x6,x7,x8,x9⟩:=ha.cells;obtain⟨r0,r1,r2,r3,r4,r5,r6,r7,r8,r9⟩:=hr.cells;have rf0:=hr.AX 0;have rf1:=hr.AX 1;have rf2:=hr.AX 2;have rf3:=hr.AX 3;have rf4:=hr.AX 4;have rf5:=hr.AX 5;have rf6:=hr.AX 6;have rf7:=hr.AX 7;have rf8:=hr.AX 8;have rf9:=hr.AX 9;have PN:=AA (XZ (s:=st (l.length-k)) hr.aP hd (FV.1 ol.seq) on.seq oi.seq (UW oi (by omega)) ow.seq);have HB9:=AA hbw;have FR9:=AA (IG oi);have hdl:(l.drop k).length=l.length-k:=by simp
      clear hbw hr ha hd ol on oi ow sep n1 n2 n3 hR;go_wp2_with fail;refine bodyPost_ret (v:=.tuple #[.agg #[.bool (st (l.length-k)).up,.slice gad gnd gcd,I0 (st (l.length-k)).id,I0 (st (l.length-k)).ep,.slice gal (st (l.length-k)).ts.length gcl,I0 (st (l.length-k)).dn,I0 (st (l.length-k)).tr.z,.slice gan (st (l.length-k)).tr.ns.length gcn,.slice gai (st (l.length-k)).tr.ss.length gci,.slice gaw (st (l.length-k)).ws.length gcw],I0 0]) (by simp[results,results118,go_sem,r0,r1,r2,r3,r4,r5,r6,r7,r8,r9]) rfl ?_;rw[hdl];exact⟨gad,gnd,gcd,gal,_,gcl,gan,_,gcn,gai,_,gci,gaw,_,gcw,rfl,AA ⟨A8 PN,(A8 FR9).lower (by omega)⟩,ES (A8 HB9) (by omega) _ _ _ _ _ _ _ _ _ _⟩
