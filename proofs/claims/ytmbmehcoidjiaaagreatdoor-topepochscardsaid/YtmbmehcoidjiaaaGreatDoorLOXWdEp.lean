/-
  Part.
-/
import Derived.Test.YtmbmehcoidjiaaaGreatDoorLOXWdPc
import Derived.Test.YtmbmehcoidjiaaaGreatDoorLOXWdEq
set_option maxRecDepth 20000
set_option maxHeartbeats 8000000
namespace Go.Proofs.YtmbmehcoidjiaaaGreatDoor
open Go.RowKit Go.Proofs.Tryz
theorem do_h(p:Pw)(d:Dd):(doP p d).2.h=p.h:=by
 unfold doP
 repeat' split
 all_goals first|rfl|exact C29 _ _
def B31(p:Pw)(o:Obj):Prop:=∃n:Int,o=.cells #[.int .i64 n] 3 (0,0)∧∃k,k<3∧n≤(p.s k).e
theorem BK6{V:World}{c:Nat}{n:Int}(h:V.heap[c]?=some (.cells #[.int .i64 n] 3 (0,0))):WO V c:=⟨_,_,h,fun j s=>by
 rcases j with _|j
 ·simp
 ·simp⟩
theorem BK7{V:World}{c:Nat}{n:Int}(h:V.heap[c]?=some (.cells #[.int .i64 n] 3 (0,0))):V.cell? ⟨c,0,none⟩=some (.int .i64 n)∧V.frozen? ⟨c,0,none⟩=false:=by
 simp[World.cell?,World.frozen?,h]
theorem AI0{q:Pw}(h:MX q){b:Nat}(hb:b<3)(hr:q.r b=2):(svP b (q.s b)).up=true∧(svP b (q.s b)).id=b∧(svP b (q.s b)).dn=((svP b (q.s b)).ts.length:Nat)∧(svP b (q.s b)).ep=(q.s b).e∧∀k,k<3→(q.s k).e≤(q.s b).e:=by
 have hu:=h.rup b hb (by omega);have ha:=(h.a.lead b (VK h hb hr).1).2.2.2.1;rw[DJ hu];refine⟨rfl,rfl,?_,rfl,fun k hk=>?_⟩
 ·show ((q.s b).dn:Int)=((q.s b).m.length:Nat);rw[h.all b hb hr]
 ·have:=ha k hk;simpa only[awP,if_pos hk,if_pos hb]using this
theorem AI1(p:Pw)(d:Dd)(k c:Nat)(u:Value)(V:World)(h:MX p)(hh:p.h=k)(hx:WX V k (doP p d).2)(hck:c<k)(ho:∃o,V.heap[c]?=some o∧B31 p o):Calls prog 14 #[wP k,ddV d,rpV (doP p d).1 u,.pointer (some ⟨c,0,none⟩)] V fun e w'=>e=.returned (.bool true)∧Touch (· =c) V w'∧WX w' k (doP p d).2∧∃o,w'.heap[c]?=some o∧B31 (doP p d).2 o:=by
 have HE:=AA (BK5 d h);have hw:=WL d h;have hq:(doP p d).2.h=k:=(do_h p d).trans hh;obtain⟨_,ho,n,rfl,kl,hkl,hnl⟩:=ho;generalize doP p d=x at*;obtain⟨r,q⟩:=x;simp only at HE hx hw hq;have hck2:=hx.lt;have B0:=AA (LB.start V d r u);have CL:=AA (fun W (hW:Below V.heap.size V W)=>KG q k W (hx.next hW));have CS:=AA (fun W (hW:Below V.heap.size V W) b (hb:b<3)=>kJ q k b W (hx.next hW) hb _ rfl ((hw.s b hb).more hw.n1).few);have HC:=AA (fun W (hW:Below V.heap.size V W)=>(hW.block c (by omega)).trans ho);have HX:=AA hx;have HW:=AA hw;have HN:Hid (B31 q (.cells #[.int .i64 n] 3 (0,0))):=AA ⟨n,rfl,kl,hkl,Int.le_trans hnl ((A8 HE).1 kl hkl)⟩;clear hw hx h ho;unfold wP at CL CS;unfold wP ddV rpV;go_enter func14,ntmps14;go_upto_region 1 with fail;generalize ((V.alloc _).alloc _)=W0 at*;go_wp2_with fail;refine(A8 CL _ (A8 B0).b).mono ?_;rintro e w1 ⟨rfl,hb1⟩;have B1:=AA ((A8 B0).next hb1);clear hb1 B0 CL;rcases U4 q.r with⟨hl,_⟩|⟨b,hb,hl,hr⟩
 ·rw[hl];clear hl;go_wp2_with fail;go_ret;exact⟨rfl,Touch.of_below (A8 B1).b,(A8 HX).next (A8 B1).b,_,A8 HC _ (A8 B1).b,A8 HN⟩
 ·rw[hl];obtain⟨l1,l2,l3,l4,l5⟩:=AI0 (A8 HW) hb hr;have C:=AA (A8 CS _ (A8 B1).b b hb);have HR:=AA hr;have HM:=AA l5;have hge:¬ ((svP b (q.s b)).ep<n):=by
   have h1:=(A8 HE).1 kl hkl;have h2:=l5 kl hkl;rw[l4];omega
  have hgt:d.k=5→r.E=0→((svP b (q.s b)).ep==n)=false:=fun h5 hE=>by
   obtain⟨b',hb',hr',hlt⟩:=(A8 HE).2 h5 hE;have e:=(A8 HW).one b b' hb hb' hr hr';subst e;have:=hlt kl hkl;rw[l4];exact beq_eq_false_iff_ne.2 (by omega)
  have HL:Hid (B31 q (.cells #[.int .i64 (svP b (q.s b)).ep] 3 (0,0))):=AA ⟨_,rfl,b,hb,by rw[l4];exact Int.le_refl _⟩;generalize svP b (q.s b)=s at*;clear l4 l5 hl hr CS HE hnl HN;have hb0:¬ ((b:Int)<0):=by omega
  go_wp2_with fail;refine(A8 C).mono ?_;rintro e w2 ⟨ad,cd,al,cl,an,cn,ai,ci,aw,cw,rfl,_,_,_,_,_,hb2⟩;have B2:=AA ((A8 B1).next hb2);clear hb2 B1 C;go_upto_region 5 with fail;have X:=BN.new w2 true b s.ep s.ts.length s.tr.z (.slice ad s.fs.length cd) (.slice al s.ts.length cl) (.slice an s.tr.ns.length cn) (.slice ai s.tr.ss.length ci) (.slice aw s.ws.length cw);have B3:=AA ((A8 B2).next (AB w2 (.cells #[.bool true,.slice ad s.fs.length cd,.int .i64 b,.int .i64 s.ep,.slice al s.ts.length cl,.int .i64 s.ts.length,.int .i64 s.tr.z,.slice an s.tr.ns.length cn,.slice ai s.tr.ss.length ci,.slice aw s.ws.length cw] 48)));generalize w2.alloc _=W3 at*;generalize w2.heap.size=g at*;obtain⟨x0,_,x2,x3,x4,x5,_,_,_,_⟩:=X.cells;have HH:=AA (A8 HC _ (A8 B3).b);obtain⟨c0,cf⟩:=BK7 (A8 HH);have dr:=(A8 B3).d.row;have d0:W3.cell? ⟨V.heap.size,0,none⟩=some (.int .i64 d.k):=by
   simp only[Nat.zero_add]at dr;exact dr 0 _ rfl
  obtain⟨r0,r1,_,_,_,_,_,_,_,_,_,_⟩:=(A8 B3).r.cells;have FIN:=AA (And.intro ((Touch.of_below (F:=(· =c)) (A8 B3).b).trans (EM _ c 0 (.int .i64 s.ep))) (And.intro (((A8 HX).next (A8 B3).b).box (BK6 (A8 HH)) hck hq (EM _ c 0 (.int .i64 s.ep))) (AV (j:=0) (.int .i64 s.ep) (A8 HH))));have hcl:c<W3.heap.size:=by have:=(A8 B3).b.size;omega
  clear dr X B2 B3 HX HH HC l1 l2 l3;have hbad:∃f,(d.k==5)=f∧(f=true→∃f2,(r.E==0)=f2∧(f2=true→(s.ep==n)=false)):=⟨_,rfl,fun h5=>⟨_,rfl,fun hE=>hgt (by simpa using h5) (by simpa using hE)⟩⟩;clear hgt;obtain⟨f,hf,hbad⟩:=hbad
  cases f with
  |false=>
   clear hbad;go_wp2_with fail;go_ret;exact⟨rfl,(A8 FIN).1,(A8 FIN).2.1,_,(A8 FIN).2.2,A8 HL⟩
  |true=>
   obtain⟨f2,hf2,hbad⟩:=hbad rfl
   cases f2 with
   |false=>
    clear hbad;go_wp2_with fail;go_ret;exact⟨rfl,(A8 FIN).1,(A8 FIN).2.1,_,(A8 FIN).2.2,A8 HL⟩
   |true=>
    replace hbad:=hbad rfl;go_wp2_with fail;go_ret;exact⟨rfl,(A8 FIN).1,(A8 FIN).2.1,_,(A8 FIN).2.2,A8 HL⟩
theorem iI(ds:List Dd)(v:Value)(W:World)(hv:BZ W v ds)(hm:∀d∈ds,d.q.p.length≤140737488355328∧d.q.d.length≤140737488355328)(hT:UZ W):Calls prog 5 #[v] W fun e w'=>e=.returned (.bool true)∧Below W.heap.size W w':=by
 have hg:=xG hT;have C:=AA (yS W.heap.size (fun k i o=>B31 (LW (pw0 k) (ds.take i)) o) ds v (W.alloc (.cells #[.int .i64 0] 3)) (fun V hV=>by
   have hb:Below W.heap.size (W.alloc (.cells #[.int .i64 0] 3)) V:=hV.below (by simp) (fun k e=>by omega);exact hv.next ((AB W _).trans hb)) hm (hT.next (AB _ _)) (by simp) (by omega) (fun k=>⟨_,heap_alloc_new W _,0,rfl,0,by omega,by rw[List.take_zero];exact Int.le_refl _⟩)
  (fun k V i d u hd hx _ hck ho=>by
   have:=AI1 _ d k _ u V (U6 _ _ (O9 k)) (A68 _ _) hx hck ho;rwa[gI (pw0 k) hd]))
 unfold wP at C;clear hv hm hT hg;go_enter func5,ntmps5;go_wp2_with fail;refine(A8 C).mono ?_;rintro e w1 ⟨k,rfl,hp⟩;have HP:Hid (Below W.heap.size W w1):=AA ((AB W _).trans (hp.b.below (by simp) (fun k e=>by omega)));clear hp C;go_wp2_with fail;go_ret;exact⟨rfl,A8 HP⟩
end Go.Proofs.YtmbmehcoidjiaaaGreatDoor
