/-
  Part.
-/
import Derived.Test.YtenkgjfahcgppaaGreatDoorLOZ
set_option maxRecDepth 20000
set_option maxHeartbeats 8000000
namespace Go.Proofs.YtenkgjfahcgppaaGreatDoor
open Go.RowKit Go.Proofs.Tryz
structure CB2(w W:World)(s z:Int)(v:Value):Prop where
 below:B0 w W
 s:JD W (w.heap.size+1) s z v
 r:JD W w.heap.size 0 0 (N0)
section
variable {w W V:World} {s z:Int} {v:Value}
theorem CB2.next(h:CB2 w W s z v)(hb:B0 W V):CB2 w V s z v:=⟨AL h.below hb,h.s.next hb,h.r.next hb⟩
theorem CB2.put(h:CB2 w W s z v)(u:Value):CB2 w (W.setCell ⟨w.heap.size+1,2,none⟩ u) s z u:=
 ⟨h.below.setCell (by simp) u,h.s.set2,h.r.other (by simp) u⟩
theorem CB2.start(w:World)(s z:Int)(v:Value):CB2 w ((w.alloc (.cells #[I0 0,I0 0,N0] 77)).alloc (.cells #[I0 s,I0 z,v] 77)) s z v:=by
 have h:=JD.new (w.alloc (.cells #[I0 0,I0 0,N0] 77)) s z v;rw[show (w.alloc (.cells #[I0 0,I0 0,N0] 77)).heap.size=w.heap.size+1 by simp]at h;exact⟨AL (AB _ _) (AB _ _),h,(JD.new w 0 0 _).next (AB _ _)⟩
end
def C68(w:World)(c:Cl)(e:Ending)(w':World):Prop:=
 ∃a n,e=.returned (.agg #[I0 c.s,I0 c.z,.slice a c.es.length n])/\BD w' w.heap.size (.slice a c.es.length n) c.es/\B0 w w'
theorem AJ9(p:Pw)(k i:Nat)(W:World)(hx:WX W k p)(hi:i<16)(c:Cl)(hc:p.c i=c)(hl:c.es.length<=400):
  Calls prog 21 #[wP k,I0 i] W (C68 W c):=by
 obtain⟨a,cp,e0,e1,e2,hv⟩:=hx.cl hi;rw[hc]at e0 e1 e2 hv;have hk0:=hx.lt;have HC:=AA (fun V (hV:B0 W V)=>AZ4 _ c.es V (hv.next hV) (by omega));have HS:Hid (∀V,B0 W V->V.cell? ⟨k,34+3*i,none⟩=some (I0 c.s)/\V.cell? ⟨k,34+3*i+1,none⟩=some (I0 c.z)/\V.cell? ⟨k,34+3*i+2,none⟩=some (.slice a c.es.length cp)):=AA fun V hV=>⟨(hV.cell (p:=⟨k,_,none⟩) hk0).trans e0,(hV.cell (p:=⟨k,_,none⟩) hk0).trans e1,(hV.cell (p:=⟨k,_,none⟩) hk0).trans e2⟩;have CC:=U9 i 16;rw[show ZI i 16=true by simp[ZI];omega]at CC;clear e0 e1 e2 hv hx hc hl;obtain⟨s,z,es⟩:=c;simp only[Nat.mul_comm 3 i]at*;have hi4:(i:Int)<16:=by omega
 have hi5:(0:Int)<=i:=by omega
 unfold wP;go_enter func21,ntmps21;go_wp2_with fail;refine(CC _).mono ?_;rintro e w1 ⟨rfl,rfl⟩;obtain⟨c0,c1,c2⟩:=A8 HS _ (AB W (.cells #[I0 0,I0 0,N0] 77));clear CC HS;go_upto_region 4 with fail;clear c0 c1 c2;have X0:=CB2.start W s z (.slice a es.length cp);generalize ((W.alloc (.cells #[I0 0,I0 0,N0] 77)).alloc _)=V0 at*;have HX0:=AA X0;have x0:=X0.s.c0;have x1:=X0.s.c1;have x2:=X0.s.c2;clear X0 hi4 hi5 hi hk0;go_wp2_with fail;refine(A8 HC _ (A8 HX0).below).mono ?_;rintro e w1 ⟨v1,rfl,o1,hb1⟩;obtain⟨a1,c1,rfl,_⟩:=o1.slice;have z1:W.heap.size+2<=V0.heap.size:=(A8 HX0).s.lt;have X1:=(A8 HX0).next hb1;have HX1:=AA (X1.put (.slice a1 es.length c1));clear x0 x1 x2;have x0:=X1.s.c0;have x1:=X1.s.c1;have x2:=X1.s.c2;have g2:=X1.s.fr 2;have O1:=AA (DC (j:=2) (u:=.slice a1 es.length c1) (o1.lower z1) (by omega:W.heap.size+1<_));clear X1 o1 hb1 z1 HX0 HC;go_upto_region 5 with fail;generalize w1.setCell ⟨W.heap.size+1,2,none⟩ (.slice a1 es.length c1)=V1 at*;clear x0 x1 x2 g2;have x0:=(A8 HX1).s.c0;have x1:=(A8 HX1).s.c1;have x2:=(A8 HX1).s.c2;have r0:=(A8 HX1).r.c0;have r1:=(A8 HX1).r.c1;have r2:=(A8 HX1).r.c2;have rf0:=(A8 HX1).r.fr 0;have rf1:=(A8 HX1).r.fr 1;have rf2:=(A8 HX1).r.fr 2;have HF:=AA ((((A8 HX1).below.setCell (p:=⟨W.heap.size,0,none⟩) (Nat.le_refl _) (I0 s)).setCell (p:=⟨W.heap.size,1,none⟩) (Nat.le_refl _) (I0 z)).setCell (p:=⟨W.heap.size,2,none⟩) (Nat.le_refl _) (.slice a1 es.length c1));have Q1:=AA ((DC (j:=2) (u:=.slice a1 es.length c1) (DC (j:=1) (u:=I0 z) (DC (j:=0) (u:=I0 s) (A8 O1) (by omega:W.heap.size<_)) (by omega:W.heap.size<_)) (by omega:W.heap.size<_)).lower (Nat.le_add_right _ 2));clear O1 HX1;go_wp2_with fail;exact bodyPost_ret (v:=.agg #[I0 s,I0 z,.slice a1 es.length c1]) (by simp[results,results21,go_sem,r0,r1,r2]) rfl ⟨a1,c1,rfl,A8 Q1,A8 HF⟩
