/-
  Part.
-/
import Derived.Test.YtenkgjfahcgppaaGreatDoorLOXWdLo
import Derived.Test.YtenkgjfahcgppaaGreatDoorLOXWdQt
import Derived.Test.YtenkgjfahcgppaaGreatDoorLOXWdSv
import Derived.Test.YtenkgjfahcgppaaGreatDoorLOXWdSt
import Derived.Test.YtenkgjfahcgppaaGreatDoorLOXWdTp
import Derived.Test.YtenkgjfahcgppaaGreatDoorLOXWdTb
set_option maxRecDepth 20000
set_option maxHeartbeats 8000000
namespace Go.Proofs.YtenkgjfahcgppaaGreatDoor
open Go.RowKit Go.Proofs.Tryz
theorem oN(ds:List Dd)(v:Value)(W:World)(hv:BQ W v ds)(hm:∀d∈ds,d.q.p.length<=140737488355328/\d.q.d.length<=140737488355328)(hT:VQ W):Calls prog 4 #[v] W (R0 W (.bool true)):=by
 have C:=AA (kZ ds v W hv hm hT (fun k V i d u _ _ _=>uP _ _ _ _ V));clear hv hm hT;unfold wP at C;go_enter func4,ntmps4;go_wp2_with fail;refine(A8 C).mono ?_;rintro e V ⟨k,rfl,hp⟩;have HB:=AA hp.b;have hw:=QO (ds.take 100) (pw0 k) (MH k);have hx:=hp.x;generalize JO (pw0 k) (ds.take 100)=q at*;have CS:=AA (fun W (hW:B0 V W) b (hb:b<3)=>VA q k b W (hx.next hW) hb _ rfl ((hw.s b hb).more hw.n1).few);have HI:=AA (fun i (hi:i<3)=>B65 hw hi);clear hp hx hw C;unfold wP at CS;go_wp2_with fail
 go_loopg [5] 3 (fun kx s5 wr=>∃i:Nat,s5=I0 i/\i<=3/\3-i<=kx/\Hid (B0 V wr))
 case atStart=>exact⟨0,rfl,by omega,by omega,AA (Below.refl _ _)⟩
 case round=>
  obtain⟨i,rfl,hi,hg,B1⟩:=hrel;by_cases hi3:i<3
  .have hi4:(i:Int)<3:=by omega
   have C:=AA (A8 CS _ (A8 B1) i hi3);obtain⟨m,n,hI⟩:=A8 HI i hi3;generalize svP i (q.s i)=s at*;obtain⟨up,fs,id,ep,ts,dn,tr,ws⟩:=s;obtain⟨i1,i2,i3,i4,i5,i6,i7⟩:=hI;simp only at i1 i2 i5;subst i1;subst i2;subst i5;have HG:=AA i6;have HP:=AA i7;clear i6 i7;go_wp2_with fail;refine(A8 C).mono ?_;rintro e w1 ⟨ad,cd,al,cl,an,cn,ai,ci,aw,cw,rfl,_,o2,o3,o4,_,hb1⟩;have hcp:=BO6 o2;have HL:=AA (FV.1 o2.seq);have HN:=AA o3.seq;have HS:=AA o4.seq;have B2:=AA (AL (A8 B1) hb1);clear o2 o3 o4 hb1 C B1;go_upto_region 8 with fail;have X1:=BO.new w1 up id ep n (JX ts n).z (.slice ad fs.length cd) (.slice al ts.length cl) (.slice an (JX ts n).ns.length cn) (.slice ai (JX ts n).ss.length ci) (.slice aw ws.length cw);have A1:=AA (AB w1 (.cells #[.bool up,.slice ad fs.length cd,I0 id,I0 ep,.slice al ts.length cl,I0 (n:Nat),I0 (JX ts n).z,.slice an (JX ts n).ns.length cn,.slice ai (JX ts n).ss.length ci,.slice aw ws.length cw] 43));generalize w1.alloc _=W1 at*;have B3:=AA (AL (A8 B2) (A8 A1));have HL1:=AA (fun V (hV:B0 W1 V)=>((A8 HL).next (A8 A1)).next hV);have HN1:=AA (fun V (hV:B0 W1 V)=>((A8 HN).next (A8 A1)).next hV);have HS1:=AA (fun V (hV:B0 W1 V)=>((A8 HS).next (A8 A1)).next hV);have HX:=AA X1;generalize w1.heap.size=g1 at*;clear X1 A1 HL HN HS B2;go_wp2_with fail;refine(mY _).mono ?_;rintro e w2 ⟨vn,vs,rfl,n1,s1,hb2⟩;obtain⟨an1,cn1,rfl,_⟩:=n1.slice;obtain⟨ai1,ci1,rfl,_⟩:=s1.slice;have T0:Hid (TBx W1 (w2.alloc (.cells #[I0 JK.z,.slice an1 JK.ns.length cn1,.slice ai1 JK.ss.length ci1] 40)) w2.heap.size JK (.slice an1 JK.ns.length cn1) (.slice ai1 JK.ss.length ci1)):=AA ⟨heap_alloc_new w2 _,n1.next (AB _ _),s1.next (AB _ _),hb2.size,AL hb2 (AB _ _)⟩;clear n1 s1 hb2;go_upto_region 9 with fail;generalize w2.alloc _=W2 at*;generalize w2.heap.size=g2 at*;obtain⟨x0,x1,x2,x3,x4,x5,x6,x7,x8,x9⟩:=((A8 HX).next (A8 T0).bl).cells;have hl0:¬ ((n:Int)<0):=by omega
   have hl1:¬ ((ts.length:Int)<(n:Int)):=by omega
   have hl2:(n:Int)<=(cl:Int):=by omega
   go_upto_region 12 with fail;clear x0 x1 x2 x3 x4 x5 x6 x7 x8 x9 hl0 hl1 hl2
   go_loopg [50] n (fun kx s50 wr=>∃ (j:Nat) (t:Tr) (an:Option Addr) (cn:Nat) (ai:Option Addr) (ci:Nat),s50=I0 j/\j<=n/\n-j<=kx/\Hid (t=JX ts j)/\Hid (TBx W1 wr g2 t (.slice an t.ns.length cn) (.slice ai t.ss.length ci)))
   case atStart=>exact⟨0,JK,an1,cn1,ai1,ci1,rfl,by omega,by omega,AA (MX _).symm,T0⟩
   case round=>
    obtain⟨j,t,bn,dn,bi,di,rfl,hj,hgj,HE,HT⟩:=hrel;clear T0;by_cases hjn:j<n
    .have hj4:(j:Int)<(n:Int):=by omega
     obtain⟨x,hx⟩:∃x,ts[j]?=some x:=⟨_,List.getElem?_eq_getElem (by omega)⟩;obtain⟨p1,p2,p3⟩:=A8 HP j x hjn hx;obtain⟨b,off,cap,he,_,_,_,_,_⟩:=VR (FV.2 (A8 HL1 wr (A8 HT).bl)) hx;simp only[Value.slice.injEq,true_and]at he;obtain⟨rfl,rfl⟩:=he;obtain⟨y0,y1,y2,y3,y4,y5,y6⟩:=CJ9 (FV.2 (A8 HL1 wr (A8 HT).bl)) hx;have hgt:=A8 HG j (by omega);rw[<-A8 HE]at p1 p2 hgt;have CA:=AA (fun V (hV:TBx W1 V g2 t (.slice bn t.ns.length dn) (.slice bi t.ss.length di))=>fC t _ _ x V hV.n.seq hV.s.seq hgt.wf (by omega));unfold VK DW at CA;rw[p1,p2]at CA;have HE2:Hid (∃t',t'=JX ts (j+1)):=AA ⟨_,rfl⟩;obtain⟨t',ht'⟩:=A8 HE2;rw[<-ht']at CA;have HE3:=AA ht';clear p1 p2 p3 hgt hx HE HE2 ht';go_upto_region 14 with fail;have Y1:=TAt.new wr x;have T1:=AA ((A8 HT).next (AB wr (.cells #[I0 x.z,I0 x.o,I0 x.s,S0 x.p,S0 x.d,I0 x.v,I0 x.w] 49)));generalize wr.alloc _=W3 at*;generalize wr.heap.size=g3 at*;clear y0 y1 y2 y3 y4 y5 y6 HT;have y0:=Y1.c0;have y1:=Y1.c1;have y2:=Y1.c2;have y3:=Y1.c3;have y4:=Y1.c4;have y5:=Y1.c5;have y6:=Y1.c6;obtain⟨z0,z1,z2,_,_,_⟩:=(A8 T1).cells;have C:=AA (A8 CA _ (A8 T1));clear Y1 CA;go_wp2_with fail;refine(A8 C).mono ?_;rintro e w4 ⟨vn4,vs4,ve4,rfl,n4,s4,e4,hb4⟩;obtain⟨an4,cn4,rfl,_⟩:=n4.slice;obtain⟨ai4,ci4,rfl,_⟩:=s4.slice;obtain⟨ae4,ce4,rfl,_⟩:=e4.slice;have hz1:=(A8 T1).bl.size;have hz2:=(A8 T1).lt;have hz3:=hb4.size;have T4:=AA (((A8 T1).next hb4).next (AB w4 (.cells #[I0 t'.z,.slice an4 t'.ns.length cn4,.slice ai4 t'.ss.length ci4] 40)));have N4:=AA ((n4.lower hz1).next (AB w4 (.cells #[I0 t'.z,.slice an4 t'.ns.length cn4,.slice ai4 t'.ss.length ci4] 40)));have S4:=AA ((s4.lower hz1).next (AB w4 (.cells #[I0 t'.z,.slice an4 t'.ns.length cn4,.slice ai4 t'.ss.length ci4] 40)));have Q4:=heap_alloc_new w4 (.cells #[I0 t'.z,.slice an4 t'.ns.length cn4,.slice ai4 t'.ss.length ci4] 40);clear n4 s4 e4 hb4 C y0 y1 y2 y3 y4 y5 y6 z0 z1 z2;go_upto_region 15 with fail;have hne:g2≠w4.heap.size:=by omega
     generalize w4.alloc _=W4 at*;generalize w4.heap.size=g4 at*;have q0:W4.cell? ⟨g4,0,none⟩=some (I0 t'.z):=by simp[World.cell?,Q4]
     have q1:W4.cell? ⟨g4,1,none⟩=some (.slice an4 t'.ns.length cn4):=by simp[World.cell?,Q4]
     have q2:W4.cell? ⟨g4,2,none⟩=some (.slice ai4 t'.ss.length ci4):=by simp[World.cell?,Q4]
     obtain⟨z0,z1,z2,f0,f1,f2⟩:=(A8 T4).cells;have T5:=AA ((A8 T4).put (A8 N4) (A8 S4));clear T4 N4 S4 Q4 T1 hz1 hz2 hz3;go_wp2_with fail
     go_roundg (n-(j+1))
     case measure=>omega
     case rel=>exact⟨j+1,t',an4,cn4,ai4,ci4,by simp,by omega,Nat.le_refl _,HE3,T5⟩
    .obtain rfl:j=n:=by omega
     have htj:=A8 HE;subst htj;have hgt:=A8 HG j (Nat.le_refl _);have CT:=AA (fun V (hV:B0 wr V)=>AK3 (JX ts j) _ _ _ _ V ((A8 HT).n.seq.next hV) ((A8 HT).s.seq.next hV) (A8 HN1 V (AL (A8 HT).bl hV)) (A8 HS1 V (AL (A8 HT).bl hV)) (by have:=hgt.nod.few;omega) (by have:=NZ hgt.ses;omega));have CG:=AA (fun V (hV:B0 wr V)=>TS (JX ts j) _ _ V (A8 HN1 V (AL (A8 HT).bl hV)) (A8 HS1 V (AL (A8 HT).bl hV)) hgt.wf);rw[LW.2 hgt]at CG;obtain⟨z0,z1,z2,_,_,_⟩:=(A8 HT).cells;have HX2:=AA ((A8 HX).next (A8 HT).bl);obtain⟨_,_,_,_,_,_,x6,x7,x8,_⟩:=(A8 HX2).cells;have B4:=AA (AL (A8 B3) (A8 HT).bl);have C1:=AA (A8 CT _ (Below.refl _ _));have C2:=AA (fun V hV=>A8 CG V hV);clear hgt CT CG HT HP HG;go_wp2_with fail;refine(A8 C1).mono ?_;rintro e w5 ⟨rfl,hb5⟩;have B5:=AA (AL (A8 B4) hb5);have C3:=AA (A8 C2 _ hb5);clear z0 z1 z2 x6 x7 x8;obtain⟨_,_,_,_,_,_,x6,x7,x8,_⟩:=((A8 HX2).next hb5).cells;clear hb5 C1 C2 HX2;go_wp2_with fail;refine(A8 C3).mono ?_;rintro e w6 ⟨rfl,hb6⟩;have B6:=AA (AL (A8 B5) hb6);clear hb6 C3;go_wp2_with fail
     go_roundg (3-(i+1))
     case measure=>omega
     case rel=>exact⟨i+1,by simp,by omega,Nat.le_refl _,B6⟩
  .obtain rfl:i=3:=by omega
   go_wp2_with fail;go_ret;exact⟨rfl,AL (A8 HB) (A8 B1)⟩
