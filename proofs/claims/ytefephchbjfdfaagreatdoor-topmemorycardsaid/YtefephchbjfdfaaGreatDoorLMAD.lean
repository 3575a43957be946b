/-
  Part.
-/
import Derived.Test.YtefephchbjfdfaaGreatDoorLMV
set_option maxRecDepth 20000
set_option maxHeartbeats 8000000
namespace Go.Proofs.YtefephchbjfdfaaGreatDoor
open Go.RowKit Go.Proofs.Tryz
open Go.Value renaming slice->FV
open Go.Obj renaming cells->FW
open _root_.Option renaming none->G6,some->G8
structure lV(w W:World)(k q g cap:Nat)(s z:Int)(x:En)(A:List En)(y:En)(B:List En):Prop where
 hk:w.heap.size=k
 old:B0 w W
 res:NH W (k+2) 0 0 (N0)
 one:JU W (k+1) x
 box:NH W q s z (FV (G8 ⟨g,0,G6⟩) (A++y::B).length cap)
 hq:k+3<=q
 hg:k+3<=g
 own:JD W g cap (A++y::B)
 ne:g≠q
theorem lV.next{w W V:World}{k q g cap:Nat}{s z:Int}{x y:En}{A B:List En}(h:lV w W k q g cap s z x A y B)(hb:B0 W V):lV w V k q g cap s z x A y B:=
 ⟨h.hk,GK h.old hb,h.res.next hb,h.one.XV hb h.one.ltz,h.box.next hb,h.hq,h.hg,h.own.next hb,h.ne⟩
theorem lV.fin{w W:World}{k q g cap:Nat}{s z:Int}{x y:En}{A B:List En}(h:lV w W k q g cap s z x A y B):
  NH (((W.setCell ⟨g,A.length*3,G6⟩ (S0 x.p)).setCell ⟨g,A.length*3+1,G6⟩ (S0 x.d)).setCell ⟨g,A.length*3+2,G6⟩ (.bool x.t)) q s z (FV (G8 ⟨g,0,G6⟩) (A++y::B).length cap)/\
  NH (((W.setCell ⟨g,A.length*3,G6⟩ (S0 x.p)).setCell ⟨g,A.length*3+1,G6⟩ (S0 x.d)).setCell ⟨g,A.length*3+2,G6⟩ (.bool x.t)) (k+2) 0 0 (N0)/\
  JD (((W.setCell ⟨g,A.length*3,G6⟩ (S0 x.p)).setCell ⟨g,A.length*3+1,G6⟩ (S0 x.d)).setCell ⟨g,A.length*3+2,G6⟩ (.bool x.t)) g cap (A++x::B)/\
  B0 w (((W.setCell ⟨g,A.length*3,G6⟩ (S0 x.p)).setCell ⟨g,A.length*3+1,G6⟩ (S0 x.d)).setCell ⟨g,A.length*3+2,G6⟩ (.bool x.t)):=by
 have h1:=h.ne;have h2:=h.hg;have h3:=h.hk;refine⟨((h.box.other (by simp only;omega) _).other (by simp only;omega) _).other (by simp only;omega) _,((h.res.other (by simp only;omega) _).other (by simp only;omega) _).other (by simp only;omega) _,h.own.vK x,?_⟩;exact((h.old.setCell (by simp only;omega) _).setCell (by simp only;omega) _).setCell (by simp only;omega) _
theorem AG0(w:World)(s z:Int)(v:Value)(x:En):∃W,W=((w.alloc (FW #[I0 s,I0 z,v] 70)).alloc (FW #[S0 x.p,S0 x.d,.bool x.t] 74)).alloc (FW #[I0 0,I0 0,N0] 70)/\
  B0 w W/\NH W w.heap.size s z v/\JU W (w.heap.size+1) x/\NH W (w.heap.size+2) 0 0 (N0)/\W.heap.size=w.heap.size+3:=by
 refine⟨_,rfl,GK (GK (GI _ _) (GI _ _)) (GI _ _),((NH.new w s z v).next (GI _ _)).next (GI _ _),?_,?_,by simp⟩
 .have:=(rW (w.alloc (FW #[I0 s,I0 z,v] 70)) x).XV (GI _ (FW #[I0 0,I0 0,N0] 70)) (by simp);simpa using this
 .have:=NH.new ((w.alloc (Obj.cells #[I0 s,I0 z,v] 70)).alloc (Obj.cells #[Value.string (ByteArray.mk x.p.toArray),.string (ByteArray.mk x.d.toArray),.bool x.t] 74)) 0 0 (N0);simpa using this
theorem BB4(s z:Int)(v:Value)(es:List En)(x:En)(w:World)(hv:IV w v es)(hs:xW es)(hl:es.length<=400)(ha:B60 es)(hx:x.p.length<=140737488355328/\x.d.length<=140737488355328):
  Calls prog 55 #[clV s z v,enV x] w fun e w'=>∃v',e=.returned (clV s z v')/\I5 w' w.heap.size v' (WI es x)/\B0 w w':=by
 have CC:=fun W (hW:B0 w W)=>ZU s z v es W (hv.next hW) hs (by omega);have CO:=fun W=>AD8 (J3 x) W (oV hx).1 (oV hx).2;have HW:=GH (AD1 x.p es ha);obtain⟨a,c,rfl⟩:=GU hv;unfold clV at CC⊢;unfold enV;clear hv hs ha hx;obtain⟨k,hk⟩:∃k,k=w.heap.size:=⟨_,rfl⟩;go_enter func55,ntmps55
 cases ht:x.t
 case' true=>
  obtain⟨W,hW,B0,K0,K1,K2,hz⟩:=AG0 w s z (FV a es.length c) x;have K1:JU W (w.heap.size+1) (J3 x):=by rw[B61 ht];exact K1
  rw[ht]at hW;have q0:=K1.e2
 case' false=>
  obtain⟨W,hW,B0,K0,K1,K2,hz⟩:=AG0 w s z (FV a es.length c) ⟨x.p,[],false⟩;have K1:JU W (w.heap.size+1) (J3 x):=by rw[BP0 ht,ht];exact K1
 all_goals
  go_wp2_with fail;rw[<-hW];refine(CC _ B0).mono ?_;rintro e w1 ⟨v1,rfl,ho1,hb1⟩;have B1:=GK B0 hb1;have K1':=(K1.XV hb1 K1.ltz).XV (GI w1 (FW #[I0 s,I0 z,v1] 70)) (Nat.lt_of_lt_of_le K1.ltz hb1.size);have K2':=(K2.next hb1).next (GI w1 (FW #[I0 s,I0 z,v1] 70));have ho2:=ho1.next (GI w1 (FW #[I0 s,I0 z,v1] 70));have K3:=NH.new w1 s z v1;have B2:=GK B1 (GI w1 (FW #[I0 s,I0 z,v1] 70));have hz1:=hb1.size;have hlow:=ho1.low;have HNP:=GH (A43 x);have hq0:=K3.c2;have hq1:=K1'.e0;rw[G9 HNP]at hq1;obtain⟨q,hq⟩:∃q,q=w1.heap.size:=⟨_,rfl⟩;have hzq:(w1.alloc (FW #[I0 s,I0 z,v1] 70)).heap.size=w1.heap.size+1:=by simp
  have hab:=ho1.above;obtain⟨a1,c1,rfl,_⟩:=ho1.slice;have HC:=GH K3;have HK1:=GH K1';have HK2:=GH K2';have HB2:=GH B2;have HO:=GH ho2;clear K1 K2 K1' K2' K3 ho1 ho2 hb1 B1 B2 B0 CC K0;rcases G9 HW with⟨A,f,B,T⟩|⟨A,B,G⟩
  .have CF:=A47 (FV a1 es.length c1) es A B f x.p _ (G9 HO).seq (by omega) T;go_wp2_with fail;generalize w1.alloc (FW #[I0 s,I0 z,FV a1 es.length c1] 70)=W1 at*;refine CF.mono ?_;rintro e w2 ⟨rfl,hb2⟩;have O3:=(G9 HO).next hb2;rw[T.eq]at O3;rcases O3 with⟨_,h0⟩|⟨g,cap,hga,hgB,O3⟩
   .simp at h0
   have HT:Hid (WI es x=A++J3 x::B):=GH T.keep;have ST:lV w w2 k q g cap s z (J3 x) A f B:=⟨hk.symm,GK (G9 HB2) hb2,by have:=(G9 HK2).next hb2;rw[hk];exact this,by rw[hk];exact(G9 HK1).XV hb2 (G9 HK1).ltz,
    by have:=(G9 HC).next hb2;rw[<-hga,hq,<-T.eq];exact this,by omega,by omega,O3,fun e=>by have:=hlow g (by rw[<-T.eq]at hga;rw[hga];rfl);omega⟩
   clear CF O3 hgB hb2;have hAl:A.length<es.length:=by rw[T.eq];simp
   have hAi:(A.length:Int)<(es.length:Int):=by omega
   rw[<-T.eq]at hga;have HEl:=GH (congrArg List.length T.eq);clear T hq0 hq1;simp only[Value.slice.injEq]at hga;obtain⟨rfl,_,rfl⟩:=hga;have HS:=GH ST;have HX:=GH hz;have HY:=GH hk;clear hz hk;have p0:=ST.box.c2;rw[<-G9 HEl]at p0;have p1:=ST.one.e0;have p2:=ST.one.e1;have p3:=ST.one.e2;rw[G9 HY]at p1 p2 p3;rw[hq]at p0;have KB:∀W2,B0 w2 W2->W2.cell? ⟨w1.heap.size,2,G6⟩=G8 (FV (G8 ⟨g,0,G6⟩) es.length c1)/\(∃u,W2.cell? ⟨g,A.length*3,G6⟩=G8 u)/\(∃u,W2.cell? ⟨g,A.length*3+1,G6⟩=G8 u)/\(∃u,W2.cell? ⟨g,A.length*3+2,G6⟩=G8 u)/\(∀j,W2.frozen? ⟨g,j,G6⟩=false)/\
     W2.cell? ⟨w.heap.size+1,0,G6⟩=G8 (S0 (J3 x).p)/\W2.cell? ⟨w.heap.size+1,1,G6⟩=G8 (S0 (J3 x).d)/\W2.cell? ⟨w.heap.size+1,2,G6⟩=G8 (.bool (J3 x).t):=fun W2 hb=>by
    have S2:=(G9 HS).next hb;have b0:=S2.box.c2;rw[<-G9 HEl,hq]at b0;have r:=S2.own.row;have b1:=S2.one.e0;have b2:=S2.one.e1;have b3:=S2.one.e2;rw[G9 HY]at b1 b2 b3;have r0:W2.cell? ⟨g,A.length*3,G6⟩=G8 (S0 f.p):=by have:=r.en0 (i:=A.length) (x:=f) (by simp);simpa using this
    have r1:W2.cell? ⟨g,A.length*3+1,G6⟩=G8 (S0 f.d):=by have:=r.en1 (i:=A.length) (x:=f) (by simp);simpa using this
    have r2:W2.cell? ⟨g,A.length*3+2,G6⟩=G8 (.bool f.t):=by have:=r.en2 (i:=A.length) (x:=f) (by simp);simpa using this
    exact⟨b0,⟨_,r0⟩,⟨_,r1⟩,⟨_,r2⟩,S2.own.frozen,b1,b2,b3⟩
   have HKB:=GH KB;clear ST KB;go_wp2_with fail;have KS:∀W2,B0 w2 W2->W2.cell? ⟨w1.heap.size,2,G6⟩=G8 (FV (G8 ⟨g,0,G6⟩) es.length c1)/\W2.cell? ⟨w.heap.size+1,0,G6⟩=G8 (S0 (J3 x).p)/\W2.cell? ⟨w.heap.size+1,1,G6⟩=G8 (S0 (J3 x).d)/\W2.cell? ⟨w.heap.size+1,2,G6⟩=G8 (.bool (J3 x).t):=fun W2 hb=>by
    obtain⟨b0,_,_,_,_,b4,b5,b6⟩:=G9 HKB W2 hb;exact⟨b0,b4,b5,b6⟩
   have HKS:=GH KS;have HKT:Hid (∀W2,B0 w2 W2->(((W2.setCell ⟨g,A.length*3,G6⟩ (S0 (J3 x).p)).setCell ⟨g,A.length*3+1,G6⟩ (S0 (J3 x).d)).setCell ⟨g,A.length*3+2,G6⟩ (.bool (J3 x).t)).cell? ⟨w1.heap.size,2,G6⟩=G8 (FV (G8 ⟨g,0,G6⟩) es.length c1)/\(((W2.setCell ⟨g,A.length*3,G6⟩ (S0 (J3 x).p)).setCell ⟨g,A.length*3+1,G6⟩ (S0 (J3 x).d)).setCell ⟨g,A.length*3+2,G6⟩ (.bool (J3 x).t)).cell? ⟨w.heap.size+1,0,G6⟩=G8 (S0 (J3 x).p)/\(((W2.setCell ⟨g,A.length*3,G6⟩ (S0 (J3 x).p)).setCell ⟨g,A.length*3+1,G6⟩ (S0 (J3 x).d)).setCell ⟨g,A.length*3+2,G6⟩ (.bool (J3 x).t)).cell? ⟨w.heap.size+1,1,G6⟩=G8 (S0 (J3 x).d)/\(((W2.setCell ⟨g,A.length*3,G6⟩ (S0 (J3 x).p)).setCell ⟨g,A.length*3+1,G6⟩ (S0 (J3 x).d)).setCell ⟨g,A.length*3+2,G6⟩ (.bool (J3 x).t)).cell? ⟨w.heap.size+1,2,G6⟩=G8 (.bool (J3 x).t)):=GH fun W2 hb=>by
    have S2:=(G9 HS).next hb;have hne:=S2.ne;have hgk:=S2.hg;have b0:=((S2.box.other (a:=⟨g,A.length*3,G6⟩) (by simp only;omega) (S0 (J3 x).p)).other (a:=⟨g,A.length*3+1,G6⟩) (by simp only;omega) (S0 (J3 x).d)).other (a:=⟨g,A.length*3+2,G6⟩) (by simp only;omega) (.bool (J3 x).t)|>.c2;have o1:=((S2.one.PD (a:=⟨g,A.length*3,G6⟩) (by simp only;omega) (S0 (J3 x).p)).PD (a:=⟨g,A.length*3+1,G6⟩) (by simp only;omega) (S0 (J3 x).d)).PD (a:=⟨g,A.length*3+2,G6⟩) (by simp only;omega) (.bool (J3 x).t);have b1:=o1.e0;have b2:=o1.e1;have b3:=o1.e2;rw[<-G9 HEl,hq]at b0;rw[G9 HY]at b1 b2 b3;exact⟨b0,b1,b2,b3⟩
   clear KS
   go_region_held3 (fun w'=>w'.cell? ⟨w1.heap.size,2,G6⟩=G8 (FV (G8 ⟨g,0,G6⟩) es.length c1)/\w'.cell? ⟨w.heap.size+1,0,G6⟩=G8 (S0 (J3 x).p)/\w'.cell? ⟨w.heap.size+1,1,G6⟩=G8 (S0 (J3 x).d)/\w'.cell? ⟨w.heap.size+1,2,G6⟩=G8 (.bool (J3 x).t)) (first|with_reducible exact G9 HKS _ (Below.refl _ _)|with_reducible exact G9 HKS _ (Below.refl _ _).drew|with_reducible exact G9 HKS _ (G9 HB5)|with_reducible exact G9 HKT _ (G9 HB5)) (first
    |(go_at_call 93;with_reducible refine(CO _).mono ?_;rintro e w4 ⟨rfl,hb4⟩;have HB5:Hid (B0 w2 w4):=GH (IG hb4);obtain⟨b0,⟨u1,b1⟩,⟨u2,b2⟩,⟨u3,b3⟩,bf,b4,b5,b6⟩:=G9 HKB w4 (G9 HB5);have bf0:=bf (A.length*3);have bf1:=bf (A.length*3+1);have bf2:=bf (A.length*3+2);clear bf hb4))
   all_goals
    obtain⟨V1,V2,V3,V4⟩:=((G9 HS).next (G9 HB5)).fin;rw[<-G9 HEl,hq]at V1;rw[G9 HY]at V2;have HV3:=GH V3;have HV4:=GH V4;have v0:=V1.c0;have v1:=V1.c1;have v2:=V1.c2;have v3:=V2.c0;have v4:=V2.c1;have v5:=V2.c2;have v6:=V2.fr 0;have v7:=V2.fr 1;have v8:=V2.fr 2;have hgk:=(G9 HS).hg;rw[G9 HY]at hgk;clear V1 V2 V3 V4;generalize ((w4.setCell ⟨g,A.length*3,G6⟩ (S0 (J3 x).p)).setCell ⟨g,A.length*3+1,G6⟩ (S0 (J3 x).d)).setCell ⟨g,A.length*3+2,G6⟩ (.bool (J3 x).t)=w5 at*;go_wp2_with fail;refine bodyPost_ret (v:=.agg #[I0 s,I0 z,FV (G8 ⟨g,0,G6⟩) es.length c1]) (by simp[results,results55,go_sem,v3,v4,v5]) rfl ⟨_,rfl,.inr ⟨g,c1,?_,by omega,?_⟩,?_⟩
    .rw[G9 HT,G9 HEl];simp
    .rw[G9 HT];exact(((G9 HV3).other (by simp only;omega) _).other (by simp only;omega) _).other (by simp only;omega) _
    .exact(((G9 HV4).setCell (by simp only;omega) _).setCell (by simp only;omega) _).setCell (by simp only;omega) _
  .have CF:=B70 (FV a1 es.length c1) es A B x.p _ (G9 HO).seq (by omega) G;go_wp2_with fail;generalize w1.alloc (FW #[I0 s,I0 z,FV a1 es.length c1] 70)=W1 at*;refine CF.mono ?_;rintro e w2 ⟨rfl,hb2⟩;have O3:=(G9 HO).next hb2;rw[G.eq]at O3;have C3:=(G9 HC).next hb2;have c3:=C3.c2;have f3:=C3.fr 2;have HT:Hid (WI es x=A++J3 x::B):=GH G.keep;have HE2:=GH (congrArg List.length G.eq);have N3:=rW w2 noneE;have O4:=O3.next (GI w2 (FW #[S0 (noneE.p),S0 (noneE.d),.bool noneE.t] 74));have CI:=A63 _ A B noneE w2.heap.size _ (O4.lower (Nat.zero_le _)) (by rw[<-G9 HE2];omega) N3 (fun e=>by have:=O3.low _ e;omega);rw[<-G9 HE2]at CI;have HS0:=GH ((G9 HK2).next hb2);have HS1:=GH ((G9 HK1).XV hb2 (G9 HK1).ltz);have HS2:=GH (GK (G9 HB2) hb2);have hz2:=hb2.size;clear CF O3 O4 hb2 hq0 hq1 G;have HC3:=GH C3;clear C3;simp only[noneE]at CI;go_wp2_with fail;refine CI.mono ?_;rintro e w3 ⟨v3,rfl,ho3,hg3,hl3⟩;have hg4:w2.grownBy w3 (Value.slice a1 es.length c1).ownBlock:=⟨hg3.os,hg3.tape,hg3.output,Nat.le_trans (by simp) hg3.size,fun j hj hne=>(hg3.block j (by simp;omega) hne).trans (Below.block (GI w2 _) j hj)⟩;have hne:∀j,j<k+3->G8 j≠(Value.slice a1 es.length c1).ownBlock:=fun j hj e=>by have:=hab j e.symm;omega
   have hnq:G8 q≠(Value.slice a1 es.length c1).ownBlock:=fun e=>by have:=hlow q e.symm;omega
   have C4:=(G9 HC3).grown hg4 (by rw[<-hq];exact hnq);have c4:=C4.c2;have f4:=C4.fr 2;have R4:=(G9 HS0).grown hg4 (hne _ (by omega));have E4:JU w3 (w.heap.size+1) (J3 x):=(hg4.block _ (G9 HS1).ltz (hne _ (by omega))).trans (G9 HS1);have B4:=(G9 HS2).grown hg4 (G9 HS2).size (fun j e=>by have:=hab j e;omega);have hgp:∀j,v3.ownBlock=G8 j->k+3<=j/\j≠q:=fun j e=>by
    rcases hl3 with h|⟨i,hi,h⟩
    .rw[e]at h;exact⟨by have:=hab j h.symm;omega,fun e2=>hnq (by rw[<-e2];exact h)⟩
    .rw[e]at h
     cases h
     simp at hi;exact⟨by omega,by omega⟩
   rcases ho3 with⟨_,h0⟩|⟨g,cap,rfl,_,O4⟩
   .simp at h0
   obtain⟨hg5,hg6⟩:=hgp g rfl;have ST:lV w (w3.setCell ⟨w1.heap.size,2,G6⟩ (FV (G8 ⟨g,0,G6⟩) (A++(⟨[],[],false⟩:En)::B).length cap)) k q g cap s z (J3 x) A ⟨[],[],false⟩ B:=
    ⟨hk.symm,B4.setCell (by simp only;omega) _,by rw[hk];exact R4.other (by simp only;omega) _,by rw[hk];exact E4.PD (by simp only;omega) _,by rw[hq];exact C4.set2,by omega,by omega,O4.other (by simp only;omega) _,by omega⟩
   clear CI C4 R4 E4 B4 O4 hgp hl3 hg3 hg4 hne hnq N3 c3 f3;obtain⟨n,hn⟩:∃n,(A++(⟨[],[],false⟩:En)::B).length=n:=⟨_,rfl⟩;have hAl:A.length<n:=by rw[<-hn];simp
   have hAi:(A.length:Int)<(n:Int):=by omega
   have hn2:n<=500:=by have:=G9 HE2;rw[List.length_append]at this;rw[<-hn,List.length_append,List.length_cons];omega
   have HEl:=GH hn.symm;rw[hn]at ST⊢;clear hn;go_upto_region 7 with fail;generalize w3.setCell ⟨w1.heap.size,2,G6⟩ (FV (G8 ⟨g,0,G6⟩) n cap)=w2 at*;have HS:=GH ST;have HX:=GH hz;have HY:=GH hk;clear hz hk;have p0:=ST.box.c2;rw[<-G9 HEl]at p0;have p1:=ST.one.e0;have p2:=ST.one.e1;have p3:=ST.one.e2;rw[G9 HY]at p1 p2 p3;rw[hq]at p0;have KB:∀W2,B0 w2 W2->W2.cell? ⟨w1.heap.size,2,G6⟩=G8 (FV (G8 ⟨g,0,G6⟩) n cap)/\(∃u,W2.cell? ⟨g,A.length*3,G6⟩=G8 u)/\(∃u,W2.cell? ⟨g,A.length*3+1,G6⟩=G8 u)/\(∃u,W2.cell? ⟨g,A.length*3+2,G6⟩=G8 u)/\(∀j,W2.frozen? ⟨g,j,G6⟩=false)/\
     W2.cell? ⟨w.heap.size+1,0,G6⟩=G8 (S0 (J3 x).p)/\W2.cell? ⟨w.heap.size+1,1,G6⟩=G8 (S0 (J3 x).d)/\W2.cell? ⟨w.heap.size+1,2,G6⟩=G8 (.bool (J3 x).t):=fun W2 hb=>by
    have S2:=(G9 HS).next hb;have b0:=S2.box.c2;rw[<-G9 HEl,hq]at b0;have r:=S2.own.row;have b1:=S2.one.e0;have b2:=S2.one.e1;have b3:=S2.one.e2;rw[G9 HY]at b1 b2 b3;have r0:W2.cell? ⟨g,A.length*3,G6⟩=G8 (.string ⟨(⟨[],[],false⟩:En).p.toArray⟩):=by have:=r.en0 (i:=A.length) (x:=(⟨[],[],false⟩:En)) (by simp);simpa using this
    have r1:W2.cell? ⟨g,A.length*3+1,G6⟩=G8 (.string ⟨(⟨[],[],false⟩:En).d.toArray⟩):=by have:=r.en1 (i:=A.length) (x:=(⟨[],[],false⟩:En)) (by simp);simpa using this
    have r2:W2.cell? ⟨g,A.length*3+2,G6⟩=G8 (.bool (⟨[],[],false⟩:En).t):=by have:=r.en2 (i:=A.length) (x:=(⟨[],[],false⟩:En)) (by simp);simpa using this
    exact⟨b0,⟨_,r0⟩,⟨_,r1⟩,⟨_,r2⟩,S2.own.frozen,b1,b2,b3⟩
   have HKB:=GH KB;clear ST KB;go_wp2_with fail;have KS:∀W2,B0 w2 W2->W2.cell? ⟨w1.heap.size,2,G6⟩=G8 (FV (G8 ⟨g,0,G6⟩) n cap)/\W2.cell? ⟨w.heap.size+1,0,G6⟩=G8 (S0 (J3 x).p)/\W2.cell? ⟨w.heap.size+1,1,G6⟩=G8 (S0 (J3 x).d)/\W2.cell? ⟨w.heap.size+1,2,G6⟩=G8 (.bool (J3 x).t):=fun W2 hb=>by
    obtain⟨b0,_,_,_,_,b4,b5,b6⟩:=G9 HKB W2 hb;exact⟨b0,b4,b5,b6⟩
   have HKS:=GH KS;have HKT:Hid (∀W2,B0 w2 W2->(((W2.setCell ⟨g,A.length*3,G6⟩ (S0 (J3 x).p)).setCell ⟨g,A.length*3+1,G6⟩ (S0 (J3 x).d)).setCell ⟨g,A.length*3+2,G6⟩ (.bool (J3 x).t)).cell? ⟨w1.heap.size,2,G6⟩=G8 (FV (G8 ⟨g,0,G6⟩) n cap)/\(((W2.setCell ⟨g,A.length*3,G6⟩ (S0 (J3 x).p)).setCell ⟨g,A.length*3+1,G6⟩ (S0 (J3 x).d)).setCell ⟨g,A.length*3+2,G6⟩ (.bool (J3 x).t)).cell? ⟨w.heap.size+1,0,G6⟩=G8 (S0 (J3 x).p)/\(((W2.setCell ⟨g,A.length*3,G6⟩ (S0 (J3 x).p)).setCell ⟨g,A.length*3+1,G6⟩ (S0 (J3 x).d)).setCell ⟨g,A.length*3+2,G6⟩ (.bool (J3 x).t)).cell? ⟨w.heap.size+1,1,G6⟩=G8 (S0 (J3 x).d)/\(((W2.setCell ⟨g,A.length*3,G6⟩ (S0 (J3 x).p)).setCell ⟨g,A.length*3+1,G6⟩ (S0 (J3 x).d)).setCell ⟨g,A.length*3+2,G6⟩ (.bool (J3 x).t)).cell? ⟨w.heap.size+1,2,G6⟩=G8 (.bool (J3 x).t)):=GH fun W2 hb=>by
    have S2:=(G9 HS).next hb;have hne:=S2.ne;have hgk:=S2.hg;have b0:=((S2.box.other (a:=⟨g,A.length*3,G6⟩) (by simp only;omega) (S0 (J3 x).p)).other (a:=⟨g,A.length*3+1,G6⟩) (by simp only;omega) (S0 (J3 x).d)).other (a:=⟨g,A.length*3+2,G6⟩) (by simp only;omega) (.bool (J3 x).t)|>.c2;have o1:=((S2.one.PD (a:=⟨g,A.length*3,G6⟩) (by simp only;omega) (S0 (J3 x).p)).PD (a:=⟨g,A.length*3+1,G6⟩) (by simp only;omega) (S0 (J3 x).d)).PD (a:=⟨g,A.length*3+2,G6⟩) (by simp only;omega) (.bool (J3 x).t);have b1:=o1.e0;have b2:=o1.e1;have b3:=o1.e2;rw[<-G9 HEl,hq]at b0;rw[G9 HY]at b1 b2 b3;exact⟨b0,b1,b2,b3⟩
   clear KS
   go_region_held3 (fun w'=>w'.cell? ⟨w1.heap.size,2,G6⟩=G8 (FV (G8 ⟨g,0,G6⟩) n cap)/\w'.cell? ⟨w.heap.size+1,0,G6⟩=G8 (S0 (J3 x).p)/\w'.cell? ⟨w.heap.size+1,1,G6⟩=G8 (S0 (J3 x).d)/\w'.cell? ⟨w.heap.size+1,2,G6⟩=G8 (.bool (J3 x).t)) (first|with_reducible exact G9 HKS _ (Below.refl _ _)|with_reducible exact G9 HKS _ (Below.refl _ _).drew|with_reducible exact G9 HKS _ (G9 HB5)|with_reducible exact G9 HKT _ (G9 HB5)) (first
    |(go_at_call 93;with_reducible refine(CO _).mono ?_;rintro e w4 ⟨rfl,hb4⟩;have HB5:Hid (B0 w2 w4):=GH (IG hb4);obtain⟨b0,⟨u1,b1⟩,⟨u2,b2⟩,⟨u3,b3⟩,bf,b4,b5,b6⟩:=G9 HKB w4 (G9 HB5);have bf0:=bf (A.length*3);have bf1:=bf (A.length*3+1);have bf2:=bf (A.length*3+2);clear bf hb4))
   all_goals
    obtain⟨V1,V2,V3,V4⟩:=((G9 HS).next (G9 HB5)).fin;rw[<-G9 HEl,hq]at V1;rw[G9 HY]at V2;have HV3:=GH V3;have HV4:=GH V4;have v0:=V1.c0;have v1:=V1.c1;have v2:=V1.c2;have v3:=V2.c0;have v4:=V2.c1;have v5:=V2.c2;have v6:=V2.fr 0;have v7:=V2.fr 1;have v8:=V2.fr 2;have hgk:=(G9 HS).hg;rw[G9 HY]at hgk;clear V1 V2 V3 V4;generalize ((w4.setCell ⟨g,A.length*3,G6⟩ (S0 (J3 x).p)).setCell ⟨g,A.length*3+1,G6⟩ (S0 (J3 x).d)).setCell ⟨g,A.length*3+2,G6⟩ (.bool (J3 x).t)=w5 at*;go_wp2_with fail;refine bodyPost_ret (v:=.agg #[I0 s,I0 z,FV (G8 ⟨g,0,G6⟩) n cap]) (by simp[results,results55,go_sem,v3,v4,v5]) rfl ⟨_,rfl,.inr ⟨g,cap,?_,by omega,?_⟩,?_⟩
    .rw[G9 HT,G9 HEl];simp
    .rw[G9 HT];exact(((G9 HV3).other (by simp only;omega) _).other (by simp only;omega) _).other (by simp only;omega) _
    .exact(((G9 HV4).setCell (by simp only;omega) _).setCell (by simp only;omega) _).setCell (by simp only;omega) _
