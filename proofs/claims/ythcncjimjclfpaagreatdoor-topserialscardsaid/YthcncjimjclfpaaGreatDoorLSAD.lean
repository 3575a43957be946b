/-
  Part.
-/
import Derived.Test.YthcncjimjclfpaaGreatDoorLSV
set_option maxRecDepth 20000
set_option maxHeartbeats 8000000
namespace Go.Proofs.YthcncjimjclfpaaGreatDoor
open Go.RowKit Go.Proofs.Tryz
open Go.Value renaming slice->FQ
open Go.Obj renaming cells->FT
open _root_.Option renaming none->FX,some->FZ
structure mF(w W:World)(k q g cap:Nat)(s z:Int)(x:En)(A:List En)(y:En)(B:List En):Prop where
 hk:w.heap.size=k
 old:B0 w W
 res:OC W (k+2) 0 0 (N0)
 one:JF W (k+1) x
 box:OC W q s z (FQ (FZ ⟨g,0,FX⟩) (A++y::B).length cap)
 hq:k+3<=q
 hg:k+3<=g
 own:J9 W g cap (A++y::B)
 ne:g≠q
theorem mF.next{w W V:World}{k q g cap:Nat}{s z:Int}{x y:En}{A B:List En}(h:mF w W k q g cap s z x A y B)(hb:B0 W V):mF w V k q g cap s z x A y B:=
 ⟨h.hk,G8 h.old hb,h.res.next hb,h.one.Y0 hb h.one.ltz,h.box.next hb,h.hq,h.hg,h.own.next hb,h.ne⟩
theorem mF.fin{w W:World}{k q g cap:Nat}{s z:Int}{x y:En}{A B:List En}(h:mF w W k q g cap s z x A y B):
  OC (((W.setCell ⟨g,A.length*3,FX⟩ (S0 x.p)).setCell ⟨g,A.length*3+1,FX⟩ (S0 x.d)).setCell ⟨g,A.length*3+2,FX⟩ (.bool x.t)) q s z (FQ (FZ ⟨g,0,FX⟩) (A++y::B).length cap)/\
  OC (((W.setCell ⟨g,A.length*3,FX⟩ (S0 x.p)).setCell ⟨g,A.length*3+1,FX⟩ (S0 x.d)).setCell ⟨g,A.length*3+2,FX⟩ (.bool x.t)) (k+2) 0 0 (N0)/\
  J9 (((W.setCell ⟨g,A.length*3,FX⟩ (S0 x.p)).setCell ⟨g,A.length*3+1,FX⟩ (S0 x.d)).setCell ⟨g,A.length*3+2,FX⟩ (.bool x.t)) g cap (A++x::B)/\
  B0 w (((W.setCell ⟨g,A.length*3,FX⟩ (S0 x.p)).setCell ⟨g,A.length*3+1,FX⟩ (S0 x.d)).setCell ⟨g,A.length*3+2,FX⟩ (.bool x.t)):=by
 have h1:=h.ne;have h2:=h.hg;have h3:=h.hk;refine⟨((h.box.other (by simp only;omega) _).other (by simp only;omega) _).other (by simp only;omega) _,((h.res.other (by simp only;omega) _).other (by simp only;omega) _).other (by simp only;omega) _,h.own.vX x,?_⟩;exact((h.old.setCell (by simp only;omega) _).setCell (by simp only;omega) _).setCell (by simp only;omega) _
theorem AH9(w:World)(s z:Int)(v:Value)(x:En):∃W,W=((w.alloc (FT #[I0 s,I0 z,v] 46)).alloc (FT #[S0 x.p,S0 x.d,.bool x.t] 41)).alloc (FT #[I0 0,I0 0,N0] 46)/\
  B0 w W/\OC W w.heap.size s z v/\JF W (w.heap.size+1) x/\OC W (w.heap.size+2) 0 0 (N0)/\W.heap.size=w.heap.size+3:=by
 refine⟨_,rfl,G8 (G8 (G7 _ _) (G7 _ _)) (G7 _ _),((OC.new w s z v).next (G7 _ _)).next (G7 _ _),?_,?_,by simp⟩
 .have:=(sH (w.alloc (FT #[I0 s,I0 z,v] 46)) x).Y0 (G7 _ (FT #[I0 0,I0 0,N0] 46)) (by simp);simpa using this
 .have:=OC.new ((w.alloc (Obj.cells #[I0 s,I0 z,v] 46)).alloc (Obj.cells #[Value.string (ByteArray.mk x.p.toArray),.string (ByteArray.mk x.d.toArray),.bool x.t] 41)) 0 0 (N0);simpa using this
theorem BB6(s z:Int)(v:Value)(es:List En)(x:En)(w:World)(hv:IU w v es)(hs:yD es)(hl:es.length<=400)(ha:B66 es)(hx:x.p.length<=140737488355328/\x.d.length<=140737488355328):
  Calls prog 68 #[clV s z v,enV x] w fun e w'=>∃v',e=.returned (clV s z v')/\GZ w' w.heap.size v' (WJ es x)/\B0 w w':=by
 have CC:=fun W (hW:B0 w W)=>ZX s z v es W (hv.next hW) hs (by omega);have CO:=fun W=>AF7 (IV x) W (pO hx).1 (pO hx).2;have HW:=G6 (AF0 x.p es ha);obtain⟨a,c,rfl⟩:=GK hv;unfold clV at CC⊢;unfold enV;clear hv hs ha hx;obtain⟨k,hk⟩:∃k,k=w.heap.size:=⟨_,rfl⟩;go_enter func68,ntmps68
 cases ht:x.t
 case' true=>
  obtain⟨W,hW,B0,K0,K1,K2,hz⟩:=AH9 w s z (FQ a es.length c) x;have K1:JF W (w.heap.size+1) (IV x):=by rw[B67 ht];exact K1
  rw[ht]at hW;have q0:=K1.e2
 case' false=>
  obtain⟨W,hW,B0,K0,K1,K2,hz⟩:=AH9 w s z (FQ a es.length c) ⟨x.p,[],false⟩;have K1:JF W (w.heap.size+1) (IV x):=by rw[BP8 ht,ht];exact K1
 all_goals
  go_wp2_with fail;rw[<-hW];refine(CC _ B0).mono ?_;rintro e w1 ⟨v1,rfl,ho1,hb1⟩;have B1:=G8 B0 hb1;have K1':=(K1.Y0 hb1 K1.ltz).Y0 (G7 w1 (FT #[I0 s,I0 z,v1] 46)) (Nat.lt_of_lt_of_le K1.ltz hb1.size);have K2':=(K2.next hb1).next (G7 w1 (FT #[I0 s,I0 z,v1] 46));have ho2:=ho1.next (G7 w1 (FT #[I0 s,I0 z,v1] 46));have K3:=OC.new w1 s z v1;have B2:=G8 B1 (G7 w1 (FT #[I0 s,I0 z,v1] 46));have hz1:=hb1.size;have hlow:=ho1.low;have HNP:=G6 (A56 x);have hq0:=K3.c2;have hq1:=K1'.e0;rw[G5 HNP]at hq1;obtain⟨q,hq⟩:∃q,q=w1.heap.size:=⟨_,rfl⟩;have hzq:(w1.alloc (FT #[I0 s,I0 z,v1] 46)).heap.size=w1.heap.size+1:=by simp
  have hab:=ho1.above;obtain⟨a1,c1,rfl,_⟩:=ho1.slice;have HC:=G6 K3;have HK1:=G6 K1';have HK2:=G6 K2';have HB2:=G6 B2;have HO:=G6 ho2;clear K1 K2 K1' K2' K3 ho1 ho2 hb1 B1 B2 B0 CC K0;rcases G5 HW with⟨A,f,B,T⟩|⟨A,B,G⟩
  .have CF:=A59 (FQ a1 es.length c1) es A B f x.p _ (G5 HO).seq (by omega) T;go_wp2_with fail;generalize w1.alloc (FT #[I0 s,I0 z,FQ a1 es.length c1] 46)=W1 at*;refine CF.mono ?_;rintro e w2 ⟨rfl,hb2⟩;have O3:=(G5 HO).next hb2;rw[T.eq]at O3;rcases O3 with⟨_,h0⟩|⟨g,cap,hga,hgB,O3⟩
   .simp at h0
   have HT:Hid (WJ es x=A++IV x::B):=G6 T.keep;have ST:mF w w2 k q g cap s z (IV x) A f B:=⟨hk.symm,G8 (G5 HB2) hb2,by have:=(G5 HK2).next hb2;rw[hk];exact this,by rw[hk];exact(G5 HK1).Y0 hb2 (G5 HK1).ltz,
    by have:=(G5 HC).next hb2;rw[<-hga,hq,<-T.eq];exact this,by omega,by omega,O3,fun e=>by have:=hlow g (by rw[<-T.eq]at hga;rw[hga];rfl);omega⟩
   clear CF O3 hgB hb2;have hAl:A.length<es.length:=by rw[T.eq];simp
   have hAi:(A.length:Int)<(es.length:Int):=by omega
   rw[<-T.eq]at hga;have HEl:=G6 (congrArg List.length T.eq);clear T hq0 hq1;simp only[Value.slice.injEq]at hga;obtain⟨rfl,_,rfl⟩:=hga;have HS:=G6 ST;have HX:=G6 hz;have HY:=G6 hk;clear hz hk;have p0:=ST.box.c2;rw[<-G5 HEl]at p0;have p1:=ST.one.e0;have p2:=ST.one.e1;have p3:=ST.one.e2;rw[G5 HY]at p1 p2 p3;rw[hq]at p0;have KB:∀W2,B0 w2 W2->W2.cell? ⟨w1.heap.size,2,FX⟩=FZ (FQ (FZ ⟨g,0,FX⟩) es.length c1)/\(∃u,W2.cell? ⟨g,A.length*3,FX⟩=FZ u)/\(∃u,W2.cell? ⟨g,A.length*3+1,FX⟩=FZ u)/\(∃u,W2.cell? ⟨g,A.length*3+2,FX⟩=FZ u)/\(∀j,W2.frozen? ⟨g,j,FX⟩=false)/\
     W2.cell? ⟨w.heap.size+1,0,FX⟩=FZ (S0 (IV x).p)/\W2.cell? ⟨w.heap.size+1,1,FX⟩=FZ (S0 (IV x).d)/\W2.cell? ⟨w.heap.size+1,2,FX⟩=FZ (.bool (IV x).t):=fun W2 hb=>by
    have S2:=(G5 HS).next hb;have b0:=S2.box.c2;rw[<-G5 HEl,hq]at b0;have r:=S2.own.row;have b1:=S2.one.e0;have b2:=S2.one.e1;have b3:=S2.one.e2;rw[G5 HY]at b1 b2 b3;have r0:W2.cell? ⟨g,A.length*3,FX⟩=FZ (S0 f.p):=by have:=r.en0 (i:=A.length) (x:=f) (by simp);simpa using this
    have r1:W2.cell? ⟨g,A.length*3+1,FX⟩=FZ (S0 f.d):=by have:=r.en1 (i:=A.length) (x:=f) (by simp);simpa using this
    have r2:W2.cell? ⟨g,A.length*3+2,FX⟩=FZ (.bool f.t):=by have:=r.en2 (i:=A.length) (x:=f) (by simp);simpa using this
    exact⟨b0,⟨_,r0⟩,⟨_,r1⟩,⟨_,r2⟩,S2.own.frozen,b1,b2,b3⟩
   have HKB:=G6 KB;clear ST KB;go_wp2_with fail;have KS:∀W2,B0 w2 W2->W2.cell? ⟨w1.heap.size,2,FX⟩=FZ (FQ (FZ ⟨g,0,FX⟩) es.length c1)/\W2.cell? ⟨w.heap.size+1,0,FX⟩=FZ (S0 (IV x).p)/\W2.cell? ⟨w.heap.size+1,1,FX⟩=FZ (S0 (IV x).d)/\W2.cell? ⟨w.heap.size+1,2,FX⟩=FZ (.bool (IV x).t):=fun W2 hb=>by
    obtain⟨b0,_,_,_,_,b4,b5,b6⟩:=G5 HKB W2 hb;exact⟨b0,b4,b5,b6⟩
   have HKS:=G6 KS;have HKT:Hid (∀W2,B0 w2 W2->(((W2.setCell ⟨g,A.length*3,FX⟩ (S0 (IV x).p)).setCell ⟨g,A.length*3+1,FX⟩ (S0 (IV x).d)).setCell ⟨g,A.length*3+2,FX⟩ (.bool (IV x).t)).cell? ⟨w1.heap.size,2,FX⟩=FZ (FQ (FZ ⟨g,0,FX⟩) es.length c1)/\(((W2.setCell ⟨g,A.length*3,FX⟩ (S0 (IV x).p)).setCell ⟨g,A.length*3+1,FX⟩ (S0 (IV x).d)).setCell ⟨g,A.length*3+2,FX⟩ (.bool (IV x).t)).cell? ⟨w.heap.size+1,0,FX⟩=FZ (S0 (IV x).p)/\(((W2.setCell ⟨g,A.length*3,FX⟩ (S0 (IV x).p)).setCell ⟨g,A.length*3+1,FX⟩ (S0 (IV x).d)).setCell ⟨g,A.length*3+2,FX⟩ (.bool (IV x).t)).cell? ⟨w.heap.size+1,1,FX⟩=FZ (S0 (IV x).d)/\(((W2.setCell ⟨g,A.length*3,FX⟩ (S0 (IV x).p)).setCell ⟨g,A.length*3+1,FX⟩ (S0 (IV x).d)).setCell ⟨g,A.length*3+2,FX⟩ (.bool (IV x).t)).cell? ⟨w.heap.size+1,2,FX⟩=FZ (.bool (IV x).t)):=G6 fun W2 hb=>by
    have S2:=(G5 HS).next hb;have hne:=S2.ne;have hgk:=S2.hg;have b0:=((S2.box.other (a:=⟨g,A.length*3,FX⟩) (by simp only;omega) (S0 (IV x).p)).other (a:=⟨g,A.length*3+1,FX⟩) (by simp only;omega) (S0 (IV x).d)).other (a:=⟨g,A.length*3+2,FX⟩) (by simp only;omega) (.bool (IV x).t)|>.c2;have o1:=((S2.one.OV (a:=⟨g,A.length*3,FX⟩) (by simp only;omega) (S0 (IV x).p)).OV (a:=⟨g,A.length*3+1,FX⟩) (by simp only;omega) (S0 (IV x).d)).OV (a:=⟨g,A.length*3+2,FX⟩) (by simp only;omega) (.bool (IV x).t);have b1:=o1.e0;have b2:=o1.e1;have b3:=o1.e2;rw[<-G5 HEl,hq]at b0;rw[G5 HY]at b1 b2 b3;exact⟨b0,b1,b2,b3⟩
   clear KS
   go_region_held3 (fun w'=>w'.cell? ⟨w1.heap.size,2,FX⟩=FZ (FQ (FZ ⟨g,0,FX⟩) es.length c1)/\w'.cell? ⟨w.heap.size+1,0,FX⟩=FZ (S0 (IV x).p)/\w'.cell? ⟨w.heap.size+1,1,FX⟩=FZ (S0 (IV x).d)/\w'.cell? ⟨w.heap.size+1,2,FX⟩=FZ (.bool (IV x).t)) (first|with_reducible exact G5 HKS _ (Below.refl _ _)|with_reducible exact G5 HKS _ (Below.refl _ _).drew|with_reducible exact G5 HKS _ (G5 HB5)|with_reducible exact G5 HKT _ (G5 HB5)) (first
    |(go_at_call 18;with_reducible refine(CO _).mono ?_;rintro e w4 ⟨rfl,hb4⟩;have HB5:Hid (B0 w2 w4):=G6 (I9 hb4);obtain⟨b0,⟨u1,b1⟩,⟨u2,b2⟩,⟨u3,b3⟩,bf,b4,b5,b6⟩:=G5 HKB w4 (G5 HB5);have bf0:=bf (A.length*3);have bf1:=bf (A.length*3+1);have bf2:=bf (A.length*3+2);clear bf hb4))
   all_goals
    obtain⟨V1,V2,V3,V4⟩:=((G5 HS).next (G5 HB5)).fin;rw[<-G5 HEl,hq]at V1;rw[G5 HY]at V2;have HV3:=G6 V3;have HV4:=G6 V4;have v0:=V1.c0;have v1:=V1.c1;have v2:=V1.c2;have v3:=V2.c0;have v4:=V2.c1;have v5:=V2.c2;have v6:=V2.fr 0;have v7:=V2.fr 1;have v8:=V2.fr 2;have hgk:=(G5 HS).hg;rw[G5 HY]at hgk;clear V1 V2 V3 V4;generalize ((w4.setCell ⟨g,A.length*3,FX⟩ (S0 (IV x).p)).setCell ⟨g,A.length*3+1,FX⟩ (S0 (IV x).d)).setCell ⟨g,A.length*3+2,FX⟩ (.bool (IV x).t)=w5 at*;go_wp2_with fail;refine bodyPost_ret (v:=.agg #[I0 s,I0 z,FQ (FZ ⟨g,0,FX⟩) es.length c1]) (by simp[results,results68,go_sem,v3,v4,v5]) rfl ⟨_,rfl,.inr ⟨g,c1,?_,by omega,?_⟩,?_⟩
    .rw[G5 HT,G5 HEl];simp
    .rw[G5 HT];exact(((G5 HV3).other (by simp only;omega) _).other (by simp only;omega) _).other (by simp only;omega) _
    .exact(((G5 HV4).setCell (by simp only;omega) _).setCell (by simp only;omega) _).setCell (by simp only;omega) _
  .have CF:=B75 (FQ a1 es.length c1) es A B x.p _ (G5 HO).seq (by omega) G;go_wp2_with fail;generalize w1.alloc (FT #[I0 s,I0 z,FQ a1 es.length c1] 46)=W1 at*;refine CF.mono ?_;rintro e w2 ⟨rfl,hb2⟩;have O3:=(G5 HO).next hb2;rw[G.eq]at O3;have C3:=(G5 HC).next hb2;have c3:=C3.c2;have f3:=C3.fr 2;have HT:Hid (WJ es x=A++IV x::B):=G6 G.keep;have HE2:=G6 (congrArg List.length G.eq);have N3:=sH w2 noneE;have O4:=O3.next (G7 w2 (FT #[S0 (noneE.p),S0 (noneE.d),.bool noneE.t] 41));have CI:=A76 _ A B noneE w2.heap.size _ (O4.lower (Nat.zero_le _)) (by rw[<-G5 HE2];omega) N3 (fun e=>by have:=O3.low _ e;omega);rw[<-G5 HE2]at CI;have HS0:=G6 ((G5 HK2).next hb2);have HS1:=G6 ((G5 HK1).Y0 hb2 (G5 HK1).ltz);have HS2:=G6 (G8 (G5 HB2) hb2);have hz2:=hb2.size;clear CF O3 O4 hb2 hq0 hq1 G;have HC3:=G6 C3;clear C3;simp only[noneE]at CI;go_wp2_with fail;refine CI.mono ?_;rintro e w3 ⟨v3,rfl,ho3,hg3,hl3⟩;have hg4:w2.grownBy w3 (Value.slice a1 es.length c1).ownBlock:=⟨hg3.os,hg3.tape,hg3.output,Nat.le_trans (by simp) hg3.size,fun j hj hne=>(hg3.block j (by simp;omega) hne).trans (Below.block (G7 w2 _) j hj)⟩;have hne:∀j,j<k+3->FZ j≠(Value.slice a1 es.length c1).ownBlock:=fun j hj e=>by have:=hab j e.symm;omega
   have hnq:FZ q≠(Value.slice a1 es.length c1).ownBlock:=fun e=>by have:=hlow q e.symm;omega
   have C4:=(G5 HC3).grown hg4 (by rw[<-hq];exact hnq);have c4:=C4.c2;have f4:=C4.fr 2;have R4:=(G5 HS0).grown hg4 (hne _ (by omega));have E4:JF w3 (w.heap.size+1) (IV x):=(hg4.block _ (G5 HS1).ltz (hne _ (by omega))).trans (G5 HS1);have B4:=(G5 HS2).grown hg4 (G5 HS2).size (fun j e=>by have:=hab j e;omega);have hgp:∀j,v3.ownBlock=FZ j->k+3<=j/\j≠q:=fun j e=>by
    rcases hl3 with h|⟨i,hi,h⟩
    .rw[e]at h;exact⟨by have:=hab j h.symm;omega,fun e2=>hnq (by rw[<-e2];exact h)⟩
    .rw[e]at h
     cases h
     simp at hi;exact⟨by omega,by omega⟩
   rcases ho3 with⟨_,h0⟩|⟨g,cap,rfl,_,O4⟩
   .simp at h0
   obtain⟨hg5,hg6⟩:=hgp g rfl;have ST:mF w (w3.setCell ⟨w1.heap.size,2,FX⟩ (FQ (FZ ⟨g,0,FX⟩) (A++(⟨[],[],false⟩:En)::B).length cap)) k q g cap s z (IV x) A ⟨[],[],false⟩ B:=
    ⟨hk.symm,B4.setCell (by simp only;omega) _,by rw[hk];exact R4.other (by simp only;omega) _,by rw[hk];exact E4.OV (by simp only;omega) _,by rw[hq];exact C4.set2,by omega,by omega,O4.other (by simp only;omega) _,by omega⟩
   clear CI C4 R4 E4 B4 O4 hgp hl3 hg3 hg4 hne hnq N3 c3 f3;obtain⟨n,hn⟩:∃n,(A++(⟨[],[],false⟩:En)::B).length=n:=⟨_,rfl⟩;have hAl:A.length<n:=by rw[<-hn];simp
   have hAi:(A.length:Int)<(n:Int):=by omega
   have hn2:n<=500:=by have:=G5 HE2;rw[List.length_append]at this;rw[<-hn,List.length_append,List.length_cons];omega
   have HEl:=G6 hn.symm;rw[hn]at ST⊢;clear hn;go_upto_region 7 with fail;generalize w3.setCell ⟨w1.heap.size,2,FX⟩ (FQ (FZ ⟨g,0,FX⟩) n cap)=w2 at*;have HS:=G6 ST;have HX:=G6 hz;have HY:=G6 hk;clear hz hk;have p0:=ST.box.c2;rw[<-G5 HEl]at p0;have p1:=ST.one.e0;have p2:=ST.one.e1;have p3:=ST.one.e2;rw[G5 HY]at p1 p2 p3;rw[hq]at p0;have KB:∀W2,B0 w2 W2->W2.cell? ⟨w1.heap.size,2,FX⟩=FZ (FQ (FZ ⟨g,0,FX⟩) n cap)/\(∃u,W2.cell? ⟨g,A.length*3,FX⟩=FZ u)/\(∃u,W2.cell? ⟨g,A.length*3+1,FX⟩=FZ u)/\(∃u,W2.cell? ⟨g,A.length*3+2,FX⟩=FZ u)/\(∀j,W2.frozen? ⟨g,j,FX⟩=false)/\
     W2.cell? ⟨w.heap.size+1,0,FX⟩=FZ (S0 (IV x).p)/\W2.cell? ⟨w.heap.size+1,1,FX⟩=FZ (S0 (IV x).d)/\W2.cell? ⟨w.heap.size+1,2,FX⟩=FZ (.bool (IV x).t):=fun W2 hb=>by
    have S2:=(G5 HS).next hb;have b0:=S2.box.c2;rw[<-G5 HEl,hq]at b0;have r:=S2.own.row;have b1:=S2.one.e0;have b2:=S2.one.e1;have b3:=S2.one.e2;rw[G5 HY]at b1 b2 b3;have r0:W2.cell? ⟨g,A.length*3,FX⟩=FZ (.string ⟨(⟨[],[],false⟩:En).p.toArray⟩):=by have:=r.en0 (i:=A.length) (x:=(⟨[],[],false⟩:En)) (by simp);simpa using this
    have r1:W2.cell? ⟨g,A.length*3+1,FX⟩=FZ (.string ⟨(⟨[],[],false⟩:En).d.toArray⟩):=by have:=r.en1 (i:=A.length) (x:=(⟨[],[],false⟩:En)) (by simp);simpa using this
    have r2:W2.cell? ⟨g,A.length*3+2,FX⟩=FZ (.bool (⟨[],[],false⟩:En).t):=by have:=r.en2 (i:=A.length) (x:=(⟨[],[],false⟩:En)) (by simp);simpa using this
    exact⟨b0,⟨_,r0⟩,⟨_,r1⟩,⟨_,r2⟩,S2.own.frozen,b1,b2,b3⟩
   have HKB:=G6 KB;clear ST KB;go_wp2_with fail;have KS:∀W2,B0 w2 W2->W2.cell? ⟨w1.heap.size,2,FX⟩=FZ (FQ (FZ ⟨g,0,FX⟩) n cap)/\W2.cell? ⟨w.heap.size+1,0,FX⟩=FZ (S0 (IV x).p)/\W2.cell? ⟨w.heap.size+1,1,FX⟩=FZ (S0 (IV x).d)/\W2.cell? ⟨w.heap.size+1,2,FX⟩=FZ (.bool (IV x).t):=fun W2 hb=>by
    obtain⟨b0,_,_,_,_,b4,b5,b6⟩:=G5 HKB W2 hb;exact⟨b0,b4,b5,b6⟩
   have HKS:=G6 KS;have HKT:Hid (∀W2,B0 w2 W2->(((W2.setCell ⟨g,A.length*3,FX⟩ (S0 (IV x).p)).setCell ⟨g,A.length*3+1,FX⟩ (S0 (IV x).d)).setCell ⟨g,A.length*3+2,FX⟩ (.bool (IV x).t)).cell? ⟨w1.heap.size,2,FX⟩=FZ (FQ (FZ ⟨g,0,FX⟩) n cap)/\(((W2.setCell ⟨g,A.length*3,FX⟩ (S0 (IV x).p)).setCell ⟨g,A.length*3+1,FX⟩ (S0 (IV x).d)).setCell ⟨g,A.length*3+2,FX⟩ (.bool (IV x).t)).cell? ⟨w.heap.size+1,0,FX⟩=FZ (S0 (IV x).p)/\(((W2.setCell ⟨g,A.length*3,FX⟩ (S0 (IV x).p)).setCell ⟨g,A.length*3+1,FX⟩ (S0 (IV x).d)).setCell ⟨g,A.length*3+2,FX⟩ (.bool (IV x).t)).cell? ⟨w.heap.size+1,1,FX⟩=FZ (S0 (IV x).d)/\(((W2.setCell ⟨g,A.length*3,FX⟩ (S0 (IV x).p)).setCell ⟨g,A.length*3+1,FX⟩ (S0 (IV x).d)).setCell ⟨g,A.length*3+2,FX⟩ (.bool (IV x).t)).cell? ⟨w.heap.size+1,2,FX⟩=FZ (.bool (IV x).t)):=G6 fun W2 hb=>by
    have S2:=(G5 HS).next hb;have hne:=S2.ne;have hgk:=S2.hg;have b0:=((S2.box.other (a:=⟨g,A.length*3,FX⟩) (by simp only;omega) (S0 (IV x).p)).other (a:=⟨g,A.length*3+1,FX⟩) (by simp only;omega) (S0 (IV x).d)).other (a:=⟨g,A.length*3+2,FX⟩) (by simp only;omega) (.bool (IV x).t)|>.c2;have o1:=((S2.one.OV (a:=⟨g,A.length*3,FX⟩) (by simp only;omega) (S0 (IV x).p)).OV (a:=⟨g,A.length*3+1,FX⟩) (by simp only;omega) (S0 (IV x).d)).OV (a:=⟨g,A.length*3+2,FX⟩) (by simp only;omega) (.bool (IV x).t);have b1:=o1.e0;have b2:=o1.e1;have b3:=o1.e2;rw[<-G5 HEl,hq]at b0;rw[G5 HY]at b1 b2 b3;exact⟨b0,b1,b2,b3⟩
   clear KS
   go_region_held3 (fun w'=>w'.cell? ⟨w1.heap.size,2,FX⟩=FZ (FQ (FZ ⟨g,0,FX⟩) n cap)/\w'.cell? ⟨w.heap.size+1,0,FX⟩=FZ (S0 (IV x).p)/\w'.cell? ⟨w.heap.size+1,1,FX⟩=FZ (S0 (IV x).d)/\w'.cell? ⟨w.heap.size+1,2,FX⟩=FZ (.bool (IV x).t)) (first|with_reducible exact G5 HKS _ (Below.refl _ _)|with_reducible exact G5 HKS _ (Below.refl _ _).drew|with_reducible exact G5 HKS _ (G5 HB5)|with_reducible exact G5 HKT _ (G5 HB5)) (first
    |(go_at_call 18;with_reducible refine(CO _).mono ?_;rintro e w4 ⟨rfl,hb4⟩;have HB5:Hid (B0 w2 w4):=G6 (I9 hb4);obtain⟨b0,⟨u1,b1⟩,⟨u2,b2⟩,⟨u3,b3⟩,bf,b4,b5,b6⟩:=G5 HKB w4 (G5 HB5);have bf0:=bf (A.length*3);have bf1:=bf (A.length*3+1);have bf2:=bf (A.length*3+2);clear bf hb4))
   all_goals
    obtain⟨V1,V2,V3,V4⟩:=((G5 HS).next (G5 HB5)).fin;rw[<-G5 HEl,hq]at V1;rw[G5 HY]at V2;have HV3:=G6 V3;have HV4:=G6 V4;have v0:=V1.c0;have v1:=V1.c1;have v2:=V1.c2;have v3:=V2.c0;have v4:=V2.c1;have v5:=V2.c2;have v6:=V2.fr 0;have v7:=V2.fr 1;have v8:=V2.fr 2;have hgk:=(G5 HS).hg;rw[G5 HY]at hgk;clear V1 V2 V3 V4;generalize ((w4.setCell ⟨g,A.length*3,FX⟩ (S0 (IV x).p)).setCell ⟨g,A.length*3+1,FX⟩ (S0 (IV x).d)).setCell ⟨g,A.length*3+2,FX⟩ (.bool (IV x).t)=w5 at*;go_wp2_with fail;refine bodyPost_ret (v:=.agg #[I0 s,I0 z,FQ (FZ ⟨g,0,FX⟩) n cap]) (by simp[results,results68,go_sem,v3,v4,v5]) rfl ⟨_,rfl,.inr ⟨g,cap,?_,by omega,?_⟩,?_⟩
    .rw[G5 HT,G5 HEl];simp
    .rw[G5 HT];exact(((G5 HV3).other (by simp only;omega) _).other (by simp only;omega) _).other (by simp only;omega) _
    .exact(((G5 HV4).setCell (by simp only;omega) _).setCell (by simp only;omega) _).setCell (by simp only;omega) _
