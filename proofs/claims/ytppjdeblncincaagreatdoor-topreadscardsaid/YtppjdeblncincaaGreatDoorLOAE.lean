/-
  Part.
-/
import Derived.Test.YtppjdeblncincaaGreatDoorLOAA
set_option maxRecDepth 20000
set_option maxHeartbeats 8000000
namespace Go.Proofs.YtppjdeblncincaaGreatDoor
open Go.RowKit
open _root_.Bool renaming and_eq_true->D8
variable{p:Pw}{i k:Nat}{d:Dd}
theorem B87(h:RZ p)(hn:p.n<300){b:Nat}(hb:b<3)(hr:p.r b=2):
  nxE (p.s b).e (J5 (p.s b).m)=0/\KN (nxN (p.s b).e (J5 (p.s b).m))=true/\0<nxN (p.s b).e (J5 (p.s b).m)/\J5 (p.s b).m<nxN (p.s b).e (J5 (p.s b).m)/\J4 (nxN (p.s b).e (J5 (p.s b).m))=(p.s b).e/\nxN (p.s b).e (J5 (p.s b).m)%2147483648<=p.n+1:=by
 obtain⟨_,_,_,a4,_,_,_⟩:=h.a.lead b (gB h hb hr).1;have e0:=(h.s b hb).e0;have e1:=(h.s b hb).e1;have n0:=h.n0;obtain⟨hg,hc,he⟩:KN (J5 (p.s b).m)=true/\J5 (p.s b).m%2147483648<=p.n/\J4 (J5 (p.s b).m)<=(p.s b).e:=by
  by_cases e:(p.s b).m=[]
  .rw[e,WR];exact⟨by decide,by omega,by rw[VJ];exact e0⟩
  .obtain⟨y,hy,hz⟩:=aH e;have hH:=h.a.hist b hb y (by rw[LW hb];exact hy);obtain⟨i,_,hi,_,_,c4,_⟩:=h.a.two y hH;have:=a4 i hi;rw[LW hi,LW hb]at this;rw[LW hi]at c4;rw[<-hz];exact⟨(h.a.pos y hH).1,h.cnt y hH,Int.le_trans c4 this⟩
 generalize J5 (p.s b).m=l at*;generalize (p.s b).e=e at*;have hl:=LY.1 hg;rw[LZ hg]at he;by_cases c:e<=J4 l
 .have h1:=pX hg (show zIn (l%2147483648+1)=true from PS.2 ⟨by omega,by omega⟩);rw[LZ hg]at c;have hN:nxN e l=l+1/\nxE e l=0:=by
   rw[nxN,nxE,if_pos (by rw[LZ hg];exact c),if_pos (by rw[LZ hg];exact c)];exact h1
  rw[hN.1,hN.2];have hg':KN (l+1)=true:=LY.2 ⟨by omega,by omega⟩;rw[LZ hg'];refine⟨rfl,hg',by omega,by omega,by omega,by omega⟩
 .have hi:zIn e=true:=PS.2 ⟨by omega,by omega⟩;have hm:=U9 hi (show zIn 0=true by decide);have hmg:KN (e*2147483648)=true:=LY.2 ⟨by omega,by omega⟩;have h1:=pX (z:=e*2147483648) hmg (PS.2 ⟨by omega,by omega⟩);have hN:nxN e l=e*2147483648+1/\nxE e l=0:=by
   rw[nxN,nxE,if_neg c,if_neg c,if_pos hm.2,if_pos hm.2,hm.1,Int.add_zero];exact h1
  rw[hN.1,hN.2];rw[LZ hg]at c;have hg':KN (e*2147483648+1)=true:=LY.2 ⟨by omega,by omega⟩;rw[LZ hg'];refine⟨rfl,hg',by omega,by omega,by omega,by omega⟩
structure Wr(p:Pw)(d:Dd)(b:Nat):Prop where
 lt:b<3
 two:p.r b=2
 n:p.n<300
 e:wE p d=0
section
variable {p:Pw} {d:Dd} {b:Nat}
theorem Wr.ld(w:Wr p d b)(h:RZ p):ldN p.r=b:=(gB h w.lt w.two).2.1
theorem Wr.tr(w:Wr p d b)(h:RZ p):wTr p=QT (p.s b).m (p.s b).m.length:=by rw[wTr,w.ld h,h.all b w.lt w.two]
theorem Wr.fit(w:Wr p d b)(h:RZ p):FitP (QT (p.s b).m (p.s b).m.length) (wZ p) (wQ p d) (wX p d):=by
 have:=AI5 w.e;rw[w.tr h]at this;have e:wX p d=AR8 (QT (p.s b).m (p.s b).m.length) (wZ p) (wQ p d):=by rw[wX,w.tr h]
 rw[e];exact this
theorem Wr.z(w:Wr p d b)(h:RZ p):(wX p d).z=nxN (p.s b).e (J5 (p.s b).m):=by rw[(w.fit h).z,wZ,w.ld h]
theorem Wr.zs(w:Wr p d b)(h:RZ p):KN (wX p d).z=true/\0<(wX p d).z/\J5 (p.s b).m<(wX p d).z/\J4 (wX p d).z=(p.s b).e/\(wX p d).z%2147483648<=p.n+1:=by
 rw[w.z h];exact(B87 h w.n w.lt w.two).2
theorem CN3(h:wT p d i=true):p.r i≠0:=by
 simp only[wT,Bool.or_eq_true,D8,decide_eq_true_eq]at h;omega
theorem CW8(h:wS p d i=true):wT p d i=true:=by
 simp only[wS,D8]at h;exact h.1
theorem ZW(h:p.r i=2):wT p d i=true/\wS p d i=true:=by simp[wS,wT,h]
theorem Wr.same(w:Wr p d b)(h:RZ p)(hi:i<3)(hr:p.r i≠0):(p.s i).m=(p.s b).m/\(p.s i).up=true:=by
 obtain⟨_,_,_,_,_,a6,_⟩:=h.a.lead b (gB h w.lt w.two).1;have:=a6 i hi (by simp[awP,hi,hr]);rw[LW hi,LW w.lt]at this;exact this
theorem Wr.wr(w:Wr p d b)(h:RZ p):WrA (awP p) b (fun k=>decide (k<3)&&wT p d k) (fun k=>decide (k<3)&&wS p d k) (wX p d):=by
 obtain⟨z1,z2,z3,z4,_⟩:=w.zs h;refine⟨(gB h w.lt w.two).1,by simp[w.lt,(ZW (p:=p) (d:=d) w.two).1],fun i hi ht=>?_,fun i hs=>?_,by rw[LW w.lt];exact z3,⟨z1,z2⟩,by rw[LW w.lt];exact z4⟩
 .simp only[D8]at ht;simp[awP,hi,CN3 ht.2]
 .simp only[D8]at hs⊢;exact⟨hs.1,CW8 hs.2⟩
theorem Wr.ok(w:Wr p d b)(h:RZ p)(hk:k<3):MJ (p.n+1) (wSv p d k):=by
 unfold wSv;by_cases ht:wT p d k=true
 .rw[if_pos ht];obtain⟨e,hu⟩:=w.same h hk (CN3 ht);obtain⟨z1,z2,z3,_,_⟩:=w.zs h;exact C91 _ (h.s k hk) hu (w.fit h).gd (by rw[e];exact z3) z2 (by rw[e];exact(w.fit h).app)
 .rw[if_neg ht];exact(h.s k hk).more (by omega)
theorem Wr.up(w:Wr p d b)(h:RZ p)(hk:k<3)(ht:wT p d k=true):(wSv p d k).up=true:=by
 rw[wSv,if_pos ht];exact(w.same h hk (CN3 ht)).2
theorem xY(w:Wr p d b)(h:RZ p):∀x∈p.H++[wX p d],x.z%2147483648<=p.n+1:=fun x hx=>by
 rcases List.mem_append.1 hx with hx|hx
 .have:=h.cnt x hx;omega
 .rw[List.mem_singleton.1 hx];exact(w.zs h).2.2.2.2
theorem CN4{s:Nat->Ps}(hs:∀k,k<3->(s k).up=(wSv p d k).up/\(s k).m=(wSv p d k).m/\(s k).a=(wSv p d k).a/\(s k).e=(wSv p d k).e)(k:Nat)(hk:k<3):
  (⟨(s k).up,(s k).m,(s k).a,(s k).e⟩:Ab)=MB (awP p) (fun k=>decide (k<3)&&wT p d k) (fun k=>decide (k<3)&&wS p d k) (wX p d) k:=by
 obtain⟨e1,e2,e3,e4⟩:=hs k hk;rw[e1,e2,e3,e4];simp only[MB,LW hk,hk,decide_true,Bool.true_and,wSv];by_cases ht:wT p d k=true
 .simp only[ht,if_true,TK]
 .simp only[ht,Bool.false_eq_true,if_false]
theorem B88(w:Wr p d b)(h:RZ p):RZ ⟨p.n+1,wSv p d,fun _=>0,p.c,p.D,p.H++[wX p d],p.h⟩:=by
 have hn:=w.n;have n0:=h.n0;have hA:=BG2 h.a (w.wr h);refine⟨by show (0:Int)<=p.n+1;omega,by show p.n+1<=300;omega,fun k hk=>w.ok h hk,fun _ _=>.inl rfl,fun _ _ _ _ e=>(by cases e),fun _ _ _=>rfl,fun _ _ e=>absurd rfl e,fun _ _ e=>(by cases e),?_,fun i hi=>(h.c i hi).more (by show p.n<=p.n+1;omega) (fun x hx=>by simp[hx]),xY w h,by have:=h.few;show (p.D.length:Int)<=p.n+1;omega⟩;rw[show awP ⟨p.n+1,wSv p d,fun _=>0,p.c,p.D,p.H++[wX p d],p.h⟩=BG0 (awP p) (fun k=>decide (k<3)&&wT p d k) (fun k=>decide (k<3)&&wS p d k) (wX p d)from ?_]
 .exact hA
 .refine pG (fun k=>?_) (AE1 sG) (fun k=>by simp[awP,BG0]) rfl rfl;by_cases hk:k<3
  .rw[LW hk];exact CN4 (fun _ _=>⟨rfl,rfl,rfl,rfl⟩) k hk
  .rw[WC hk];simp[BG0,MB,hk,WC hk]
theorem lM:wRo p d k=2↔p.r k=2:=by
 unfold wRo
 split
 .exact Iff.rfl
 .rename_i h
  refine⟨fun e=>(by cases e),fun e=>absurd (ZW (d:=d) e).1 h⟩
theorem B89:(ML (wSv p d) (wL p d)).1 k=if k<3/\wS p d k=true then iL k (wSv p d k)else wSv p d k:=by
 rw[lK _ _ _ (sH _ _)];simp only[gG]
theorem BR7(h:¬ (wL p d).length<2)(b:Nat):∃c,c<3/\c≠b/\wS p d c=true:=by
 have hn:=sH p d
 match he:wL p d,h,hn with
 |[],h,_=>exact absurd (by simp) h
 |[x],h,_=>exact absurd (by simp) h
 |x::y::r,_,hn=>
  have hx:x∈wL p d:=by rw[he];simp
  have hy:y∈wL p d:=by rw[he];simp
  have hxy:x≠y:=by
   have:=(List.nodup_cons.1 hn).1;rintro rfl;exact this (by simp)
  by_cases e:b=x
  .exact⟨y,(gG.1 hy).1,by omega,(gG.1 hy).2⟩
  .exact⟨x,(gG.1 hx).1,fun h=>e h.symm,(gG.1 hx).2⟩
theorem xZ(w:Wr p d b)(h:RZ p)(hq:¬ (wL p d).length<2):RZ ⟨p.n+1,(ML (wSv p d) (wL p d)).1,wRo p d,wCl p d (ML (wSv p d) (wL p d)).2,p.D++[wX p d],p.H++[wX p d],p.h⟩:=by
 have hn:=w.n;have n0:=h.n0;obtain⟨c,hc3,hcb,hcs⟩:=BR7 hq b;have hA:=BG1 h.a (w.wr h) hc3 hcb (by simp[hc3,hcs]) (by simp[w.lt,(ZW (p:=p) (d:=d) w.two).2]);have hlb:=w.lt;have one:∀i j,i<3->j<3->wRo p d i=2->wRo p d j=2->i=j:=fun i j hi hj e1 e2=>h.one i j hi hj (lM.1 e1) (lM.1 e2);have hld:=iO hlb (lM.2 w.two) one;have hcom:∀k,(ML (wSv p d) (wL p d)).1 k=if k<3/\wS p d k=true then iL k (wSv p d k)else wSv p d k:=fun k=>B89;have fld:∀k,((ML (wSv p d) (wL p d)).1 k).up=(wSv p d k).up/\((ML (wSv p d) (wL p d)).1 k).m=(wSv p d k).m/\((ML (wSv p d) (wL p d)).1 k).a=(wSv p d k).a/\((ML (wSv p d) (wL p d)).1 k).e=(wSv p d k).e:=fun k=>by
  rw[hcom]
  split<;>exact⟨rfl,rfl,rfl,rfl⟩
 refine⟨by show (0:Int)<=p.n+1;omega,by show p.n+1<=300;omega,fun k hk=>?_,fun k hk=>?_,one,fun e=>?_,fun k hk hk0=>?_,fun k hk hk2=>?_,?_,fun i hi=>?_,xY w h,by have:=h.few;simp;omega⟩
 .show MJ (p.n+1) ((ML (wSv p d) (wL p d)).1 k);rw[hcom]
  split
  .rename_i hc
   exact BY8 (w.ok h hk) (w.up h hk (CW8 hc.2))
  .exact w.ok h hk
 .show wRo p d k=0\/wRo p d k=1\/wRo p d k=2;unfold wRo
  split
  .exact h.r k hk
  .exact .inl rfl
 .exfalso;have e:ldP (wRo p d)=-1:=e;rw[hld]at e;omega
 .show ((ML (wSv p d) (wL p d)).1 k).up=true;rw[(fld k).1];have hk0:wRo p d k≠0:=hk0;unfold wRo at hk0
  split at hk0
  .rename_i ht;exact w.up h hk ht
  .exact absurd rfl hk0
 .have hk2:wRo p d k=2:=hk2;have hr:=lM.1 hk2;show ((ML (wSv p d) (wL p d)).1 k).dn=((ML (wSv p d) (wL p d)).1 k).m.length;rw[hcom,if_pos ⟨hk,(ZW hr).2⟩];rfl
 .rw[show awP ⟨p.n+1,(ML (wSv p d) (wL p d)).1,wRo p d,wCl p d (ML (wSv p d) (wL p d)).2,p.D++[wX p d],p.H++[wX p d],p.h⟩=AG4 (awP p) b (fun k=>decide (k<3)&&wT p d k) (fun k=>decide (k<3)&&wS p d k) (wX p d)from ?_]
  .exact hA
  .refine pG (fun k=>?_) ?_ (fun k=>?_) rfl rfl
   .by_cases hk:k<3
    .rw[LW hk];exact CN4 (fun k _=>fld k) k hk
    .rw[WC hk];simp[AG4,MB,hk,WC hk]
   .simp only[awP,hld,AG4,ldN];rw[if_neg (by omega)];simp
   .by_cases hk:k<3
    .simp only[awP,AG4,hk,decide_true,Bool.true_and];by_cases ht:wT p d k=true
     .have e:wRo p d k=p.r k:=by rw[wRo,if_pos ht]
      rw[ht];exact decide_eq_true (show wRo p d k≠0 by rw[e];exact CN3 ht)
     .have e:wRo p d k=0:=by rw[wRo,if_neg ht]
      rw[Bool.not_eq_true]at ht;rw[ht];exact decide_eq_false (show ¬wRo p d k≠0 from fun hn=>hn e)
    .simp[awP,AG4,hk]
 .show tV (p.n+1) (p.H++[wX p d]) i (wCl p d (ML (wSv p d) (wL p d)).2 i);have h1:=A49 ((h.c i hi).more (show p.n<=p.n+1 by omega) (fun x hx=>(by simp[hx]:x∈p.H++[wX p d]))) (ML (wSv p d) (wL p d)).2;unfold wCl;by_cases e:i=d.c.toNat
  .subst e;rw[II];exact⟨h1.s,.inr ⟨wX p d,by simp,by rw[w.z h];simp only[wZ,w.ld h]⟩,h1.asc,h1.len,h1.sh⟩
  .rw[GL _ _ e];exact h1
end
theorem AP1{t:Tr}{p:List UInt8}{n:Nd}(h:mY t p=some n):n∈t.ns/\n.p=p:=⟨List.mem_of_find?_eq_some h,by have:=List.find?_some h;simpa using this⟩
theorem CA5{N:Int}{H:List GN}{c:Cl}{z:Int}(h:tV N H i c)(hz:z=0\/∃x∈H,z=x.z):tV (N+1) H i ⟨c.s,z,c.es⟩:=
 ⟨h.s,hz,h.asc,by have:=h.len;show (c.es.length:Int)<=_;omega,h.sh⟩
theorem CA6{N:Int}{H:List GN}{c:Cl}{z:Int}{x:En}(h:tV N H i c)(hz:z=0\/∃x∈H,z=x.z)(h1:x.p.length<=200)(h2:x.d.length<=256):tV (N+1) H i ⟨c.s,z,WH c.es x⟩:=by
 refine⟨h.s,hz,BP6 h.asc x,?_,fun e he=>?_⟩
 .have:=BP7 c.es h.asc x;have:=h.len;show ((WH c.es x).length:Int)<=_;omega
 .rcases BP8 he with he|rfl
  .exact h.sh e he
  .unfold IY
   split
   .exact⟨h1,h2⟩
   .exact⟨h1,by simp⟩
theorem B90{ws:List Wa}{x:Wa}(hE:bW ws x=0)(hk:x.k=1):J6 x.p=true:=by
 unfold bW at hE
 split at hE
 .rename_i hc;exact absurd hE hc
 .rename_i hc
  have hc:tN x=0:=by omega
  unfold tN at hc
  cases hb:J6 x.p with
  |true=>rfl
  |false=>simp[hk,hb]at hc
theorem B91(h:RZ p)(hn:p.n<300)(hc:0<=d.c/\d.c<16)(hs:0<=d.s/\d.s<3):RZ (l7 (O8 p) d).2:=by
 have n0:=h.n0;have hC:d.c.toNat<16:=by omega
 have hS:d.s.toNat<3:=by omega
 unfold l7
 split
 .exact QB h hn
 .rename_i hu
  have hu:(p.s d.s.toNat).up=true:=by simpa [O8]using hu
  split
  .exact QB h hn
  .have hz:(rTr p d).z=0\/∃x∈p.H,(rTr p d).z=x.z:=by
    rcases(h.s _ hS).play.z_of (h.s _ hS).dn with e|⟨x,hx,e⟩
    .exact .inl e
    .exact .inr ⟨x,h.a.hist _ hS x (by rw[LW hS];exact hx),e⟩
   have cl:∀v,tV (p.n+1) p.H d.c.toNat v->∀i,i<16->tV (p.n+1) p.H i (LP p.c d.c.toNat v i):=fun v hv i hi=>by
    by_cases e:i=d.c.toNat
    .subst e;rw[II];exact hv
    .rw[GL _ _ e];exact(h.c i hi).more (by omega) fun _ hx=>hx
   have h1:=QB h hn
   split
   .exact⟨h1.n0,h1.n1,h1.s,h1.r,h1.one,h1.led,h1.rup,h1.all,h1.a,cl _ (CA5 (h.c _ hC) hz),h1.cnt,h1.few⟩
   .split
    .exact h1
    .rename_i hE
     have hE:bW (p.s d.s.toNat).ws (rWa p d)=0:=by
      have:¬bW (p.s d.s.toNat).ws (rWa p d)≠0:=hE;omega
     have hse:=(h.c _ hC).s;have hgd:=B90 hE rfl;have hdat:((rN p d).getD nd0).d.length<=256:=by
      cases hr:rN p d with
      |none=>simp[nd0]
      |some n=>
       have hg:=((h.s _ hS).play.good (h.s _ hS).dn).nod.ok n (AP1 hr).1;simpa using hg.data
     refine⟨h1.n0,h1.n1,fun i hi=>?_,h1.r,h1.one,h1.led,fun i hi hr=>?_,fun i hi hr=>?_,?_,cl _ (CA6 (h.c _ hC) hz (MO hgd) hdat),h1.cnt,h1.few⟩
     .show MJ (p.n+1) (LP p.s d.s.toNat (yS (p.s d.s.toNat) (rWa p d)) i);by_cases e:i=d.s.toNat
      .subst e;rw[II];exact BY9 (h.s _ hS) hu hE rfl (by show 1<=(p.c d.c.toNat).s/\(p.c d.c.toNat).s<=16;omega)
      .rw[GL _ _ e];exact h1.s i hi
     .show (LP p.s d.s.toNat (yS (p.s d.s.toNat) (rWa p d)) i).up=true;by_cases e:i=d.s.toNat
      .subst e;rw[II];exact hu
      .rw[GL _ _ e];exact h1.rup i hi hr
     .show (LP p.s d.s.toNat (yS (p.s d.s.toNat) (rWa p d)) i).dn=(LP p.s d.s.toNat (yS (p.s d.s.toNat) (rWa p d)) i).m.length;by_cases e:i=d.s.toNat
      .subst e;rw[II];exact h1.all _ hi hr
      .rw[GL _ _ e];exact h1.all i hi hr
     .rw[show awP _=awP p from ?_]
      .exact h.a
      .refine pG (fun k=>?_) rfl (fun k=>rfl) rfl rfl;by_cases hk:k<3
       .rw[LW hk,LW hk];show (⟨(LP p.s d.s.toNat (yS (p.s d.s.toNat) (rWa p d)) k).up,(LP p.s d.s.toNat (yS (p.s d.s.toNat) (rWa p d)) k).m,(LP p.s d.s.toNat (yS (p.s d.s.toNat) (rWa p d)) k).a,(LP p.s d.s.toNat (yS (p.s d.s.toNat) (rWa p d)) k).e⟩:Ab)=_;by_cases e:k=d.s.toNat
        .subst e;rw[II];rfl
        .rw[GL _ _ e]
       .rw[WC hk,WC hk]
theorem CW9(hk:d.k=1)(h:V9 d=0):0<=d.c/\d.c<16:=by
 rw[V9,if_pos hk]at h
 split at h
 .rename_i hc;simpa [eY]using hc
 .cases h
theorem CN5(hk:d.k=2)(h:V9 d=0):(0<=d.c/\d.c<16)/\0<=d.s/\d.s<3:=by
 rw[V9,if_neg (by omega),if_pos hk]at h
 split at h
 .rename_i hc;simpa [eY]using hc
 .cases h
theorem AE5(hk:d.k=3\/d.k=4)(h:V9 d=0):0<=d.s/\d.s<3:=by
 rw[V9,if_neg (by omega),if_neg (by omega),if_pos hk]at h
 split at h
 .rename_i hc;simpa [eY]using hc
 .cases h
theorem AP2(h:RZ p)(hn:p.n<300):RZ (RG (O8 p) d).2:=by
 unfold RG
 split
 .exact QB h hn
 .rename_i hl
  split
  .exact QB h hn
  .rename_i hE
   rcases lH p.r with⟨e,_⟩|⟨b,hb,_,hr⟩
   .exact absurd e hl
   .have w:Wr p d b:=⟨hb,hr,hn,by have:¬wE p d≠0:=hE;omega⟩
    split
    .exact B88 w h
    .rename_i hq
     exact xZ w h hq
theorem lN(d:Dd)(h:RZ p):RZ (doP p d).2:=by
 unfold doP
 split
 .exact h
 .rename_i hn
  have hn:p.n<300:=by omega
  split
  .exact QB h hn
  .rename_i hE
   have hE:V9 d=0:=by omega
   unfold mF
   split
   .exact AP2 h hn
   .split
    .rename_i hk
     obtain⟨h1,h2⟩:=CN5 hk hE;exact B91 h hn h1 h2
    .split
     .rename_i hk
      have h2:=AE5 (.inl hk) hE;unfold UR
      split
      .exact QB h hn
      .split
       .exact QB h hn
       .exact AO9 (QB h hn) (i:=d.s.toNat) (by omega) _
     .split
      .rename_i hk
       have h2:=AE5 (.inr hk) hE;unfold upW
       split
       .exact QB h hn
       .rename_i hu
        exact CA3 (QB h hn) (i:=d.s.toNat) (by omega) (by simpa using hu)
      .unfold TU
       split
       .exact QB h hn
       .split
        .exact QB h hn
        .rename_i h2 hb
         exact pI h hn h2 (by simpa [O8]using hb)
theorem YP(k:Nat):RZ (pw0 k):=by
 refine⟨by simp[pw0],by simp[pw0],fun i _=>⟨Logs.nil,by simp[pw0,ps0],by simp[pw0,ps0],by simp[pw0,ps0],by simp[pw0,ps0],by simp[pw0,ps0],by simp[pw0,ps0],by simp[AE0,pw0,ps0],by simp[pw0,ps0],by simp[pw0,ps0],by simp[pw0,ps0],by simp[pw0,ps0]⟩,fun _ _=>.inl rfl,fun _ _ _ _ e=>(by cases e),fun _ _ _=>rfl,fun _ _ e=>absurd rfl e,fun _ _ e=>(by cases e),?_,fun i hi=>⟨rfl,.inl rfl,List.Pairwise.nil,by simp[pw0],by simp[pw0]⟩,by simp[pw0],by simp[pw0]⟩;refine⟨fun k hk=>?_,fun k hk=>?_,fun k hk x hx=>?_,fun x hx=>absurd hx (by simp[awP,pw0]),fun x hx=>absurd hx (by simp[awP,pw0]),fun x hx=>absurd hx (by simp[awP,pw0]),fun k hk=>⟨0,1,by omega,by omega,by omega,?_,?_⟩,fun b hb=>?_,fun x hx=>absurd hx (by simp[awP,pw0]),List.Pairwise.nil,fun x hx=>absurd hx (by simp[awP,pw0]),fun x hx=>absurd hx (by simp[awP,pw0])⟩
 .rw[LW hk];exact List.Pairwise.nil
 .rw[LW hk];exact Nat.le_refl _
 .rw[LW hk]at hx;exact absurd hx (by simp[pw0,ps0])
 .rw[LW hk,LW (by omega)];exact Int.le_refl _
 .rw[LW hk,LW (by omega)];exact Int.le_refl _
 .rw[AE1 (show ldP (pw0 k).r=-1 from sG)]at hb;cases hb
theorem lQ:∀ (l:List Dd) (p:Pw),RZ p->RZ (SY p l)
 |[],_,h=>h
 |d::l,_,h=>lQ l _ (lN d h)
def dEl:Dd:=⟨5,0,0,⟨0,0,[],[],0,0⟩,0,0,0,false⟩
def dOp:Dd:=⟨1,0,0,⟨1,0,[],[],0,0⟩,0,0,0,false⟩
def ps1:Ps:=⟨true,1,[],0,[],0,[]⟩
theorem sZ(i:Nat):iL i ps1=ps1/\(dI i ps1).2=[]:=by
 have h:dI i ps1=(svP i ps1,[]):=rG _ _;refine⟨?_,by rw[h]⟩;rw[iL,h,J3 rfl];rfl
theorem BD3(f:Nat->Ps)(h:∀i,i<3->f i=ps1):(∀i,i<3->(ML f [0,1,2]).1 i=ps1)/\(ML f [0,1,2]).2=[]:=by
 have e:∀ (g:Nat->Ps) i,(∀j,j<3->g j=ps1)->∀j,j<3->LP g i (iL i ps1) j=ps1:=fun g i hg j hj=>by
  by_cases e:j=i
  .rw[e,II];exact(sZ i).1
  .rw[GL _ _ e];exact hg j hj
 simp only[ML];have h1:=e f 0 h;have h2:=e _ 1 h1;have h3:=e _ 2 h2;rw[h 0 (by omega),h1 1 (by omega),h2 2 (by omega),(sZ 0).2,(sZ 1).2,(sZ 2).2];exact⟨h3,rfl⟩
theorem BV5(k:Nat):∃f c,doP (pw0 k) dEl=(⟨0,0,[],[],nd0,[]⟩,⟨1,f,eR (pw0 k).s,c,[],[],k⟩)/\(∀i,i<3->f i=ps1)/\(∀i,(c i).s=i+1):=by
 obtain⟨h1,h2⟩:=BD3 (eS (pw0 k).s) (fun i hi=>by rcases(show i=0\/i=1\/i=2 by omega)with rfl|rfl|rfl<;>rfl);have hU:KC (pw0 k).s=[0,1,2]:=rfl;refine⟨(ML (eS (pw0 k).s) [0,1,2]).1,ZQ (pw0 k).c (ML (eS (pw0 k).s) [0,1,2]).2,?_,h1,fun i=>rfl⟩;rw[doP,if_neg (by simp[pw0]),if_neg (by simp[V9,dEl])];show TU (O8 (pw0 k))=_;rw[TU,if_neg (show ¬ (KC (O8 (pw0 k)).s).length<2 by rw[show KC (O8 (pw0 k)).s=[0,1,2]from rfl];decide),if_neg (show ¬AR9 (O8 (pw0 k)).s=true by rw[show AR9 (O8 (pw0 k)).s=false from rfl];simp)];show (_,_)=(_,_);rw[show (O8 (pw0 k)).s=(pw0 k).s from rfl,hU,h2];rfl
theorem BV6{f:Nat->Ps}{c:Nat->Cl}(hf:∀i,i<3->f i=ps1)(hc:∀i,(c i).s=i+1):∃t ns p',doP ⟨1,f,eR (pw0 k).s,c,[],[],k⟩ dOp=(⟨0,2147483649,[],[],t,ns⟩,p')/\p'.D.length=1:=by
 generalize hp:(⟨1,f,eR (pw0 k).s,c,[],[],k⟩:Pw)=p;have hs:p.s=f:=by rw[<-hp]
 have hr:p.r=eR (pw0 k).s:=by rw[<-hp]
 have hl:ldP p.r=2:=by rw[hr];rfl
 have hn:ldN p.r=2:=by rw[ldN,hl];rfl
 have hz:wZ p=2147483649:=by rw[wZ,hn,hs,hf 2 (by omega)];decide
 have ht:wTr p=QL:=by rw[wTr,hn,hs,hf 2 (by omega)];exact XQ _
 have hq:wQ p dOp=⟨1,1,[],[],0,0⟩:=by rw[wQ,<-hp];simp[dOp,hc]
 have hgd:gdE ⟨2147483649,1,1,[],[],0,0⟩=0:=by decide
 have ha:YS QL ⟨2147483649,1,1,[],[],0,0⟩=0:=by
  have hA:WJ QL ⟨2147483649,1,1,[],[],0,0⟩=0:=by
   rw[WJ,if_neg (by rw[SC.2 YM];simp),if_neg (by rw[hgd];simp)];decide
  rw[AA7 hA];exact dW rfl (OE.2 YM.cap)
 obtain⟨e1,e2⟩:=AX0 (t:=QL) (z:=2147483649) (r:=⟨1,1,[],[],0,0⟩) (.inl rfl);have hE:wE p dOp=0:=by
  rw[wE,ht,hz,hq,zS (nX.2 ⟨YM,by decide,by decide,by decide⟩) e1,e2];exact ha
 have hX:wX p dOp=⟨2147483649,1,1,[],[],0,0⟩:=by
  have h:=hE;rw[wE,ht,hz,hq]at h;rw[wX,ht,hz,hq,zT h,e2]
 have hL:wL p dOp=[0,1,2]:=by
  simp only[wL,wS,wT,hr];rfl
 have hd:doP p dOp=RG (O8 p) dOp:=by
  rw[doP,if_neg (by rw[<-hp];simp),if_neg (by simp[V9,dOp,eY])];rfl
 rw[hd,RG,if_neg (show ¬ldP (O8 p).r=-1 by show ¬ldP p.r=-1;rw[hl];decide),if_neg (show ¬wE (O8 p) dOp≠0 by show ¬wE p dOp≠0;rw[hE];simp),if_neg (show ¬ (wL (O8 p) dOp).length<2 by show ¬ (wL p dOp).length<2;rw[hL];decide),show wX (O8 p) dOp=wX p dOp from rfl,hX];refine⟨_,_,_,rfl,?_⟩;show (p.D++[_]).length=1;rw[<-hp];rfl
