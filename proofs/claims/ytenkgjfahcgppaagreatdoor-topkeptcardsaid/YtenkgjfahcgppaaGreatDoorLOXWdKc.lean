/-
  Part.
-/
import Derived.Test.YtenkgjfahcgppaaGreatDoorLOAL
import Derived.Test.YtenkgjfahcgppaaGreatDoorLOXWdSv
import Derived.Test.YtenkgjfahcgppaaGreatDoorLOXWdKp
import Derived.Test.YtenkgjfahcgppaaGreatDoorLOXWdOp
set_option maxRecDepth 20000
set_option maxHeartbeats 8000000
namespace Go.Proofs.YtenkgjfahcgppaaGreatDoor
open Go.RowKit Go.Proofs.Tryz
structure KpI(W U0:World)(k:Nat)(D:List AQ)(n:Int)(q:Pw)(V:World):Prop where
 p:vC W k q V
 h:q.h=k
 w:ND q
 n:q.n<=n
 d:q.D=D
 t:Touch (· =k) U0 V
section
variable {W U0 V U:World} {k:Nat} {D:List AQ} {n:Int} {q:Pw}
theorem KpI.next(h:KpI W U0 k D n q V)(hb:Below V.heap.size V U):KpI W U0 k D n q U:=⟨h.p.next hb,h.h,h.w,h.n,h.d,h.t.trans (Touch.of_below hb)⟩
theorem KpI.deed(h:KpI W U0 k D n q V)(d:Dd)(ht:Touch (· =k) V U)(hx:WX U k (doP q d).2)(hD:(doP q d).2.D=q.D):KpI W U0 k D (n+1) (doP q d).2 U:=by
 refine⟨h.p.turn ht hx,?_,WR d h.w,?_,hD.trans h.d,h.t.trans ht⟩
 .have:=uM q [d];exact this.trans h.h
 .have h1:=B53 [d] q;have h2:=h.n;simp only[JO,List.length_singleton]at h1;omega
theorem KpI.more{m:Int}(h:KpI W U0 k D n q V)(hm:n<=m):KpI W U0 k D m q V:=⟨h.p,h.h,h.w,Int.le_trans h.n hm,h.d,h.t⟩
end
theorem BS5(x0 x1 x2 x3 x4 x5 x6 x7 x8 x9:Value)(w:World):(Instr.field 43 (.agg #[x0,x1,x2,x3,x4,x5,x6,x7,x8,x9]) 0).run prog w=.ok x0 w:=by kernel_rfl
theorem A89(x0 x1 x2 x3 x4 x5 x6 x7 x8 x9 x10 x11:Value)(w:World):(Instr.field 65 (.agg #[x0,x1,x2,x3,x4,x5,x6,x7,x8,x9,x10,x11]) 0).run prog w=.ok x0 w:=by kernel_rfl
theorem zU{i:Nat}{q:Ps}:(svP i q).up=q.up:=by
 cases h:q.up with
 |true=>rw[D8 h]
 |false=>rw[MO h]
structure B55(q:Pw)(b:Nat)(D:List AQ):Prop where
 lt:b<3
 ld:ldP q.r=(b:Nat)
 m:∀j,j<3->(svP j (q.s j)).ts=(svP b (q.s b)).ts/\(svP j (q.s j)).dn=((svP j (q.s j)).ts.length:Nat)/\D.Sublist (svP j (q.s j)).ts/\(svP j (q.s j)).ts.length<=300
theorem B56{p:Pw}(hn:p.n<300)(hw:ND p)(hu:∀i,i<3->(p.s i).up=true)(h0:∀i,i<3->(p.s i).dn=0):(doP p WV).1.E=0/\(doP p WV).2.D=p.D/\∃b,B55 (doP p WV).2 b p.D:=by
 obtain⟨e,eD,b,hb,hr,ha⟩:=B54 hn hu h0;have hq:=WR WV hw;refine⟨e,eD,b,hb,YF hb hr hq.one,fun j hj=>?_⟩;obtain⟨l1,l2⟩:=BN6 hq hb hr;obtain⟨u1,m1,d1⟩:=ha j hj;obtain⟨u2,_,_⟩:=ha b hb;rw[eD]at l1;rw[D8 u2]at l1 l2⊢;rw[D8 u1];simp only at l1 l2⊢;rw[m1,d1];exact⟨rfl,rfl,l1,l2⟩
theorem AJ6(W U0:World)(k:Nat)(D:List AQ)(n:Int)(q:Pw)(V:World)(hK:KpI W U0 k D n q V)(hn:n<=200)(hd:∀j,j<3->(q.s j).up=false):
  Calls prog 26 #[wP k] V fun e w'=>∃ (b:Nat) (q':Pw),e=.returned (.tuple #[.int .i64 b,.bool true])/\KpI W U0 k D (n+4) q' w'/\B55 q' b D:=by
 have H0:=AA hK;have HD:=AA hd;have hsu:=BS5;have hrc:=A89;clear hK hd;unfold wP;go_enter func26,ntmps26;go_wp2_with fail
 go_loopg [4] 3 (fun kx s1 wr=>∃ (i:Nat) (q:Pw),s1=.int .i64 i/\i<=3/\3-i<=kx/\Hid (KpI W U0 k D (n+i) q wr)/\Hid (∀j,j<3->if j<i then(q.s j).up=true/\(q.s j).dn=0 else(q.s j).up=false))
 case atStart=>exact⟨0,q,rfl,by omega,by omega,AA (by simpa using A8 H0),AA (fun j hj=>by rw[if_neg (by omega)];exact A8 HD j hj)⟩
 case round=>
  obtain⟨i,p,rfl,hi,hg,HK,HU⟩:=hrel;clear H0 HD;by_cases hi3:i<3
  .have hi4:(i:Int)<3:=by omega
   have hpn:p.n<300:=by have:=(A8 HK).n;omega
   have hup:(p.s i).up=false:=by have:=A8 HU i hi3;rwa[if_neg (by omega)]at this
   have BS6:(svP i (p.s i)).up=false:=zU.trans hup;have CS:=AA (VA p k i wr (A8 HK).p.x hi3 _ rfl (((A8 HK).w.s i hi3).more (A8 HK).w.n1).few);have hdo:=CJ7 hpn hi3 hup;have CD:=AA (fun V (hV:KpI W U0 k D (n+i) p V)=>iE p (iW i) k V hV.p.x hV.h hV.p.t hV.w (by simp[iW]) (by simp[iW]));have HN:=AA (fun V U (hV:KpI W U0 k D (n+i) p V) (ht:Touch (· =k) V U) (hx:WX U k (doP p (iW i)).2)=>hV.deed (iW i) ht hx (by rw[hdo]));have HU':Hid (∀j,j<3->if j<i+1 then((doP p (iW i)).2.s j).up=true/\((doP p (iW i)).2.s j).dn=0 else((doP p (iW i)).2.s j).up=false):=AA fun j hj=>by
    rw[hdo];by_cases e:j=i
    .subst e;simp only[BP];rw[if_pos (by omega)];exact⟨rfl,rfl⟩
    .have:=A8 HU j hj;simp only[AP _ _ e];by_cases hlt:j<i
     .rw[if_pos hlt]at this;rw[if_pos (by omega)];exact this
     .rw[if_neg hlt]at this;rw[if_neg (by omega)];exact this
   have hE:(doP p (iW i)).1=LM 0:=by rw[hdo]
   generalize svP i (p.s i)=s at*;generalize doP p (iW i)=x at*;obtain⟨r,y⟩:=x;simp only at hE;subst hE;simp only at HN HU';unfold wP ddV iW at CD;unfold wP at CS;clear hdo HU hup hpn;simp only at CD;go_wp2_with fail;refine(A8 CS).mono ?_;rintro e w1 ⟨ad,cd,al,cl,an,cn,ai,ci,aw,cw,rfl,_,_,_,_,_,hb1⟩;have H1:=AA ((A8 HK).next hb1);rw[BS6];clear hb1 CS HK BS6;go_wp2_with fail;refine(A8 CD _ (A8 H1)).mono ?_;rintro e w2 ⟨u,rfl,ho,ht,hx⟩;obtain⟨na,nc,rfl⟩:=BN ho;have H2:=AA (A8 HN _ _ (A8 H1) ht hx);clear ho ht hx CD HN H1;unfold rpV LM nd0;go_wp2_with fail
   go_roundg (3-(i+1))
   case measure=>omega
   case rel=>exact⟨i+1,y,by simp,by omega,Nat.le_refl _,AA ((A8 H2).more (by omega)),HU'⟩
  .obtain rfl:i=3:=by omega
   have hpn:p.n<300:=by have:=(A8 HK).n;omega
   have hu:∀j,j<3->(p.s j).up=true/\(p.s j).dn=0:=fun j hj=>by have:=A8 HU j hj;rwa[if_pos hj]at this
   obtain⟨hE,eD,b,hC⟩:=B56 hpn (A8 HK).w (fun j hj=>(hu j hj).1) (fun j hj=>(hu j hj).2);have HC:=AA hC;have hld:=hC.ld;have hb3:=hC.lt;have CD:=AA (iE p WV k wr (A8 HK).p.x (A8 HK).h (A8 HK).p.t (A8 HK).w (by simp[WV]) (by simp[WV]));have HN:=AA (fun U (ht:Touch (· =k) wr U) (hx:WX U k (doP p WV).2)=>(A8 HK).deed WV ht hx eD);rw[(A8 HK).d]at HC;clear hC eD hu HU hpn HK;generalize doP p WV=x at*;obtain⟨r,y⟩:=x;simp only at hE HN HC hld;have CL:=AA (fun V (hV:KpI W U0 k D (n+(3:Nat)+1) y V)=>MF y k V hV.p.x);rw[hld]at CL;unfold wP ddV WV at CD;unfold wP at CL;simp only at CD;clear hld;go_wp2_with fail;refine(A8 CD).mono ?_;rintro e w2 ⟨u,rfl,ho,ht,hx⟩;obtain⟨na,nc,rfl⟩:=BN ho;have H2:=AA (A8 HN _ ht hx);clear ho ht hx CD HN;unfold rpV;rw[hE];go_upto_region 7 with fail;have R0:=heap_alloc_last w2 (.cells #[.int .i64 0,.int .i64 r.z,.string ⟨r.p.toArray⟩,.string ⟨r.d.toArray⟩,.int .i64 r.t.c,.int .i64 r.t.m,.int .i64 r.t.q,.int .i64 r.t.v,.int .i64 r.t.k,.int .i64 r.t.o,.int .i64 r.t.n,.slice na r.ns.length nc] 65);have A2:=AA (AB w2 (.cells #[.int .i64 0,.int .i64 r.z,.string ⟨r.p.toArray⟩,.string ⟨r.d.toArray⟩,.int .i64 r.t.c,.int .i64 r.t.m,.int .i64 r.t.q,.int .i64 r.t.v,.int .i64 r.t.k,.int .i64 r.t.o,.int .i64 r.t.n,.slice na r.ns.length nc] 65));generalize w2.alloc _=W2 at*;have H3:=AA (fun V (hV:Below W2.heap.size W2 V)=>((A8 H2).next (A8 A2)).next hV);generalize w2.heap.size=g at*;have HKS:Hid (∀V,Below W2.heap.size W2 V->V.cell? ⟨g,0,none⟩=some (.int .i64 0)):=AA fun V hV=>by
    have h:=(hV.block g (Array.getElem?_eq_some_iff.1 R0).1).trans R0;simp[World.cell?,h]
   have hb4:(b:Int)<3:=by omega
   have hb5:(0:Int)<=(b:Int):=by omega
   have hb6:decide ((0:Int)<=(b:Int))=true:=by simp
   have hb7:decide ((b:Int)<3)=true:=by simpa using hb4
   clear R0 A2 H2 hE;have hS0:=A8 HKS _ (Below.refl W2.heap.size W2).drew;refine wp_region_held (S:=fun V:World=>V.cell? ⟨g,0,none⟩=some (.int .i64 0)) (by kernel_rfl) ?_;change wpAnyH _ _ _ _ _ _ _ _ W2.drew;refine tkH 0 hS0 ?_;refine tkH 2 hS0 ?_;refine tkH 3 hS0 ?_;refine tkH 4 hS0 ?_;refine rd1 1 (fun K hK=>?_);go_simp;refine(A8 CL _ (A8 H3 _ (Below.refl W2.heap.size W2).drew)).mono ?_;rintro e v1 ⟨rfl,hv1⟩;have HB1:=AA (AL (Below.refl W2.heap.size W2).drew hv1);have hS1:=A8 HKS _ (A8 HB1);clear hv1;refine nxH hK hS1 ?_;clear hK K;refine tkH 5 hS1 ?_;refine tkH 6 hS1 ?_;refine rd1 7 (fun K hK=>?_);go_simp;refine(A8 CL _ (A8 H3 _ (A8 HB1))).mono ?_;rintro e v2 ⟨rfl,hv2⟩;have HB2:=AA (AL (A8 HB1) hv2);have hS2:=A8 HKS _ (A8 HB2);clear hv2;refine nxH hK hS2 ?_;clear hK K;refine tkH 8 hS2 ?_;refine tkH 9 hS2 ?_;refine tkH 10 hS2 ?_;refine tkH 11 hS2 ?_;refine rd1 12 (fun K hK=>?_);go_simp;refine(A8 CL _ (A8 H3 _ (A8 HB2))).mono ?_;rintro e v3 ⟨rfl,hv3⟩;have HB3:=AA (AL (A8 HB2) hv3);have hS3:=A8 HKS _ (A8 HB3);clear hv3;refine nxH hK hS3 ?_;clear hK K;refine tkH 13 hS3 ?_;refine tkH 14 hS3 ?_;refine tkH 15 hS3 ?_;refine tkH 16 hS3 ?_;refine wpAnyH_done (by kernel_rfl) ?_ _;go_wp2_with fail;exact bodyPost_ret (v:=.tuple #[.int .i64 b,.bool true]) (by simp[results,results26,go_sem]) rfl ⟨b,y,rfl,(A8 H3 _ (A8 HB3)).more (by omega),A8 HC⟩
theorem B57(W U0:World)(k:Nat)(D:List AQ)(n:Int)(q:Pw)(V:World)(ke:Int)(hK:KpI W U0 k D n q V)(hn:n<=150)(hke:0<=ke):
  Calls prog 9 #[wP k,.int .i64 ke] V fun e w'=>∃ (b:Nat) (q':Pw),e=.returned (.tuple #[.int .i64 b,.bool true])/\KpI W U0 k D (n+7) q' w'/\B55 q' b D:=by
 have H0:=AA hK;have hsu:=BS5;have hrc:=A89;clear hK;unfold wP;go_enter func9,ntmps9;go_wp2_with fail
 go_loopg [6] 3 (fun kx s1 wr=>∃ (i:Nat) (q:Pw),s1=.int .i64 i/\i<=3/\3-i<=kx/\Hid (KpI W U0 k D (n+i) q wr)/\Hid (∀j,j<i->(q.s j).up=false))
 case atStart=>exact⟨0,q,rfl,by omega,by omega,AA (by simpa using A8 H0),AA (fun j hj=>by omega)⟩
 case round=>
  obtain⟨i,p,rfl,hi,hg,HK,HU⟩:=hrel;clear H0;by_cases hi3:i<3
  .have hi4:(i:Int)<3:=by omega
   have hpn:p.n<300:=by have:=(A8 HK).n;omega
   have CS:=AA (VA p k i wr (A8 HK).p.x hi3 _ rfl (((A8 HK).w.s i hi3).more (A8 HK).w.n1).few);unfold wP at CS
   cases hup:(p.s i).up with
   |false=>
    have BS6:(svP i (p.s i)).up=false:=zU.trans hup;generalize svP i (p.s i)=s at*;have HU':Hid (∀j,j<i+1->(p.s j).up=false):=AA fun j hj=>by
     by_cases e:j=i
     .rw[e];exact hup
     .exact A8 HU j (by omega)
    clear hup hpn HU;go_wp2_with fail;refine(A8 CS).mono ?_;rintro e w1 ⟨ad,cd,al,cl,an,cn,ai,ci,aw,cw,rfl,_,_,_,_,_,hb1⟩;have H1:=AA ((A8 HK).next hb1);rw[BS6];clear hb1 CS HK BS6;go_wp2_with fail
    go_roundg (3-(i+1))
    case measure=>omega
    case rel=>exact⟨i+1,p,by simp,by omega,Nat.le_refl _,AA ((A8 H1).more (by omega)),HU'⟩
   |true=>
    have BS6:(svP i (p.s i)).up=true:=zU.trans hup;have hdo:=B51 hpn hi3 hup hke;have CD:=AA (fun V (hV:KpI W U0 k D (n+i) p V)=>iE p (dCr i ke) k V hV.p.x hV.h hV.p.t hV.w (by simp[dCr]) (by simp[dCr]));have HN:=AA (fun V U (hV:KpI W U0 k D (n+i) p V) (ht:Touch (· =k) V U) (hx:WX U k (doP p (dCr i ke)).2)=>hV.deed (dCr i ke) ht hx (by rw[hdo]));have HU':Hid (∀j,j<i+1->((doP p (dCr i ke)).2.s j).up=false):=AA fun j hj=>by
     rw[hdo];by_cases e:j=i
     .subst e;simp only[BP];rfl
     .simp only[AP _ _ e];exact A8 HU j (by omega)
    have hE:(doP p (dCr i ke)).1=LM 0:=by rw[hdo]
    generalize svP i (p.s i)=s at*;generalize doP p (dCr i ke)=x at*;obtain⟨r,y⟩:=x;simp only at hE;subst hE;simp only at HN HU';unfold wP ddV dCr at CD;clear hdo HU hup hpn;simp only at CD;go_wp2_with fail;refine(A8 CS).mono ?_;rintro e w1 ⟨ad,cd,al,cl,an,cn,ai,ci,aw,cw,rfl,_,_,_,_,_,hb1⟩;have H1:=AA ((A8 HK).next hb1);rw[BS6];clear hb1 CS HK BS6;go_wp2_with fail;refine(A8 CD _ (A8 H1)).mono ?_;rintro e w2 ⟨u,rfl,ho,ht,hx⟩;obtain⟨na,nc,rfl⟩:=BN ho;have H2:=AA (A8 HN _ _ (A8 H1) ht hx);clear ho ht hx CD HN H1;unfold rpV LM nd0;go_wp2_with fail
    go_roundg (3-(i+1))
    case measure=>omega
    case rel=>exact⟨i+1,y,by simp,by omega,Nat.le_refl _,AA ((A8 H2).more (by omega)),HU'⟩
  .obtain rfl:i=3:=by omega
   have C:=AA (AJ6 W U0 k D (n+(3:Nat)) p wr (A8 HK) (by omega) (A8 HU));unfold wP at C;clear HK HU;go_wp2_with fail;refine(A8 C).mono ?_;rintro e w1 ⟨b,q',rfl,hK',hC⟩;have H1:=AA (And.intro (hK'.more (show n+(3:Nat)+4<=n+7 by omega)) hC);clear hK' hC C;go_wp2_with fail;exact bodyPost_ret (v:=.tuple #[.int .i64 b,.bool true]) (by simp[results,results9,go_sem]) rfl ⟨b,q',rfl,(A8 H1).1,(A8 H1).2⟩
