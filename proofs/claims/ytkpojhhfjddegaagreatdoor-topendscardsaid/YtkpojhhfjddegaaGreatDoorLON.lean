/-
  Part.
-/
import Derived.Test.YtkpojhhfjddegaaGreatDoorLOM
set_option maxRecDepth 20000
set_option maxHeartbeats 8000000
namespace Go.Proofs.YtkpojhhfjddegaaGreatDoor
open Go.RowKit Go.Proofs.Tryz
open _root_.Nat renaming le_refl->A8,lt_of_lt_of_le->AY,zero_le->AZ,le_trans->BP
open Go.RowKit.Below renaming refl->AA
open _root_.Array renaming getElem?_eq_some_iff->AL
open _root_.List renaming getElem?_eq_getElem->AO,getElem?_eq_some_iff->AV,mem_of_getElem?->BA,mem_cons->BR,mem_append->D8,mem_map->F5
open Go.World renaming cell?->AX
open _root_.And renaming intro->DJ
open Go.Value renaming slice->FV
open Go.Obj renaming cells->FW
open Go renaming World->FX,Value->FZ,Calls->G5
open _root_.Option renaming none->G6,some->G7
variable{t:Tr}{x:GU}{E z more:Int}{p:List UInt8}{ns:List Nd}{n:Nd}{F:Nat->Prop}{b q k B:Nat}{w w' W V:FX}{e:Ending}{P:Prop}{ss:List Int}{vn vs:FZ}
def pI(t:Tr)(x:GU):Int:=if nI t x≠0 then nI t x else if Z5 (iK t x)=true then 6 else 0
theorem BO0(h:WY t x≠0):Z7 t x=WY t x:=by rw[Z7,if_pos h]
theorem AD7(h:WY t x=0):Z7 t x=pI t x:=by rw[Z7,if_neg (by omega),pI]
theorem QV(h:nI t x=E)(h0:E≠0):pI t x=E:=by rw[pI,if_pos (by omega),h]
theorem kZ(h:nI t x=0)(hf:Z5 (iK t x)=true):pI t x=6:=by rw[pI,if_neg (by omega),if_pos hf]
theorem fE(h:nI t x=0)(hf:Z5 (iK t x)=false):pI t x=0:=by rw[pI,if_neg (by omega),if_neg (by simp[hf])]
theorem sN(p:List UInt8)(z more:Int)(ns:List Nd):(OE p z more ns).length=ns.length:=by rw[OE,List.length_map]
theorem AO4(h:n∈OE p z more ns):∃m∈ns,n=(if m.p=p then bump z more m else m):=by
 rw[OE]at h;obtain⟨m,hm,rfl⟩:=F5.1 h;exact⟨m,hm,rfl⟩
theorem AO5{m:Nd}(h:m∈ns)(hp:m.p=p):bump z more m∈OE p z more ns:=by
 rw[OE];exact F5.2 ⟨m,h,by rw[if_pos hp]⟩
theorem B46{u:Nd}(h:u∈ns)(hp:u.p=p)(hk:u.k=2147483647):Z5 (OE p z more ns)=true:=
 oK.2 ⟨_,AO5 h hp,by show 2147483647<u.k+1;omega⟩
theorem B47{u:Nd}(ha:uX ns)(h:u∈ns)(hp:u.p=p)(hk:u.k<2147483647)(hc:∀n∈ns,n.k<=2147483647):Z5 (OE p z more ns)=false:=by
 rw[OT];intro n hn;obtain⟨m,hm,rfl⟩:=AO4 hn
 split
 .rename_i e
  have:m=u:=V9 ha hm h (by rw[e,hp]);subst this;show m.k+1<=_;omega
 .exact hc m hm
def Chg(F:Nat->Prop)(b:Nat)(t:Tr)(x:GU)(w:FX)(e:Ending)(w':FX):Prop:=
 e=.returned (I0 (pI t x))/\Touch F w w'/\(pI t x=0->∃vn vs ve,Grow w' F b x.z vn vs ve (iK t x) (rE t x) (rF t x))
theorem Chg.no(h:e=.returned (I0 E)/\Touch F w w')(hE:pI t x=E)(h0:E≠0):Chg F b t x w e w':=
 ⟨by rw[hE];exact h.1,h.2,fun h'=>by omega⟩
theorem C74(F:Nat->Prop)(b:Nat)(t:Tr)(vn vs ve:FZ)(x:GU)(w:FX)(h:Grow w F b x.z vn vs ve t.ns t.ss [])(hF:∀k,w.heap.size<=k->F k)(ha:WY t x=0)(ho:x.o=3):
  G5 prog 195 #[P0 b,JA x] w (Chg F b t x w):=by
 obtain⟨g,hg,hz,h1,h2⟩:=QT ha;have f:=ZT hg;obtain⟨hp1,hp2⟩:=f.path (.inl ho);have hpl:=MR hp1;have hdl:=f.d;have hdo:=XK x.p;have hE:nI t x=AK6 t x:=by rw[nI,if_pos ho]
 have hN:iK t x=vS x.z t.ns (AB0 x):=by rw[iK,if_neg (by omega),if_pos ho]
 have hS:rE t x=t.ss:=by rw[rE,if_neg (by omega),if_neg (by omega)]
 have hV:rF t x=[⟨1,x.p⟩,⟨4,IQ x.p⟩]:=by rw[rF,if_neg (by omega),if_pos ho]
 have few:=g.nod.few;rcases ZB x.p t.ns g.nod.asc with⟨A,n,B,T⟩|⟨A,B,G⟩
 .refine(B39 F b x.z vn vs ve t.ns A B n t.ss [] x w h T few g.nod.asc).mono fun e w' q=>Chg.no q ?_ (by decide);exact QV (by rw[hE,AK6,T.look,if_pos (by rfl)]) (by decide)
 .rcases ZB (IQ x.p) t.ns g.nod.asc with⟨A',u,B',U⟩|⟨A',B',U⟩
  .by_cases hu:u.o=0
   .have hum:u∈t.ns:=by rw[U.eq];simp
    have ku:=g.nod.ok u hum;have hkc:=g.cap u hum;have hkn:=ku.kids;have hkl:OA t.ns u.p<=t.ns.length:=List.countP_le_length;by_cases hw:x.w=0\/x.w=x.s
    .by_cases hf:t.ns.length=400
     .have hc:AK6 t x=6:=by
       rw[AK6,G.look,if_neg (by simp),U.look];simp only;rw[if_neg (by omega),if_neg (by rintro⟨a,c⟩;rcases hw with e|e<;>omega),if_pos hf]
      by_cases hw0:x.w=0
      .exact(B41 F b x.z vn vs ve t.ns A B A' B' u t.ss [] x w h G U hu hw0 hf).mono fun e w' q=>Chg.no q (QV (by rw[hE,hc]) (by decide)) (by decide)
      .exact(B42 F b x.z vn vs ve t.ns A B A' B' u t.ss [] x w h G U hu hw0 (by omega) hf).mono fun e w' q=>Chg.no q (QV (by rw[hE,hc]) (by decide)) (by decide)
     .have hc:AK6 t x=0:=by
       rw[AK6,G.look,if_neg (by simp),U.look];simp only;rw[if_neg (by omega),if_neg (by rintro⟨a,c⟩;rcases hw with e|e<;>omega),if_neg hf]
      have gn:QC x.z t.ns t.ss:=g.nod.mono (by omega);have hsm:x.s∈t.ss:=h2 (by omega);have ga:=AA9 (x:=AB0 x) gn G (by omega) hp1 hp2 ⟨u,hum,U.nm,hu⟩ f.d f.z.1 rfl rfl rfl rfl rfl rfl (by
       rcases hw with c|c
       .exact .inl c
       .exact .inr (by show x.w∈t.ss;rw[c];exact hsm))
      have hins:CV3 t.ns (AB0 x)=A++AB0 x::B:=G.ins;have hasc:uX (A++AB0 x::B):=by
       have:=(OX _).1 ga.asc;rw[vS,XJ,hins]at this;exact(OX _).2 this
      have CY2:u∈A++AB0 x::B:=by
       have:=hum;rw[G.eq]at this;rcases D8.1 this with e|e<;>simp[e]
      obtain⟨A2,B2,U2⟩:∃A2 B2,KL (A++AB0 x::B) A2 u B2 (IQ x.p):=by
       rw[<-U.nm];exact SQ hasc (bD hasc CY2)
      have hlen:(A++AB0 x::B).length<=400:=by rw[<-hins,<-sN (IQ x.p) x.z 1];exact ga.few
      by_cases hk:u.k=2147483647
      .have hfu:pI t x=6:=kZ (by rw[hE,hc]) (by rw[hN,vS,hins];exact B46 CY2 U.nm hk);have P:∀W vn' ve',Grow W F b x.z vn' vs ve' (A++AB0 x::B) t.ss ([]++[⟨1,x.p⟩])->w.heap.size<=W.heap.size->Touch F w W->G5 prog 228 #[P0 b,S0 (IQ x.p),I0 1] W fun e w'=>e=.returned (I0 6)/\Touch F w w':=by
        intro W vn' ve' hG hs ht;refine(kW F b x.z vn' vs ve' _ A2 B2 u t.ss _ (IQ x.p) 1 W hG U2 hlen hk).mono ?_;rintro e w' ⟨rfl,t'⟩;exact⟨rfl,ht.trans t'⟩
       exact(AD6 F b x.z vn vs ve t.ns A B A' B' u 6 _ t.ss [] x w h hF G U few hu hw (by omega) (by omega) (by omega) (by simp) P).mono fun e w' q=>Chg.no q hfu (by decide)
      .have CY3:∀n∈A++AB0 x::B,n.k<=2147483647:=by
        intro n hn;rcases D8.1 hn with e|e
        .exact g.cap n (by rw[G.eq];simp[e])
        .rcases BR.1 e with rfl|e
         .show (0:Int)<=_;decide
         .exact g.cap n (by rw[G.eq];simp[e])
       have hfu:pI t x=0:=fE (by rw[hE,hc]) (by rw[hN,vS,hins];exact B47 hasc CY2 U.nm (by omega) CY3);have P:∀W vn' ve',Grow W F b x.z vn' vs ve' (A++AB0 x::B) t.ss ([]++[⟨1,x.p⟩])->w.heap.size<=W.heap.size->Touch F w W->G5 prog 228 #[P0 b,S0 (IQ x.p),I0 1] W fun e w'=>e=.returned (I0 0)/\((∃vn' ve',Grow w' F b x.z vn' vs ve' (iK t x) t.ss (rF t x))/\Touch F w w'):=by
        intro W vn' ve' hG hs ht;refine(xJ F b x.z vn' vs ve' _ A2 B2 u t.ss _ (IQ x.p) 1 W hG (fun k hk=>hF k (by omega)) U2 hlen ⟨ku.k0,by omega⟩ (by omega) (by omega) (by omega) (by simp)).mono ?_;rintro e w' ⟨rfl,ve2,g',t'⟩;refine⟨rfl,⟨vn',ve2,?_⟩,ht.trans t'⟩;have e1:iK t x=A2++bump x.z 1 u::B2:=by
         rw[hN,vS,hins];exact U2.bump x.z 1
        rw[e1,hV];exact g'
       have fin:∀ (e:Ending) (w':FX),(e=.returned (I0 0)/\((∃vn' ve',Grow w' F b x.z vn' vs ve' (iK t x) t.ss (rF t x))/\Touch F w w'))->Chg F b t x w e w':=by
        rintro e w' ⟨rfl,⟨vn',ve',g'⟩,t'⟩;exact⟨by rw[hfu],t',fun _=>⟨vn',vs,ve',by rw[hS];exact g'⟩⟩
       exact(AD6 F b x.z vn vs ve t.ns A B A' B' u 0 _ t.ss [] x w h hF G U few hu hw (by omega) (by omega) (by omega) (by simp) P).mono fin
    .have hw1:x.w≠0:=fun e=>hw (.inl e);have hw2:x.w≠x.s:=fun e=>hw (.inr e);refine(C73 F b x.z vn vs ve t.ns A B A' B' u t.ss [] x w h G U few hu hw1 hw2).mono fun e w' q=>Chg.no q ?_ (by decide);refine QV ?_ (by decide);rw[hE,AK6,G.look,if_neg (by simp),U.look];simp only;rw[if_neg (by omega),if_pos ⟨hw1,hw2⟩]
   .refine(B40 F b x.z vn vs ve t.ns A B A' B' u t.ss [] x w h G U few hu).mono fun e w' q=>Chg.no q ?_ (by decide);refine QV ?_ (by decide);rw[hE,AK6,G.look,if_neg (by simp),U.look];simp only;rw[if_pos hu]
  .refine(BN6 F b x.z vn vs ve t.ns A B A' B' t.ss [] x w h G U few).mono fun e w' q=>Chg.no q ?_ (by decide);refine QV ?_ (by decide);rw[hE,AK6,G.look,if_neg (by simp),U.look]
theorem C75(F:Nat->Prop)(b:Nat)(t:Tr)(vn vs ve:FZ)(x:GU)(w:FX)(h:Grow w F b x.z vn vs ve t.ns t.ss [])(hF:∀k,w.heap.size<=k->F k)(ha:WY t x=0)(ho:x.o=4):
  G5 prog 196 #[P0 b,S0 x.p] w (Chg F b t x w):=by
 obtain⟨g,hg,hz,h1,h2⟩:=QT ha;have f:=ZT hg;obtain⟨hp1,hp2⟩:=f.path (.inr ho);have hpl:=MR hp1;have hdo:=XK x.p;have few:=g.nod.few;have hE:nI t x=BJ2 t x:=by rw[nI,if_neg (by omega),if_pos ho]
 have hN:iK t x=rmN x.z t.ns x.p:=by rw[iK,if_neg (by omega),if_neg (by omega),if_pos ho]
 have hS:rE t x=t.ss:=by rw[rE,if_neg (by omega),if_neg (by omega)]
 have hV:rF t x=[⟨2,x.p⟩,⟨4,IQ x.p⟩]:=by rw[rF,if_neg (by omega),if_neg (by omega),if_pos ho]
 rcases ZB x.p t.ns g.nod.asc with⟨A,n,B,T⟩|⟨A,B,G⟩
 .have hn:n∈t.ns:=by rw[T.eq];simp
  by_cases hk:n.n=0
  .have hd0:BJ2 t x=0:=by rw[BJ2,T.look];simp only;rw[if_neg (by omega)]
   have gn:QC x.z t.ns t.ss:=g.nod.mono (by omega);obtain⟨u,hu1,hu2,hu3,hu4,hu5⟩:=AY6 gn hn (by rw[T.nm];exact hp2);rw[T.nm]at hu1 hu3 hu4;obtain⟨A',B',T'⟩:=oN gn.asc T hu2 hu3 hu4;have ku:=gn.ok u hu2;have hkc:=g.cap u hu2;have hkn:=ku.kids;have hkl:OA t.ns u.p<=t.ns.length:=List.countP_le_length;by_cases hf:u.k=2147483647
   .refine(kY F b x.z vn vs ve t.ns A B A' B' n u t.ss [] x.p w h hF T T' few hk hf (by omega) (by simp)).mono fun e w' q=>Chg.no q ?_ (by decide);exact kZ (by rw[hE,hd0]) (by rw[hN];exact AZ1 hu2 hu3 hu4 hf [] (by simp))
   .refine(xK F b x.z vn vs ve t.ns A B A' B' n u t.ss [] x.p w h hF T T' few hk ⟨ku.k0,by omega⟩ (by omega) (by omega) (by omega) (by simp)).mono ?_;rintro e w' ⟨rfl,vn',ve',g',t'⟩;have hc:pI t x=0:=fE (by rw[hE,hd0]) (by rw[hN,OT];exact BZ7 gn.asc hu2 hu3 (by omega) g.cap);exact⟨by rw[hc],t',fun _=>⟨vn',vs,ve',by rw[hN,hS,hV];exact g'⟩⟩
  .refine(A43 F b x.z vn vs ve t.ns A B n t.ss [] x.p w h T few hk).mono fun e w' q=>Chg.no q ?_ (by decide);exact QV (by rw[hE,BJ2,T.look];simp only;rw[if_pos hk]) (by decide)
 .refine(AO2 F b x.z vn vs ve t.ns A B t.ss [] x.p w h G few).mono fun e w' q=>Chg.no q ?_ (by decide);exact QV (by rw[hE,BJ2,G.look]) (by decide)
theorem C76(F:Nat->Prop)(b:Nat)(t:Tr)(vn vs ve:FZ)(x:GU)(w:FX)(h:Grow w F b x.z vn vs ve t.ns t.ss [])(hF:∀k,w.heap.size<=k->F k)(ha:WY t x=0)(ho:x.o=5):
  G5 prog 197 #[P0 b,JA x] w (Chg F b t x w):=by
 obtain⟨g,hg,hz,h1,h2⟩:=QT ha;have f:=ZT hg;have hpl:=MR (f.CX4 ho);have hdl:=f.d;have few:=g.nod.few;have hE:nI t x=CI5 t x:=by rw[nI,if_neg (by omega),if_neg (by omega),if_pos ho]
 have hN:iK t x=AY4 x.p x.d x.v x.z t.ns:=by rw[iK,if_neg (by omega),if_neg (by omega),if_neg (by omega),if_pos ho]
 have hS:rE t x=t.ss:=by rw[rE,if_neg (by omega),if_neg (by omega)]
 have hV:rF t x=[⟨3,x.p⟩]:=by rw[rF,if_neg (by omega),if_neg (by omega),if_neg (by omega),if_pos ho]
 rcases ZB x.p t.ns g.nod.asc with⟨A,n,B,T⟩|⟨A,B,G⟩
 .have hn:n∈t.ns:=by rw[T.eq];simp
  have kn:=g.nod.ok n hn;by_cases hv:x.v=n.v+1
  .refine(CM5 F b x.z vn vs ve t.ns A B n t.ss [] x w h hF T few ⟨kn.v0,kn.v1⟩ (by omega) (by omega) (by simp) hv).mono ?_;rintro e w' ⟨rfl,ve',g',t'⟩;have hc:pI t x=0:=fE (by rw[hE,CI5,T.look];simp only;rw[if_neg (by omega)]) (by
    rw[hN,OT];intro m hm;rw[AY4]at hm;obtain⟨m',hm',rfl⟩:=F5.1 hm
    split
    .exact g.cap m' hm'
    .exact g.cap m' hm')
   exact⟨by rw[hc],t',fun _=>⟨vn,vs,ve',by rw[hN,hS,hV,T.put];exact g'⟩⟩
  .refine(C72 F b x.z vn vs ve t.ns A B n t.ss [] x w h hF T few ⟨kn.v0,kn.v1⟩ (by omega) (by omega) (by simp) hv).mono fun e w' q=>Chg.no q ?_ (by decide);exact QV (by rw[hE,CI5,T.look];simp only;rw[if_pos hv]) (by decide)
 .refine(C71 F b x.z vn vs ve t.ns A B t.ss [] x w h G few).mono fun e w' q=>Chg.no q ?_ (by decide);exact QV (by rw[hE,CI5,G.look]) (by decide)
theorem C77(F:Nat->Prop)(b:Nat)(t:Tr)(vn vs ve:FZ)(x:GU)(w:FX)(h:Grow w F b x.z vn vs ve t.ns t.ss [])(hF:∀k,w.heap.size<=k->F k)(ha:WY t x=0)(ho:x.o=2):
  G5 prog 194 #[P0 b,I0 x.s] w (Chg F b t x w):=by
 obtain⟨g,hg,hz,h1,h2⟩:=QT ha;have f:=ZT hg;have gn:QC x.z t.ns t.ss:=g.nod.mono (by omega);have hE:nI t x=0:=by rw[nI,if_neg (by omega),if_neg (by omega),if_neg (by omega)]
 have hN:iK t x=RX x.z t.ns (OY t.ns x.s):=by rw[iK,if_pos ho]
 have hS:rE t x=AK5 t.ss x.s:=by rw[rE,if_neg (by omega),if_pos ho]
 have hV:rF t x=AY8 (OY t.ns x.s):=by rw[rF,if_pos ho]
 have hm:=h2 (by omega);rcases vP x.s t.ss g.ses.1 with⟨A,B,T⟩|⟨A,B,G⟩
 .refine(B45 F b x.z vn vs ve t.ns t.ss A B t.ss x.s w h hF T (UF g.ses) ⟨gn,oL gn (by have:=f.s;omega),g.cap⟩).mono ?_;rintro e w' (⟨hf,rfl,t'⟩|⟨hf,rfl,vn',vs',ve',g',t'⟩)
  .exact Chg.no ⟨rfl,t'⟩ (kZ hE (by rw[hN];exact hf)) (by decide)
  .have hc:pI t x=0:=fE hE (by rw[hN];exact hf);exact⟨by rw[hc],t',fun _=>⟨vn',vs',ve',by rw[hN,hS,hV,T.drop];exact g'⟩⟩
 .exact absurd hm G.not
theorem C78(F:Nat->Prop)(b:Nat)(t:Tr)(vn vs:FZ)(x:GU)(w:FX)(h:Grow w F b x.z vn vs (N0) t.ns t.ss [])(hF:∀k,w.heap.size<=k->F k)(ha:WY t x=0)(ho:x.o=1):
  G5 prog 193 #[P0 b,I0 x.s] w fun e w'=>e=.returned (.tuple #[])/\Chg F b t x w (.returned (I0 0)) w':=by
 obtain⟨g,hg,hz,h1,h2⟩:=QT ha;have f:=ZT hg;have hE:nI t x=0:=by rw[nI,if_neg (by omega),if_neg (by omega),if_neg (by omega)]
 have hN:iK t x=t.ns:=by rw[iK,if_neg (by omega),if_neg (by omega),if_neg (by omega),if_neg (by omega)]
 have hS:rE t x=C44 t.ss x.s:=by rw[rE,if_pos ho]
 have hV:rF t x=[]:=by rw[rF,if_neg (by omega),if_neg (by omega),if_neg (by omega),if_neg (by omega)]
 have hm:=h1 ho;rcases vP x.s t.ss g.ses.1 with⟨A,B,T⟩|⟨A,B,G⟩
 .exact absurd T.mem hm
 .have hl:t.ss.length<=2147483646:=by
   have h3:=UF (AA8 g.ses f.s hm);rw[G.ins]at h3;rw[G.eq];simp at h3⊢;omega
  refine(BN8 F b x.z vn vs _ t.ns t.ss A B [] x.s w h hF G hl).mono ?_;rintro e w' ⟨rfl,vs',g',t'⟩;have hc:pI t x=0:=fE hE (by rw[hN,OT];exact g.cap);exact⟨rfl,by rw[hc],t',fun _=>⟨vn,vs',_,by rw[hN,hS,hV,G.ins];exact g'⟩⟩
theorem Chg.boxed{o:Obj}(h:Chg F b t x (w.alloc o) e w'):Chg F b t x w e w':=
 ⟨h.1,(Touch.of_below (GH w o)).trans h.2.1,h.2.2⟩
theorem AO6(F:Nat->Prop)(b:Nat)(t:Tr)(vn vs:FZ)(x:GU)(w:FX)(h:Grow w F b x.z vn vs (N0) t.ns t.ss [])(hF:∀k,w.heap.size<=k->F k)(ha:WY t x=0)(ho:x.o=1):
  G5 prog 167 #[P0 b,JA x] w (Chg F b t x w):=by
 have C:=C78 F b t vn vs x (w.alloc (FW #[I0 x.z,I0 x.o,I0 x.s,S0 x.p,S0 x.d,I0 x.v,I0 x.w] 83)) (h.next (GH _ _)) (fun k hk=>hF k (by simp at hk;omega)) ha ho;clear h hF ha;have HO:=G9 ho;obtain⟨xz,xo,xs,xp,xd,xv,xw⟩:=x;unfold JA;simp only at C ho⊢;subst ho;have HC:=G9 C;clear C;go_enter func167,ntmps167;go_wp2_with fail;refine(G8 HC).mono ?_;rintro e w1 ⟨rfl,hc⟩;have HQ:=G9 hc.boxed;clear hc HC;go_wp2_with fail;go_ret;exact G8 HQ
theorem AO7(F:Nat->Prop)(b:Nat)(t:Tr)(vn vs:FZ)(x:GU)(w:FX)(h:Grow w F b x.z vn vs (N0) t.ns t.ss [])(hF:∀k,w.heap.size<=k->F k)(ha:WY t x=0)(ho:x.o=2):
  G5 prog 167 #[P0 b,JA x] w (Chg F b t x w):=by
 have C:=C77 F b t vn vs _ x (w.alloc (FW #[I0 x.z,I0 x.o,I0 x.s,S0 x.p,S0 x.d,I0 x.v,I0 x.w] 83)) (h.next (GH _ _)) (fun k hk=>hF k (by simp at hk;omega)) ha ho;clear h hF ha;have HO:=G9 ho;obtain⟨xz,xo,xs,xp,xd,xv,xw⟩:=x;unfold JA;simp only at C ho⊢;subst ho;have HC:=G9 C;clear C;go_enter func167,ntmps167;go_wp2_with fail;refine(G8 HC).mono ?_;rintro e w1 hc;obtain⟨rfl,hc'⟩:=hc.boxed;have HQ:=G9 hc';clear hc hc' HC;go_wp2_with fail;go_ret;exact⟨rfl,G8 HQ⟩
theorem AO8(F:Nat->Prop)(b:Nat)(t:Tr)(vn vs:FZ)(x:GU)(w:FX)(h:Grow w F b x.z vn vs (N0) t.ns t.ss [])(hF:∀k,w.heap.size<=k->F k)(ha:WY t x=0)(ho:x.o=3):
  G5 prog 167 #[P0 b,JA x] w (Chg F b t x w):=by
 have C:=C74 F b t vn vs _ x (w.alloc (FW #[I0 x.z,I0 x.o,I0 x.s,S0 x.p,S0 x.d,I0 x.v,I0 x.w] 83)) (h.next (GH _ _)) (fun k hk=>hF k (by simp at hk;omega)) ha ho;clear h hF ha;have HO:=G9 ho;obtain⟨xz,xo,xs,xp,xd,xv,xw⟩:=x;unfold JA at C⊢;simp only at C ho⊢;subst ho;have HC:=G9 C;clear C;go_enter func167,ntmps167;go_wp2_with fail;refine(G8 HC).mono ?_;rintro e w1 hc;obtain⟨rfl,hc'⟩:=hc.boxed;have HQ:=G9 hc';clear hc hc' HC;go_wp2_with fail;go_ret;exact⟨rfl,G8 HQ⟩
theorem AO9(F:Nat->Prop)(b:Nat)(t:Tr)(vn vs:FZ)(x:GU)(w:FX)(h:Grow w F b x.z vn vs (N0) t.ns t.ss [])(hF:∀k,w.heap.size<=k->F k)(ha:WY t x=0)(ho:x.o=4):
  G5 prog 167 #[P0 b,JA x] w (Chg F b t x w):=by
 have C:=C75 F b t vn vs _ x (w.alloc (FW #[I0 x.z,I0 x.o,I0 x.s,S0 x.p,S0 x.d,I0 x.v,I0 x.w] 83)) (h.next (GH _ _)) (fun k hk=>hF k (by simp at hk;omega)) ha ho;clear h hF ha;have HO:=G9 ho;obtain⟨xz,xo,xs,xp,xd,xv,xw⟩:=x;unfold JA;simp only at C ho⊢;subst ho;have HC:=G9 C;clear C;go_enter func167,ntmps167;go_wp2_with fail;refine(G8 HC).mono ?_;rintro e w1 hc;obtain⟨rfl,hc'⟩:=hc.boxed;have HQ:=G9 hc';clear hc hc' HC;go_wp2_with fail;go_ret;exact⟨rfl,G8 HQ⟩
theorem AP0(F:Nat->Prop)(b:Nat)(t:Tr)(vn vs:FZ)(x:GU)(w:FX)(h:Grow w F b x.z vn vs (N0) t.ns t.ss [])(hF:∀k,w.heap.size<=k->F k)(ha:WY t x=0)(ho:x.o=5):
  G5 prog 167 #[P0 b,JA x] w (Chg F b t x w):=by
 have C:=C76 F b t vn vs _ x (w.alloc (FW #[I0 x.z,I0 x.o,I0 x.s,S0 x.p,S0 x.d,I0 x.v,I0 x.w] 83)) (h.next (GH _ _)) (fun k hk=>hF k (by simp at hk;omega)) ha ho;clear h hF ha;have HO:=G9 ho;obtain⟨xz,xo,xs,xp,xd,xv,xw⟩:=x;unfold JA at C⊢;simp only at C ho⊢;subst ho;have HC:=G9 C;clear C;go_enter func167,ntmps167;go_wp2_with fail;refine(G8 HC).mono ?_;rintro e w1 hc;obtain⟨rfl,hc'⟩:=hc.boxed;have HQ:=G9 hc';clear hc hc' HC;go_wp2_with fail;go_ret;exact⟨rfl,G8 HQ⟩
theorem AP1(F:Nat->Prop)(b:Nat)(t:Tr)(vn vs:FZ)(x:GU)(w:FX)(h:Grow w F b x.z vn vs (N0) t.ns t.ss [])(hF:∀k,w.heap.size<=k->F k)(ha:WY t x=0):
  G5 prog 167 #[P0 b,JA x] w (Chg F b t x w):=by
 have f:=(ZT (QT ha).2.1).op;by_cases h1:x.o=1
 .exact AO6 F b t vn vs x w h hF ha h1
 .by_cases h2:x.o=2
  .exact AO7 F b t vn vs x w h hF ha h2
  .by_cases h3:x.o=3
   .exact AO8 F b t vn vs x w h hF ha h3
   .by_cases h4:x.o=4
    .exact AO9 F b t vn vs x w h hF ha h4
    .exact AP0 F b t vn vs x w h hF ha (by omega)
noncomputable def pd(P:Prop):Bool:= @decide P (Classical.propDecidable _)
theorem TS(h:P):pd P=true:=by unfold pd;exact @decide_eq_true _ (Classical.propDecidable _) h
theorem TA(h:¬P):pd P=false:=by unfold pd;exact @decide_eq_false _ (Classical.propDecidable _) h
theorem C03:pd P=true↔P:=by unfold pd;exact @decide_eq_true_iff _ (Classical.propDecidable _)
theorem JG{a b:Bool}(h:a=b):Ending.returned (.bool a)=.returned (.bool b):=by rw[h]
structure AD8(ns:List Nd):Prop where
 few:ns.length<=400
 root:∃r rest,ns=r::rest/\r.p=[47]
 asc:uX ns
def BO1(ns:List Nd)(p:List UInt8):Prop:=(LW ns (IQ p)).isSome=true\/AU7 p=7
structure gX(z:Int)(n:Nd)(ks:Int)(ss:List Int):Prop where
 c0:0<=n.c
 cm:n.c<=n.m
 cq:n.c<=n.q
 mz:n.m<=z
 qz:n.q<=z
 v0:0<=n.v
 v1:n.v<=2147483647
 k0:0<=n.k
 k1:n.k<=2147483647
 kids:n.n=ks
 own:n.o=0\/ks=0/\n.o∈ss
structure BO2(z:Int)(ns:List Nd)(ss:List Int)(n:Nd):Prop where
 data:n.d.length<=256
 held:BO1 ns n.p
 sound:gX z n (OA ns n.p) ss
theorem CM8{q:List UInt8}(h:bl [47] q=true):q≠[]:=by rintro rfl;simp[bl,Op.bytesLess]at h
theorem xO(h:AD8 ns)(hn:n∈ns):n.p≠[]:=by
 obtain⟨r,rest,rfl,hr⟩:=h.root;rcases BR.1 hn with rfl|hn
 .rw[hr];simp
 .have:=(List.pairwise_cons.1 h.asc).1 n hn;rw[hr]at this;exact CM8 this
theorem YW:SN t↔KP t.z=true/\AD8 t.ns/\rD t.ss/\(∀n∈t.ns,BO2 t.z t.ns t.ss n)/\∀r,t.ns[0]?=G7 r->r.o=0:=by
 constructor
 .intro g;obtain⟨r,rest,hr,hp,ho⟩:=g.nod.root;refine⟨g.zx,⟨g.nod.few,⟨r,rest,hr,hp⟩,g.nod.asc⟩,g.ses,fun n hn=>?_,fun r' h=>by rw[hr]at h;simp at h;rw[<-h];exact ho⟩;have k:=g.nod.ok n hn;refine⟨k.data,?_,⟨k.c0,k.cm,k.cq,k.mz,k.qz,k.v0,k.v1,k.k0,g.cap n hn,k.kids,?_⟩⟩
  .by_cases h:n.p=[47]
   .exact .inr (by rw[h];exact vO)
   .obtain⟨u,hu,he⟩:=k.up h;exact .inl (by rw[<-he,bD g.nod.asc hu];rfl)
  .rcases k.own with h|⟨h1,h2⟩
   .exact .inl h
   .exact .inr ⟨by rw[<-k.kids];exact h2,h1⟩
 .rintro⟨hz,ho,hs,hp,hr⟩;refine⟨hz,hs,⟨ho.few,?_,ho.asc,fun n hn=>?_⟩,fun n hn=>(hp n hn).sound.k1⟩
  .obtain⟨r,rest,h1,h2⟩:=ho.root;exact⟨r,rest,h1,h2,hr r (by rw[h1];rfl)⟩
  .have k:=hp n hn;have s:=k.sound;have hg:J7 n.p=true/\(n.p≠[47]->∃u∈t.ns,u.p=IQ n.p):=by
    rcases k.held with h|h
    .obtain⟨u,hu⟩:=Option.isSome_iff_exists.1 h;obtain⟨hu1,hu2⟩:=YO hu;have hne:IQ n.p≠[]:=by rw[<-hu2];exact xO ho hu1
     cases hb:J7 n.p with
     |false=>exact absurd (bC hb) hne
     |true=>exact⟨rfl,fun _=>⟨u,hu1,hu2⟩⟩
    .cases hb:J7 n.p with
     |false=>rw[AA6 hb]at h;omega
     |true=>
      by_cases h1:n.p=[47]
      .exact⟨rfl,fun h2=>absurd h1 h2⟩
      .rw[AY3 hb h1]at h;omega
   refine⟨k.data,hg.1,hg.2,s.c0,s.cm,s.cq,s.mz,s.qz,s.v0,s.v1,s.k0,s.kids,?_⟩;rcases s.own with h|⟨h1,h2⟩
   .exact .inl h
   .exact .inr ⟨h2,by rw[s.kids];exact h1⟩
def AD9(ns:List Nd)(k:Nat):Prop:=∀i,i<k->∀a b,ns[i]?=G7 a->ns[i+1]?=G7 b->bl a.p b.p=true
theorem B48(h:AD9 ns k){a b:Nd}(ha:ns[k]?=G7 a)(hb:ns[k+1]?=G7 b)(hl:bl a.p b.p=true):AD9 ns (k+1):=by
 intro i hi x y hx hy;by_cases e:i=k
 .subst e;rw[ha]at hx;rw[hb]at hy;cases hx;cases hy;exact hl
 .exact h i (by omega) x y hx hy
theorem A45(h:AD9 ns k)(hk:ns.length<=k+1):uX ns:=by
 have step:∀j i,(hij:i<j)->∀ (hj:j<ns.length),bl (ns[i]'(Nat.lt_trans hij hj)).p ns[j].p=true:=by
  intro j
  induction j with
  |zero=>intro i hi;omega
  |succ j ih=>
   intro i hi hj;have h1:=h j (by omega) ns[j] ns[j+1] (by simp) (by simp);by_cases e:i=j
   .subst e;exact h1
   .exact SI _ _ _ (ih i (by omega) (by omega)) h1
 exact List.pairwise_iff_getElem.2 fun i j hi hj hij=>step j i hij hj
theorem BO3(h:uX ns){i:Nat}{a b:Nd}(ha:ns[i]?=G7 a)(hb:ns[i+1]?=G7 b):bl a.p b.p=true:=by
 obtain⟨h1,rfl⟩:=AV.1 ha;obtain⟨h2,rfl⟩:=AV.1 hb;exact List.pairwise_iff_getElem.1 h i (i+1) h1 h2 (by omega)
theorem ZY(v:FZ)(ns:List Nd)(w:FX)(hv:IK w v ns):
  G5 prog 158 #[v] w (R0 w (.bool (pd (AD8 ns)))):=by
 rcases hv with⟨a,cap,rfl,rfl,_⟩|⟨b,off,cap,rfl,hle,hm,hb,hne,hr⟩
 .have F:=G9 (TA (P:=AD8 []) (fun h=>by obtain⟨r,rest,h,_⟩:=h.root;cases h)).symm;go_enter func158,ntmps158;go_wp2_with fail;go_ret;exact⟨JG (G8 F),AA _ _⟩
 .obtain⟨r,rest,rfl⟩:∃r rest,ns=r::rest:=by
   cases ns with
   |nil=>exact absurd rfl hne
   |cons r rest=>exact⟨r,rest,rfl⟩
  have e0:=hr.n0 (i:=0) (x:=r) rfl;have H:=G9 hr;simp only[List.length_cons]at hle⊢;simp only[maxLen]at hm;clear hr hne;by_cases hl:rest.length+1<=400
  .by_cases hp:r.p=[47]
   .have hp2:(r.p==[47])=true:=by rw[hp];rfl
    have HL:=G9 hl;have HP:=G9 hp;clear hp;simp only[Nat.zero_mul,Nat.add_zero]at e0;by_cases hc1:cap=1
    .obtain rfl:rest=[]:=List.eq_nil_of_length_eq_zero (by omega);subst hc1;have T:=G9 (TS (P:=AD8 [r]) ⟨by simp,⟨r,[],rfl,G8 HP⟩,List.pairwise_singleton _ _⟩).symm;clear hle hl;simp only[List.length_nil];go_enter func158,ntmps158;go_wp2_with fail
     go_loopg [23] 1 (fun _ s23 wr=>s23=I0 0/\wr=w)
     case atStart=>exact⟨rfl,rfl⟩
     case round=>
      obtain⟨rfl,rfl⟩:=hrel;go_wp2_with fail;go_ret;exact⟨JG (G8 T),AA _ _⟩
    .go_enter func158,ntmps158;go_wp2_with fail
     go_loopg [23] rest.length (fun kx s23 wr=>∃k:Nat,s23=I0 k/\k<=rest.length/\rest.length-k<=kx/\Hid (B0 w wr)/\Hid (AD9 (r::rest) k))
     case atStart=>exact⟨0,rfl,AZ _,A8 _,G9 (AA _ _),G9 (fun i hi=>absurd hi (Nat.not_lt_zero _))⟩
     case round=>
      obtain⟨k,rfl,hk,hg,hB,hR⟩:=hrel;by_cases hlt:k<rest.length
      .obtain⟨x,hx⟩:∃x,(r::rest)[k+1]?=G7 x:=⟨_,AO (by simp;omega)⟩;obtain⟨y,hy⟩:∃y,(r::rest)[k]?=G7 y:=⟨_,AO (by simp;omega)⟩;have q:=(G8 H).kept (G8 hB) hb;have d0:=q.n0 hx;have d1:=q.n1 hx;have d2:=q.n2 hx;have d3:=q.n3 hx;have d4:=q.n4 hx;have d5:=q.n5 hx;have d6:=q.n6 hx;have d7:=q.n7 hx;have d8:=q.n8 hx;have c0:=q.n0 hy;have hbw:b<wr.heap.size:=AY hb (G8 hB).size;have hofs:off+9+k*9=off+(k+1)*9:=by omega
       rw[<-hofs]at d0 d1 d2 d3 d4 d5 d6 d7 d8;clear hofs;have hk1:(k:Int)<(rest.length:Int)+1:=by omega
       cases hbl:bl y.p x.p with
       |true=>
        have R2:=G9 (B48 (G8 hR) hy hx hbl);have hbl1:Op.bytesLess x.p y.p=false:=OO hbl;have hbl2:(x.p==y.p)=false:=by simpa using (XF hbl).symm
        clear hx hy q hbl;go_wp2_with fail;go_region;go_wp2_with fail
        go_roundg (rest.length-(k+1))
        case measure=>omega
        case rel=>exact⟨k+1,rfl,by omega,A8 _,G9 (GI (G8 hB) ((GH _ _).drew)),R2⟩
       |false=>
        have F:=G9 (TA (P:=AD8 (r::rest)) (fun h=>by have:=BO3 h.asc hy hx;rw[hbl]at this;cases this)).symm;clear hx hy q
        cases hb1:bl x.p y.p with
        |true=>
         have hbl1:Op.bytesLess x.p y.p=true:=hb1;clear hbl hb1;go_wp2_with fail;go_region;go_wp2_with fail;go_ret;exact⟨JG (G8 F),GI (G8 hB) ((GH _ _).drew)⟩
        |false=>
         have hbl1:Op.bytesLess x.p y.p=false:=hb1;have hbl2:(x.p==y.p)=true:=by simpa using UD _ _ hb1 hbl
         clear hbl hb1;go_wp2_with fail;go_region;go_wp2_with fail;go_ret;exact⟨JG (G8 F),GI (G8 hB) ((GH _ _).drew)⟩
      .obtain rfl:k=rest.length:=by omega
       go_wp2_with fail;go_ret;exact⟨JG (TS (P:=AD8 (r::rest)) ⟨G8 HL,⟨r,rest,rfl,G8 HP⟩,A45 (G8 hR) (by simp)⟩).symm,G8 hB⟩
   .have hp2:(r.p==[47])=false:=by simpa using hp
    have F:=G9 (TA (P:=AD8 (r::rest)) (fun h=>by obtain⟨r',s',h1,h2⟩:=h.root;cases h1;exact hp h2)).symm;clear hp;simp only[Nat.zero_mul,Nat.add_zero]at e0;go_enter func158,ntmps158;go_wp2_with fail;go_ret;exact⟨JG (G8 F),AA _ _⟩
  .have F:=G9 (TA (P:=AD8 (r::rest)) (fun h=>hl (by simpa using h.few))).symm;go_enter func158,ntmps158;go_wp2_with fail;go_ret;exact⟨JG (G8 F),AA _ _⟩
def RY(ss:List Int):Nat->Int
 |0=>1
 |k+1=>ss.getD k 0+1
def OkS(ss:List Int)(k:Nat):Prop:=∀i,i<k->∀x,ss[i]?=G7 x->RY ss i<=x/\x<=2147483647
theorem BO4(h:OkS ss k){x:Int}(hx:ss[k]?=G7 x)(h1:RY ss k<=x)(h2:x<=2147483647):OkS ss (k+1):=by
 intro i hi y hy;by_cases e:i=k
 .subst e;rw[hx]at hy;cases hy;exact⟨h1,h2⟩
 .exact h i (by omega) y hy
theorem XY{x:Int}(hx:ss[k]?=G7 x):RY ss (k+1)=x+1:=by simp[RY,List.getD,hx]
theorem BO5(h:rD ss){x:Int}(hx:ss[k]?=G7 x):RY ss k<=x/\x<=2147483647:=by
 have hb:=h.2 x (BA hx);refine⟨?_,hb.2⟩
 cases k with
 |zero=>simp only[RY];omega
 |succ k=>
  obtain⟨h1,rfl⟩:=AV.1 hx;rw[XY (AO (show k<ss.length by omega))];have:=List.pairwise_iff_getElem.1 h.1 k (k+1) (by omega) h1 (by omega);omega
theorem BO6(h:OkS ss ss.length):rD ss:=by
 have step:∀j i,(hij:i<j)->∀ (hj:j<ss.length),ss[i]'(Nat.lt_trans hij hj)<ss[j]:=by
  intro j
  induction j with
  |zero=>intro i hi;omega
  |succ j ih=>
   intro i hi hj;have h1:=(h (j+1) hj _ (AO hj)).1;rw[XY (AO (show j<ss.length by omega))]at h1;by_cases e:i=j
   .subst e;omega
   .have:=ih i (by omega) (by omega);omega
 have pos:∀i,(hi:i<ss.length)->1<=ss[i]:=by
  intro i
  induction i with
  |zero=>intro hi;exact(h 0 hi _ (AO hi)).1
  |succ i ih=>intro hi;have:=step (i+1) i (by omega) hi;have:=ih (by omega);omega
 refine⟨List.pairwise_iff_getElem.2 fun i j hi hj hij=>step j i hij hj,fun s hs=>?_⟩;obtain⟨i,hi,rfl⟩:=List.getElem_of_mem hs;exact⟨pos i hi,(h i hi _ (AO hi)).2⟩
theorem gY(v:FZ)(ss:List Int)(w:FX)(hv:IK w v ss)(hi:∀s∈ss,-9223372036854775808<=s/\s<=9223372036854775807):
  G5 prog 159 #[v] w fun e w'=>e=.returned (.bool (pd (rD ss)))/\w'=w:=by
 have T:=G9 (fun h:OkS ss ss.length=>(TS (BO6 h)).symm);have F:=G9 (fun(k:Nat) (x:Int) (hx:ss[k]?=G7 x) (h:¬ (RY ss k<=x/\x<=2147483647))=>(TA (fun g:rD ss=>h (BO5 g hx))).symm);have HI:=G9 hi;clear hi;generalize pd (rD ss)=fin at T F⊢;have R:∀k x,ss[k]?=G7 x->∃b off cap,v=FV (G7 ⟨b,off,G6⟩) ss.length cap/\w.cell? ⟨b,off+k,G6⟩=G7 (I0 x):=fun k x hx=>by
  obtain⟨b,off,cap,rfl,_,hr,_,_⟩:=MZ hv (by rintro rfl;simp at hx);exact⟨b,off,cap,rfl,hr.i0 hx⟩
 have HR:=G9 R;have hml:ss.length<=9223372036854775807:=by
  rcases hv with⟨a,cap,rfl,rfl,_⟩|⟨b,off,cap,rfl,h1,h2,_⟩
  .simp
  .simp only[maxLen]at h2;omega
 obtain⟨a,c,rfl⟩:=GL hv;clear R hv;go_enter func159,ntmps159;go_wp2_with fail
 go_loopg [3,8] ss.length (fun kx s3 s8 wr=>∃k:Nat,s3=I0 (RY ss k)/\s8=I0 k/\k<=ss.length/\ss.length-k<=kx/\wr=w/\Hid (OkS ss k))
 case atStart=>exact⟨0,rfl,rfl,AZ _,A8 _,rfl,G9 (fun i hi=>absurd hi (Nat.not_lt_zero _))⟩
 case round=>
  obtain⟨k,rfl,rfl,hk,hg,rfl,hO⟩:=hrel;by_cases hlt:k<ss.length
  .obtain⟨x,hx⟩:∃x,ss[k]?=G7 x:=⟨_,AO hlt⟩;obtain⟨b,off,cap,hv,e0⟩:=G8 HR k x hx;have hbx:=G8 HI x (BA hx);simp only[Value.slice.injEq]at hv;obtain⟨rfl,_,rfl⟩:=hv;have HX:=G9 hx;clear hx;have LS:=G9 (XY (G8 HX));by_cases h1:RY ss k<=x
   .by_cases h2:x<=2147483647
    .have O2:=G9 (BO4 (G8 hO) (G8 HX) h1 h2);generalize RY ss k=ls at h1;go_wp2_with fail
     go_roundg (ss.length-(k+1))
     case measure=>omega
     case rel=>exact⟨k+1,by rw[G8 LS],rfl,by omega,A8 _,rfl,O2⟩
    .have G:=G9 (G8 F k x (G8 HX) (by omega));generalize RY ss k=ls at h1;go_wp2_with fail;go_ret;exact⟨JG (G8 G),rfl⟩
   .have G:=G9 (G8 F k x (G8 HX) (by omega));generalize RY ss k=ls at h1;go_wp2_with fail;go_ret;exact⟨JG (G8 G),rfl⟩
  .obtain rfl:k=ss.length:=by omega
   have G:=G9 (G8 T (G8 hO));go_wp2_with fail;go_ret;exact⟨JG (G8 G),rfl⟩
theorem BO7(v:FZ)(ns:List Nd)(p:List UInt8)(w:FX)(hv:IK w v ns)(ha:AD8 ns):
  G5 prog 161 #[v,S0 p] w (R0 w (.bool (pd (BO1 ns p)))):=by
 have C:∀W:FX,B0 w W->∃i:Nat,G5 prog 73 #[v,S0 (IQ p)] W (R0 W (.tuple #[I0 i,.bool (LW ns (IQ p)).isSome])):=fun W hW=>by
  obtain⟨i,_,h⟩:=wY v ns (IQ p) W (hv.next hW) (by have:=ha.few;omega) ha.asc;exact⟨i,h⟩
 have C':=G9 C;have F:pd (BO1 ns p)=((LW ns (IQ p)).isSome||AU7 p==7):=by
  cases h:(LW ns (IQ p)).isSome with
  |true=>exact TS (.inl h)
  |false=>
   by_cases h2:AU7 p=7
   .rw[TS (.inr h2),h2];rfl
   .rw[TA (fun hh=>hh.elim (fun h1=>by rw[h]at h1;cases h1) h2)];simp[h2]
 rw[F];obtain⟨a,c,rfl⟩:=GL hv;have CS:=fun W=>NM p W;clear C hv ha F;generalize (LW ns (IQ p)).isSome=hd at C'⊢;generalize IQ p=dp at C' CS;generalize O8 p=sp at CS;generalize AU7 p=ep at CS⊢;generalize ns.length=nl at C'⊢;go_enter func161,ntmps161;go_wp2_with fail;refine(CS _).mono ?_;rintro e w1 ⟨rfl,hb1⟩;go_wp2_with fail;obtain⟨i,C2⟩:=G8 C' _ hb1;refine C2.mono ?_;rintro e w2 ⟨rfl,hb2⟩;have hB:=GI hb1 hb2;clear CS C2 C' hb1 hb2
 cases hd with
 |true=>
  go_wp2_with fail;go_ret;exact⟨rfl,hB⟩
 |false=>
  go_wp2_with fail;go_ret;exact⟨rfl,hB⟩
theorem B49(z:Int)(vn vs:FZ)(n:Nd)(kids:Int)(ss:List Int)(w:FX)(hv:IK w vs ss)(hs:rD ss):
  G5 prog 162 #[.agg #[I0 z,vn,vs],C56 n,I0 kids] w (R0 w (.bool (pd (gX z n kids ss)))):=by
 have CO:∀W:FX,B0 w W->G5 prog 191 #[.agg #[I0 z,vn,vs],I0 n.o] W (R0 W (.bool (decide (n.o∈ss)))):=fun W hW=>bY z vn vs ss n.o W (hv.next hW) hs;have C':=G9 CO;have F:=G9 (fun h:¬gX z n kids ss=>(TA h).symm);have T:=G9 (fun h:gX z n kids ss=>(TS h).symm);have SP:=G9 (Iff.intro (fun h:gX z n kids ss=>DJ h.c0 (DJ h.cm (DJ h.cq (DJ h.mz (DJ h.qz (DJ h.v0 (DJ h.v1 (DJ h.k0 (DJ h.k1 (DJ h.kids h.own)))))))))) (fun⟨a,b,c,d,e,f,g,h,i,j,k⟩=>(⟨a,b,c,d,e,f,g,h,i,j,k⟩:gX z n kids ss)));generalize pd (gX z n kids ss)=fin at F T⊢;obtain⟨a,c,rfl⟩:=GL hv;clear CO hv hs;unfold C56;obtain⟨np,nd,nc,nm,nq,nv,nk,no,nn⟩:=n;simp only at C' SP⊢;go_enter func162,ntmps162;go_wp2_with fail;go_region;go_wp2_with fail
 all_goals try simp only[bne_iff_ne,ne_eq,bne_eq_false_iff_eq]at*
 all_goals (first
  |(go_ret;exact⟨JG (G8 F (fun h=>by have:=(G8 SP).1 h;omega)),(((AA _ _).alloc (A8 _) _).alloc (by simp) _).drew⟩)
  |(go_ret;exact⟨JG (G8 T ((G8 SP).2 (by omega))),(((AA _ _).alloc (A8 _) _).alloc (by simp) _).drew⟩)
  |(go_ret;exact⟨JG ((beq_eq_false_iff_ne.2 (by assumption)).trans (G8 F (fun h=>by rcases((G8 SP).1 h).2.2.2.2.2.2.2.2.2.2 with h|h<;>omega))),(((AA _ _).alloc (A8 _) _).alloc (by simp) _).drew⟩)
  |skip)
 refine(G8 C' _ ((((AA _ _).alloc (A8 _) _).alloc (by simp) _).drew)).mono ?_;rintro e w1 ⟨rfl,hb1⟩;have hB:=GI ((((AA w.heap.size w).alloc (A8 _) _).alloc (by simp) _).drew) hb1;by_cases hmem:no∈ss
 .have G:=G9 (G8 T ((G8 SP).2 ⟨by omega,by omega,by omega,by omega,by omega,by omega,by omega,by omega,by omega,by omega,.inr ⟨by omega,hmem⟩⟩));go_wp2_with fail;go_ret;exact⟨JG (G8 G),hB⟩
 .have G:=G9 (G8 F (fun h=>by have:=((G8 SP).1 h).2.2.2.2.2.2.2.2.2.2;exact this.elim (fun h=>by omega) (fun h=>hmem h.2)));go_wp2_with fail;go_ret;exact⟨JG ((beq_eq_false_iff_ne.2 (by assumption)).trans (G8 G)),hB⟩
open Go.WideMaps Go.Maps
theorem CY4:Keyed prog 9:=string_keyed underlying9
theorem CM9(w:FX):(zeroValue 3).run prog w=.ok (.int .i64 0) w:=by kernel_rfl
def pJ(w:FX)(B k:Nat)(ns:List Nd):Prop:=
 ∃D:DataW Unit,w.ownsMap prog 9 (plainElem prog 3) B k D/\IsMap D/\∀s:List UInt8,D.atKey (.string s) (.lit (.int .i64 0))=.lit (.int .i64 (OA ns s))
theorem AP2(ns:List Nd)(n:Nd)(s:List UInt8):OA (ns++[n]) s=OA ns s+(if IQ n.p=s then 1 else 0):=by
 simp only[OA,List.countP_append,List.countP_cons,List.countP_nil,decide_eq_true_eq];omega
theorem BO8(ns:List Nd)(s:List UInt8):OA ns s<=ns.length:=List.countP_le_length
theorem A46{D:DataW Unit}(hm:IsMap D)(hD:∀s:List UInt8,D.atKey (.string s) (.lit (.int .i64 0))=.lit (.int .i64 (OA ns s)))(s:List UInt8):
  (D.put (.string (IQ n.p)) (.lit (.int .i64 (OA ns (IQ n.p)+1)))).atKey (.string s) (.lit (.int .i64 0))=.lit (.int .i64 (OA (ns++[n]) s)):=by
 rw[AP2];by_cases e:IQ n.p=s
 .subst e;rw[atKey_put_same hm (show WideAt.IsKeyLit (.string _)from trivial)];simp
 .rw[atKey_put_other (by simpa using fun h=>e h.symm),hD,if_neg e];simp
theorem A47(b off cap:Nat)(ns:List Nd)(w:FX)(hl:ns.length<=400)(hb:b<w.heap.size)(hr:IE w b off (GK ns)):
  G5 prog 160 #[FV (G7 ⟨b,off,G6⟩) ns.length cap] w fun e w'=>e=.returned (.map (G7 w.heap.size))/\pJ w' w.heap.size 400 ns/\Below w.heap.size w w':=by
 have H:=G9 hr;clear hr;have hmm:= @run_makeMap prog;go_enter func160,ntmps160;go_wp2_with fail
 go_loopg [12] ns.length (fun kx i wr=>∃k:Nat,i=.int .i64 k/\k<=ns.length/\ns.length-k<=kx/\Hid (pJ wr w.heap.size k (ns.take k))/\Hid (Below w.heap.size w wr))
 case atStart=>exact⟨0,rfl,AZ _,A8 _,G9 ⟨_,World.ownsMap_made _ _ _ _,isMap_empty,fun s=>by rfl⟩,G9 (GH _ _)⟩
 case round=>
  obtain⟨k,rfl,hk,hg,hC,hB⟩:=hrel;by_cases hlt:k<ns.length
  .obtain⟨x,hx⟩:∃x,ns[k]?=G7 x:=⟨_,AO hlt⟩;have q:=(G8 H).kept (G8 hB) hb;have d0:=q.n0 hx;have d1:=q.n1 hx;have d2:=q.n2 hx;have d3:=q.n3 hx;have d4:=q.n4 hx;have d5:=q.n5 hx;have d6:=q.n6 hx;have d7:=q.n7 hx;have d8:=q.n8 hx;have hbw:b<wr.heap.size:=AY hb (G8 hB).size;have hts:ns.take (k+1)=ns.take k++[x]:=by rw[List.take_add_one,hx];rfl
   have HT:=G9 hts;clear q hx hts;have CS:=fun W=>NM x.p W;have hdl:(IQ x.p).length<=1000:=by
    cases hgb:J7 x.p with
    |false=>rw[bC hgb];simp
    |true=>
     by_cases hr:x.p=[47]
     .rw[hr,V6];simp
     .obtain⟨a,c,he,hc⟩:=aX hgb;have:=MR hgb;rw[he]at hgb hr this⊢;rw[aY hgb hr hc,CK2]
      split
      .simp
      .simp at this;omega
   have HDL:=G9 hdl;clear hdl;obtain⟨D,ho,hm,hD⟩:=G8 hC;have HD:=G9 hD;have HM:=G9 hm;have hc1:=BO8 (ns.take k) (IQ x.p);simp only[List.length_take]at hc1;have STEP:=G9 (fun s=>A46 (n:=x) hm hD s);obtain⟨cn,hcn⟩:∃cn,OA (ns.take k) (IQ x.p)=cn:=⟨_,rfl⟩;rw[hcn]at hc1;have HCN:=G9 hcn;clear hD hm hcn;generalize hdp:IQ x.p=dp at CS HDL;have HDP:=G9 hdp;clear hdp;generalize O8 x.p=sp at CS;generalize AU7 x.p=ep at CS;go_wp2_with fail;refine(CS _).mono ?_;rintro e w1 ⟨rfl,hb1⟩;have hB1:Below w.heap.size w w1:=GI (G8 hB) (GZ hb1);have ho1:w1.ownsMap prog 9 (plainElem prog 3) w.heap.size k D:=by
    have:Below wr.heap.size wr w1:=GZ hb1;obtain⟨es,cl,h1,h2⟩:=ho;exact⟨es,cl,(this.block _ (AL.1 h1).1).trans h1,h2⟩
   have hkey:keyOf prog 9 (.string ⟨dp.toArray⟩)=G7 (.string dp):=by
    have:=keyOf_string_mk (P:=prog) underlying9 (s:=⟨dp.toArray⟩) (by have:=G8 HDL;simp only[maxLen,ByteArray.size,List.size_toArray];omega);simpa using this
   obtain⟨c,hrun,hat,_⟩:=ho1.lookup_int CY4 underlying233 underlying3 (CM9 _) hkey;have hcc:c=(cn:Int):=by
    rw[G8 HD,<-G8 HDP,G8 HCN]at hat;simpa using hat.symm
   subst hcc;clear CS hat hb1 ho d0 d1 d2 d3 d4 d5 d6 d7 d8;go_wp2_with (first
    |(at_mapUpdate;refine wpList_mapUpdate_own _ rfl _ _ _ 233 rfl 9 3 CY4 underlying233 _ w.heap.size k _ rfl ho1 (by unfold maxLen;omega) _ _ _ rfl rfl hkey _ [] (plainElem_int underlying3 (WalkArith.wf_i64 (by omega))) ?_)
    |fail)
   intro w2 hown1 hgrow1;have B2:=hB1.grown hgrow1 hB1.size (fun j hj=>by cases hj;exact A8 _);have C2:pJ w2 w.heap.size (k+1) (ns.take (k+1)):=by
    refine⟨_,hown1,(G8 HM).put _ _,fun s=>?_⟩;rw[G8 HT,<-G8 STEP s,G8 HCN,G8 HDP]
   have HC2:=G9 C2;have HB2:=G9 B2;clear C2 B2 hown1 hgrow1 ho1 hrun hB1;go_wp2_with fail
   go_roundg (ns.length-(k+1))
   case measure=>omega
   case rel=>exact⟨k+1,rfl,by omega,A8 _,HC2,HB2⟩
  .obtain rfl:k=ns.length:=by omega
   go_wp2_with fail;go_ret;obtain⟨D,ho,hm,hD⟩:=G8 hC;exact⟨rfl,⟨D,ho.mono (by omega),hm,fun s=>by rw[hD,List.take_length]⟩,G8 hB⟩
structure WfT(t:Tr):Prop where
 ses:∀s∈t.ss,-9223372036854775808<=s/\s<=9223372036854775807
 CN0:∀n∈t.ns,n.p.length<=140737488355328/\n.d.length<=140737488355328
def OkG(t:Tr)(k:Nat):Prop:=∀i,i<k->∀n,t.ns[i]?=G7 n->BO2 t.z t.ns t.ss n
theorem BO9(h:OkG t k)(hn:t.ns[k]?=G7 n)(hp:BO2 t.z t.ns t.ss n):OkG t (k+1):=by
 intro i hi m hm;by_cases e:i=k
 .subst e;rw[hn]at hm;cases hm;exact hp
 .exact h i (by omega) m hm
theorem BP0(hz:KP t.z=true)(ho:AD8 t.ns)(hs:rD t.ss)(h:OkG t t.ns.length){r:Nd}(hr:t.ns[0]?=G7 r):V7 t=decide (r.o=0):=by
 by_cases h0:r.o=0
 .rw[decide_eq_true h0,TK,YW];refine⟨hz,ho,hs,fun n hn=>?_,fun r' h=>by rw[hr]at h;cases h;exact h0⟩;obtain⟨i,hi,rfl⟩:=List.getElem_of_mem hn;exact h i hi _ (AO hi)
 .rw[decide_eq_false h0,ZR,YW];exact fun g=>h0 (g.2.2.2.2 r hr)
theorem A48(h:¬ (KP t.z=true/\AD8 t.ns/\rD t.ss)):V7 t=false:=by
 rw[ZR,YW];exact fun g=>h ⟨g.1,g.2.1,g.2.2.1⟩
theorem B50(hn:t.ns[k]?=G7 n)(h:¬BO2 t.z t.ns t.ss n):V7 t=false:=by
 rw[ZR,YW];exact fun g=>h (g.2.2.2.1 n (BA hn))
theorem l7(h:pJ w B k ns)(hb:Below w.heap.size w w'):pJ w' B k ns:=by
 obtain⟨D,⟨es,cl,h1,h2⟩,h3⟩:=h;exact⟨D,⟨es,cl,(hb.block _ (AL.1 h1).1).trans h1,h2⟩,h3⟩
theorem AP3(t:Tr)(vn vs:FZ)(w:FX)(hn:IK w vn t.ns)(hs:IK w vs t.ss)(hw:WfT t)(hz:KP t.z=true)(ho:AD8 t.ns)(ha:rD t.ss):
  G5 prog 108 #[.agg #[.int .i64 t.z,vn,vs]] w fun e w'=>e=.returned (.bool (V7 t))/\Below w.heap.size w w':=by
 have hne:t.ns≠[]:=by obtain⟨r,rest,h,_⟩:=ho.root;rw[h];simp
 obtain⟨r0,hr0⟩:∃r0,t.ns[0]?=G7 r0:=by obtain⟨r,rest,h,_⟩:=ho.root;exact⟨r,by rw[h];rfl⟩
 have YES:=G9 (fun h=>BP0 hz ho ha h hr0);have NO:=G9 (fun n k h1 h2=>B50 (t:=t) (n:=n) (k:=k) h1 h2);have CZ:=fun W=>JJ t.z W;rw[hz]at CZ;have CO:=G9 (fun W (h:Below w.heap.size w W)=>ZY vn t.ns W (hn.next h));have CN:=G9 (fun W (h:Below w.heap.size w W)=>gY vs t.ss W (hs.next h) hw.ses);simp only[TS ho]at CO;simp only[TS ha]at CN;have CH:=G9 (fun p W (h:Below w.heap.size w W)=>BO7 vn t.ns p W (hn.next h) ho);have CSD:=G9 (fun n k W (h:Below w.heap.size w W)=>B49 t.z vn vs n k t.ss W (hs.next h) ha);have hl:=ho.few;have SL:=G9 hw.CN0;obtain⟨sa,sc,rfl⟩:=GL hs;obtain⟨b,off,cap,rfl,hb,hr,hle,hcm⟩:=MZ hn hne;have H:=G9 hr;have CC:=G9 (fun W (h:Below w.heap.size w W)=>A47 b off cap t.ns W hl (AY hb h.size) (hr.kept h hb));have HR0:=G9 hr0;have hpos:0<t.ns.length:=List.length_pos_iff.2 hne;clear hn hs hw hz ho ha hne hr hr0;generalize V7 t=fin at YES NO⊢;go_enter func108,ntmps108;go_wp2_with fail;refine(CZ _).mono ?_;rintro e w0 ⟨rfl,rfl⟩;have B0:=GH w (FW #[.int .i64 t.z,FV (G7 ⟨b,off,G6⟩) t.ns.length cap,FV sa t.ss.length sc] 52);generalize hW0:w.alloc (FW #[.int .i64 t.z,FV (G7 ⟨b,off,G6⟩) t.ns.length cap,FV sa t.ss.length sc] 52)=W0 at*;have b0:W0.cell? ⟨w.heap.size,0,G6⟩=G7 (.int .i64 t.z):=by rw[<-hW0];simp
 have b1:W0.cell? ⟨w.heap.size,1,G6⟩=G7 (FV (G7 ⟨b,off,G6⟩) t.ns.length cap):=by rw[<-hW0];simp
 have b2:W0.cell? ⟨w.heap.size,2,G6⟩=G7 (FV sa t.ss.length sc):=by rw[<-hW0];simp
 have hsz:w.heap.size<W0.heap.size:=by rw[<-hW0];simp
 have BX:=G9 (fun W (h:Below W0.heap.size W0 W)=>(⟨(h.cell (p:=⟨w.heap.size,0,G6⟩) hsz).trans b0,(h.cell (p:=⟨w.heap.size,1,G6⟩) hsz).trans b1,(h.cell (p:=⟨w.heap.size,2,G6⟩) hsz).trans b2⟩:W.cell? ⟨w.heap.size,0,G6⟩=G7 (.int .i64 t.z)/\W.cell? ⟨w.heap.size,1,G6⟩=G7 (FV (G7 ⟨b,off,G6⟩) t.ns.length cap)/\W.cell? ⟨w.heap.size,2,G6⟩=G7 (FV sa t.ss.length sc)));clear hW0;go_wp2_with fail;refine(G8 CO _ B0).mono ?_;rintro e w1 ⟨rfl,hb1⟩;obtain⟨c0,c1,c2⟩:=G8 BX w1 hb1;clear b0 b1 b2;go_wp2_with fail;refine(G8 CN _ (GI B0 hb1)).mono ?_;rintro e w2 ⟨rfl,rfl⟩;go_wp2_with fail;refine(G8 CC _ (GI B0 hb1)).mono ?_;rintro e w3 ⟨rfl,hC3,hb3⟩;have hb3':=GI hb1 hb3;obtain⟨d0,d1,d2⟩:=G8 BX w3 hb3';have HC:=G9 hC3;clear c0 c1 c2 CO CN CC CZ hC3;go_wp2_with fail
 go_loopg [28] t.ns.length (fun kx i wr=>∃k:Nat,i=.int .i64 k/\k<=t.ns.length/\t.ns.length-k<=kx/\Hid (Below W0.heap.size W0 wr)/\Hid (pJ wr w2.heap.size 400 t.ns)/\Hid (OkG t k))
 case atStart=>exact⟨0,rfl,AZ _,A8 _,G9 hb3',HC,G9 (fun i hi=>absurd hi (Nat.not_lt_zero _))⟩
 case round=>
  obtain⟨k,rfl,hk,hg,hB,hC,hO⟩:=hrel;obtain⟨x0,x1,x2⟩:=G8 BX wr (G8 hB);clear d0 d1 d2;by_cases hlt:k<t.ns.length
  .obtain⟨x,hx⟩:∃x,t.ns[k]?=G7 x:=⟨_,AO hlt⟩;have hBw:Below w.heap.size w wr:=GI B0 (G8 hB);have q:=(G8 H).kept hBw hb;have d0:=q.n0 hx;have d1:=q.n1 hx;have d2:=q.n2 hx;have d3:=q.n3 hx;have d4:=q.n4 hx;have d5:=q.n5 hx;have d6:=q.n6 hx;have d7:=q.n7 hx;have d8:=q.n8 hx;have hbw:b<wr.heap.size:=AY hb hBw.size;have hww:w.heap.size<wr.heap.size:=AY hsz (G8 hB).size;have sl:=G8 SL x (BA hx);have sld:=sl.2;have HX:=G9 hx;have SLP:=G9 sl.1;clear q hx sl;by_cases hd:x.d.length<=256
   .have HD:=G9 hd
    cases hh:pd (BO1 t.ns x.p)with
    |false=>
     have G:=G9 (G8 NO x k (G8 HX) (fun p=>by have:=TS p.held;rw[hh]at this;cases this));go_wp2_with fail;refine(G8 CH x.p _ (GI hBw (GH _ _))).mono ?_;rintro e w4 ⟨rfl,hb4⟩;have hB4:=GI hBw (GZ hb4);rw[hh];clear hb4 d0 d1 d2 d3 d4 d5 d6 d7 d8 x0 x1 x2;go_wp2_with fail;go_ret;exact⟨JG (G8 G).symm,hB4⟩
    |true=>
     have HH:=G9 hh;go_wp2_with fail;refine(G8 CH x.p _ (GI hBw (GH _ _))).mono ?_;rintro e w4 ⟨rfl,hb4⟩;have hB4:=GI hBw (GZ hb4);have hB40:=GI (G8 hB) (GZ hb4);rw[hh];clear hh;have r:=fun(j:Nat) (hj:j<9)=>hb4.cell (p:=⟨wr.heap.size,j,G6⟩) (by simp);have y0:w4.cell? ⟨wr.heap.size,0,G6⟩=G7 (.string ⟨x.p.toArray⟩):=by rw[r 0 (by omega)];simp
     have y2:w4.cell? ⟨wr.heap.size,2,G6⟩=G7 (.int .i64 x.c):=by rw[r 2 (by omega)];simp
     have y3:w4.cell? ⟨wr.heap.size,3,G6⟩=G7 (.int .i64 x.m):=by rw[r 3 (by omega)];simp
     have y4:w4.cell? ⟨wr.heap.size,4,G6⟩=G7 (.int .i64 x.q):=by rw[r 4 (by omega)];simp
     have y5:w4.cell? ⟨wr.heap.size,5,G6⟩=G7 (.int .i64 x.v):=by rw[r 5 (by omega)];simp
     have y6:w4.cell? ⟨wr.heap.size,6,G6⟩=G7 (.int .i64 x.k):=by rw[r 6 (by omega)];simp
     have y7:w4.cell? ⟨wr.heap.size,7,G6⟩=G7 (.int .i64 x.o):=by rw[r 7 (by omega)];simp
     have y8:w4.cell? ⟨wr.heap.size,8,G6⟩=G7 (.int .i64 x.n):=by rw[r 8 (by omega)];simp
     obtain⟨z0,z1,z2⟩:=G8 BX w4 hB40;have hC4:=l7 (G8 hC) (GZ hb4);have HC4:=G9 hC4;obtain⟨D,ho4,_,hD⟩:=hC4;have hkey:keyOf prog 9 (.string ⟨x.p.toArray⟩)=G7 (.string x.p):=by
      have:=keyOf_string_mk (P:=prog) underlying9 (s:=⟨x.p.toArray⟩) (by have:=G8 SLP;simp only[maxLen,ByteArray.size,List.size_toArray];omega);simpa using this
     obtain⟨c,hrun,hat,_⟩:=ho4.lookup_int CY4 underlying233 underlying3 (CM9 _) hkey;have hcc:c=(OA t.ns x.p:Int):=by
      rw[hD]at hat;simpa using hat.symm
     subst hcc;clear r hat hD ho4 hkey hb4 d0 d1 d2 d3 d4 d5 d6 d7 d8 x0 x1 x2;have CSX:=G8 CSD x (OA t.ns x.p) w4 hB4;unfold C56 at CSX
     cases hs:pd (gX t.z x (OA t.ns x.p) t.ss)with
     |false=>
      have G:=G9 (G8 NO x k (G8 HX) (fun p=>by have:=TS p.sound;rw[hs]at this;cases this));rw[hs]at CSX;clear hs;go_wp2_with fail;refine CSX.mono ?_;rintro e w5 ⟨rfl,hb5⟩;have hB5:=GI hB4 hb5;clear CSX hrun z0 z1 z2 y0 y2 y3 y4 y5 y6 y7 y8;go_wp2_with fail;go_ret;exact⟨JG (G8 G).symm,hB5⟩
     |true=>
      have O2:=G9 (BO9 (G8 hO) (G8 HX) ⟨G8 HD,C03.1 (G8 HH),C03.1 hs⟩);rw[hs]at CSX;clear hs;go_wp2_with fail;refine CSX.mono ?_;rintro e w5 ⟨rfl,hb5⟩;have HB5:=G9 (GI hB40 hb5);have HC5:=G9 (l7 (G8 HC4) hb5);clear CSX hrun z0 z1 z2 y0 y2 y3 y4 y5 y6 y7 y8 hb5;go_wp2_with fail
      go_roundg (t.ns.length-(k+1))
      case measure=>omega
      case rel=>exact⟨k+1,rfl,by omega,A8 _,HB5,HC5,O2⟩
   .have G:=G9 (G8 NO x k (G8 HX) (fun p=>hd p.data));go_wp2_with fail;go_ret;exact⟨JG (G8 G).symm,GI hBw (GH _ _)⟩
  .obtain rfl:k=t.ns.length:=by omega
   have hBw:Below w.heap.size w wr:=GI B0 (G8 hB);have d7:=((G8 H).kept hBw hb).n7 (G8 HR0);have G:=G9 (G8 YES (G8 hO));simp only[Nat.zero_mul,Nat.add_zero]at d7;go_wp2_with fail;go_ret;exact⟨JG ((G8 G).trans (by rfl)).symm,hBw⟩
theorem cO(t:Tr)(vn vs:FZ)(w:FX)(hn:IK w vn t.ns)(hs:IK w vs t.ss)(hw:WfT t):
  G5 prog 108 #[.agg #[I0 t.z,vn,vs]] w (R0 w (.bool (V7 t))):=by
 by_cases hz:KP t.z=true
 .by_cases ho:AD8 t.ns
  .by_cases ha:rD t.ss
   .exact AP3 t vn vs w hn hs hw hz ho ha
   .have F:=G9 (A48 (t:=t) (fun h=>ha h.2.2)).symm;have CZ:=fun W=>JJ t.z W;rw[hz]at CZ;have CO:=G9 (fun W (h:B0 w W)=>ZY vn t.ns W (hn.next h));have CN:=G9 (fun W (h:B0 w W)=>gY vs t.ss W (hs.next h) hw.ses);simp only[TS ho]at CO;simp only[TA ha]at CN;obtain⟨na,nc,rfl⟩:=GL hn;obtain⟨sa,sc,rfl⟩:=GL hs;clear hn hs hw hz ho ha;go_enter func108,ntmps108;go_wp2_with fail;refine(CZ _).mono ?_;rintro e w0 ⟨rfl,rfl⟩;go_wp2_with fail;refine(G8 CO _ (GH _ _)).mono ?_;rintro e w1 ⟨rfl,hb1⟩;have c2:w1.cell? ⟨w.heap.size,2,G6⟩=G7 (FV sa t.ss.length sc):=by rw[hb1.cell (p:=⟨w.heap.size,2,G6⟩) (by simp)];simp
    have HB:=G9 (GZ hb1);clear hb1;go_wp2_with fail;refine(G8 CN _ (G8 HB)).mono ?_;rintro e w2 ⟨rfl,rfl⟩;go_wp2_with fail;go_ret;exact⟨JG (G8 F),G8 HB⟩
  .have F:=G9 (A48 (t:=t) (fun h=>ho h.2.1)).symm;have CZ:=fun W=>JJ t.z W;rw[hz]at CZ;have CO:=G9 (fun W (h:B0 w W)=>ZY vn t.ns W (hn.next h));simp only[TA ho]at CO;obtain⟨na,nc,rfl⟩:=GL hn;obtain⟨sa,sc,rfl⟩:=GL hs;clear hn hs hw hz ho;go_enter func108,ntmps108;go_wp2_with fail;refine(CZ _).mono ?_;rintro e w0 ⟨rfl,rfl⟩;go_wp2_with fail;refine(G8 CO _ (GH _ _)).mono ?_;rintro e w1 ⟨rfl,hb1⟩;have HB:=G9 (GZ hb1);clear hb1;go_wp2_with fail;go_ret;exact⟨JG (G8 F),G8 HB⟩
 .have F:=G9 (A48 (t:=t) (fun h=>hz h.1)).symm;have hz':KP t.z=false:=by simpa using hz
  have CZ:=fun W=>JJ t.z W;rw[hz']at CZ;obtain⟨na,nc,rfl⟩:=GL hn;obtain⟨sa,sc,rfl⟩:=GL hs;clear hn hs hw hz hz';go_enter func108,ntmps108;go_wp2_with fail;refine(CZ _).mono ?_;rintro e w0 ⟨rfl,rfl⟩;go_wp2_with fail;go_ret;exact⟨JG (G8 F),GH _ _⟩
theorem B51(h:V7 t=false):WY t x=3:=by rw[WY,if_pos h]
theorem C79(h:V7 t=true)(h1:gdE x≠0):WY t x=gdE x:=by rw[WY,if_neg (by simp[h]),if_pos h1]
theorem BP1(h:V7 t=true)(h1:gdE x=0):WY t x=(if x.z<=t.z then 13 else if x.o=1/\x.s∈t.ss then 8 else if x.o≠1/\x.s∉t.ss then 12 else 0):=by
 rw[WY,if_neg (by simp[h]),if_neg (by omega)]
theorem A49(t:Tr)(vn vs:FZ)(x:GU)(w:FX)(hn:IK w vn t.ns)(hs:IK w vs t.ss)(hw:WfT t)(hg:V7 t=false):
  G5 prog 165 #[.agg #[I0 t.z,vn,vs],JA x] w (R0 w (I0 3)):=by
 have CG:=G9 (fun W (hW:B0 w W)=>cO t vn vs W (hn.next hW) (hs.next hW) hw);rw[hg]at CG;obtain⟨na,nc,rfl⟩:=GL hn;obtain⟨sa,sc,rfl⟩:=GL hs;clear hn hs hw hg;obtain⟨xz,xo,xs,xp,xd,xv,xw⟩:=x;unfold JA;go_enter func165,ntmps165;go_wp2_with fail;refine(G8 CG _ (GI (GH _ _) (GH _ _))).mono ?_;rintro e w1 ⟨rfl,hb1⟩;have HB:=G9 (GI (GI (GH _ _) (GH _ _)) hb1);clear hb1;go_wp2_with fail;go_ret;exact⟨rfl,G8 HB⟩
theorem B52(t:Tr)(vn vs:FZ)(x:GU)(w:FX)(hn:IK w vn t.ns)(hs:IK w vs t.ss)(hw:WfT t)(hd:x.d.length<=140737488355328)(hg:V7 t=true)(hx:gdE x≠0):
  G5 prog 165 #[.agg #[I0 t.z,vn,vs],JA x] w (R0 w (I0 (gdE x))):=by
 have CG:=G9 (fun W (hW:B0 w W)=>cO t vn vs W (hn.next hW) (hs.next hW) hw);rw[hg]at CG;have CW:=G9 (fun W=>XV x W hd);obtain⟨na,nc,rfl⟩:=GL hn;obtain⟨sa,sc,rfl⟩:=GL hs;have hxb:(gdE x !=0)=true:=by simpa using hx
 clear hn hs hw hg hx;have KX:∀W:FX,Below (w.alloc (FW #[I0 t.z,FV na t.ns.length nc,FV sa t.ss.length sc] 52)).heap.size (w.alloc (FW #[I0 t.z,FV na t.ns.length nc,FV sa t.ss.length sc] 52)) W->B0 w W:=fun W h=>GZ h;have HKX:=G9 KX;generalize gdE x=E at hxb CW⊢;obtain⟨xz,xo,xs,xp,xd,xv,xw⟩:=x;unfold JA at CW⊢;simp only at CW⊢;have KT:∀w1,Below ((w.alloc (FW #[I0 t.z,FV na t.ns.length nc,FV sa t.ss.length sc] 52)).alloc (FW #[I0 xz,I0 xo,I0 xs,S0 xp,S0 xd,I0 xv,I0 xw] 83)).heap.size ((w.alloc (FW #[I0 t.z,FV na t.ns.length nc,FV sa t.ss.length sc] 52)).alloc (FW #[I0 xz,I0 xo,I0 xs,S0 xp,S0 xd,I0 xv,I0 xw] 83)) w1->TAt w1 (w.heap.size+1) ⟨xz,xo,xs,xp,xd,xv,xw⟩:=fun w1 h1=>by
  have:=(TAt.new (w.alloc (FW #[I0 t.z,FV na t.ns.length nc,FV sa t.ss.length sc] 52)) ⟨xz,xo,xs,xp,xd,xv,xw⟩).next h1;simpa using this
 have HKT:=G9 KT;clear KX KT;go_enter func165,ntmps165;go_wp2_with fail;refine(G8 CG _ (GI (GH _ _) (GH _ _))).mono ?_;rintro e w1 ⟨rfl,hb1⟩;have HB:=G9 (GI (GI (GH _ _) (GH _ _)) hb1);have tx:=G8 HKT w1 hb1;have y0:=tx.c0;have y1:=tx.c1;have y2:=tx.c2;have y3:=tx.c3;have y4:=tx.c4;have y5:=tx.c5;have y6:=tx.c6;clear hb1 tx;go_wp2_with fail;refine(G8 CW _).mono ?_;rintro e w2 ⟨rfl,hb2⟩;have HB2:=G9 (GI (G8 HB) hb2);clear hb2;go_wp2_with fail;go_ret;exact⟨rfl,G8 HB2⟩
theorem AP4(t:Tr)(vn vs:FZ)(x:GU)(w:FX)(hn:IK w vn t.ns)(hs:IK w vs t.ss)(hw:WfT t)(hd:x.d.length<=140737488355328)(hg:V7 t=true)(hx:gdE x=0):
  G5 prog 165 #[.agg #[I0 t.z,vn,vs],JA x] w (R0 w (I0 (WY t x))):=by
 have CG:=G9 (fun W (hW:B0 w W)=>cO t vn vs W (hn.next hW) (hs.next hW) hw);have CO:=fun W (hW:B0 w W)=>bY t.z vn vs t.ss x.s W (hs.next hW) (TK.1 hg).ses;rw[hg]at CG;have CW:=G9 (fun W=>XV x W hd);rw[hx]at CW;rw[BP1 hg hx];generalize hr:(if x.z<=t.z then(13:Int)else if x.o=1/\x.s∈t.ss then 8 else if x.o≠1/\x.s∉t.ss then 12 else 0)=r;have q:(decide (x.z<=t.z)=true/\r=13)\/(decide (x.z<=t.z)=false/\(((x.o==1)=true/\(x.o !=1)=false/\((decide (x.s∈t.ss)=true/\r=8)\/(decide (x.s∈t.ss)=false/\r=0)))\/((x.o==1)=false/\(x.o !=1)=true/\((decide (x.s∈t.ss)=true/\r=0)\/(decide (x.s∈t.ss)=false/\r=12))))):=by
  subst hr;by_cases h1:x.z<=t.z<;>by_cases h2:x.o=1<;>by_cases h3:x.s∈t.ss<;>simp[h1,h2,h3]
 generalize decide (x.s∈t.ss)=op at CO q;clear hr;rcases q with⟨q1,rfl⟩|⟨q1,⟨q2,q3,⟨rfl,rfl⟩|⟨rfl,rfl⟩⟩|⟨q2,q3,⟨rfl,rfl⟩|⟨rfl,rfl⟩⟩⟩
 all_goals
  have HCO:=G9 CO;obtain⟨na,nc,rfl⟩:=GL hn;obtain⟨sa,sc,rfl⟩:=GL hs;clear hn hs hw hg hx CO;obtain⟨xz,xo,xs,xp,xd,xv,xw⟩:=x;unfold JA at CW⊢;simp only at*;have KT:∀w1,Below ((w.alloc (FW #[I0 t.z,FV na t.ns.length nc,FV sa t.ss.length sc] 52)).alloc (FW #[I0 xz,I0 xo,I0 xs,S0 xp,S0 xd,I0 xv,I0 xw] 83)).heap.size ((w.alloc (FW #[I0 t.z,FV na t.ns.length nc,FV sa t.ss.length sc] 52)).alloc (FW #[I0 xz,I0 xo,I0 xs,S0 xp,S0 xd,I0 xv,I0 xw] 83)) w1->TAt w1 (w.heap.size+1) ⟨xz,xo,xs,xp,xd,xv,xw⟩/\w1.heap[w.heap.size]?=G7 (FW #[I0 t.z,FV na t.ns.length nc,FV sa t.ss.length sc] 52 (0,0)):=fun w1 h1=>by
   have:=(TAt.new (w.alloc (FW #[I0 t.z,FV na t.ns.length nc,FV sa t.ss.length sc] 52)) ⟨xz,xo,xs,xp,xd,xv,xw⟩).next h1;refine⟨by simpa using this,?_⟩;rw[h1.block _ (by simp;omega)];rw[(GH (w.alloc (FW #[I0 t.z,FV na t.ns.length nc,FV sa t.ss.length sc] 52)) (FW #[I0 xz,I0 xo,I0 xs,S0 xp,S0 xd,I0 xv,I0 xw] 83)).block _ (by simp)];exact heap_alloc_new w _
  have HKT:=G9 KT;clear KT;go_enter func165,ntmps165;go_wp2_with fail;refine(G8 CG _ (GI (GH _ _) (GH _ _))).mono ?_;rintro e w1 ⟨rfl,hb1⟩;have HB:=G9 (GI (GI (GH _ _) (GH _ _)) hb1);obtain⟨tx,tt⟩:=G8 HKT w1 hb1;have y0:=tx.c0;have y1:=tx.c1;have y2:=tx.c2;have y3:=tx.c3;have y4:=tx.c4;have y5:=tx.c5;have y6:=tx.c6;have HTX:=G9 tx;have HTT:=G9 tt;clear hb1 tx tt;go_wp2_with fail;refine(G8 CW _).mono ?_;rintro e w2 ⟨rfl,hb2⟩;have HB2:=G9 (GI (G8 HB) hb2);have tx2:=(G8 HTX).next hb2;have tt2:=(hb2.block _ (AL.1 (G8 HTT)).1).trans (G8 HTT);have u0:=tx2.c0;have u1:=tx2.c1;have u2:=tx2.c2;have v0:w2.cell? ⟨w.heap.size,0,G6⟩=G7 (I0 t.z):=by simp[AX,tt2]
  have v1:w2.cell? ⟨w.heap.size,1,G6⟩=G7 (FV na t.ns.length nc):=by simp[AX,tt2]
  have v2:w2.cell? ⟨w.heap.size,2,G6⟩=G7 (FV sa t.ss.length sc):=by simp[AX,tt2]
  have A44:=G9 tx2;have HTT2:=G9 tt2;clear hb2 y0 y1 y2 y3 y4 y5 y6 tx2 tt2;go_wp2_with fail;refine(G8 HCO _ (G8 HB2)).mono ?_;rintro e w3 ⟨rfl,hb3⟩;have HB3:=G9 (GI (G8 HB2) hb3);have tx3:=(G8 A44).next hb3;have tt3:=(hb3.block _ (AL.1 (G8 HTT2)).1).trans (G8 HTT2);have z0:=tx3.c0;have z1:=tx3.c1;have r0:w3.cell? ⟨w.heap.size,0,G6⟩=G7 (I0 t.z):=by simp[AX,tt3]
  clear hb3 u0 u1 u2 v0 v1 v2 tx3 tt3;go_wp2_with fail;go_ret;exact⟨rfl,G8 HB3⟩
theorem xP(t:Tr)(vn vs:FZ)(x:GU)(w:FX)(hn:IK w vn t.ns)(hs:IK w vs t.ss)(hw:WfT t)(hd:x.d.length<=140737488355328):
  G5 prog 165 #[.agg #[I0 t.z,vn,vs],JA x] w (R0 w (I0 (WY t x))):=by
 cases hg:V7 t with
 |false=>rw[B51 hg];exact A49 t vn vs x w hn hs hw hg
 |true=>
  by_cases hx:gdE x=0
  .exact AP4 t vn vs x w hn hs hw hd hg hx
  .rw[C79 hg hx];exact B52 t vn vs x w hn hs hw hd hg hx
theorem H6.raise{α:Type}[Lay α]{v:FZ}{xs:List α}(h:H6 W 0 v xs)(hb:∀k,v.ownBlock=G7 k->B<=k):H6 W B v xs:=by
 rcases h with h|⟨g,cap,rfl,_,h⟩
 .exact .inl h
 .exact .inr ⟨g,cap,rfl,hb g rfl,h⟩
def cZ(w:FX)(t:Tr)(x:GU)(e:Ending)(w':FX):Prop:=
 ∃vn vs ve,e=.returned (.tuple #[.agg #[I0 (kC t x).z,vn,vs],ve,I0 (Z7 t x)])/\H6 w' w.heap.size vn (kC t x).ns/\H6 w' w.heap.size vs (kC t x).ss/\H6 w' w.heap.size ve (ZE t x)/\B0 w w'
theorem AE0(hE:Z7 t x=E)(h0:E≠0)(he:e=.returned (.tuple #[.agg #[I0 0,N0,N0],N0,I0 E]))(hb:B0 w w'):cZ w t x e w':=by
 have h1:kC t x=tr0:=by rw[kC,if_neg (by omega)]
 have h2:ZE t x=[]:=by rw[ZE,if_neg (by omega)]
 refine⟨N0,N0,N0,?_,?_,?_,?_,hb⟩
 .rw[hE,h1];exact he
 .rw[h1];exact .inl ⟨rfl,rfl⟩
 .rw[h1];exact .inl ⟨rfl,rfl⟩
 .rw[h2];exact .inl ⟨rfl,rfl⟩
structure zZ(W:FX)(q:Nat)(z:Int)(vn vs:FZ)(x:GU):Prop where
 t:W.heap[q]?=G7 (FW #[I0 z,vn,vs] 52 (0,0))
 x:TAt W (q+1) x
 r:W.heap[q+2]?=G7 (FW #[I0 0,N0,N0] 52 (0,0))
theorem zZ.new(w:FX)(z:Int)(vn vs:FZ)(x:GU):zZ (((w.alloc (FW #[I0 z,vn,vs] 52)).alloc (FW #[I0 x.z,I0 x.o,I0 x.s,S0 x.p,S0 x.d,I0 x.v,I0 x.w] 83)).alloc (FW #[I0 0,N0,N0] 52)) w.heap.size z vn vs x:=by
 refine⟨?_,?_,?_⟩
 .rw[(GH _ _).block _ (by simp;omega),(GH _ _).block _ (by simp)];exact heap_alloc_new w _
 .have h:=(TAt.new (w.alloc (FW #[I0 z,vn,vs] 52)) x).next (GH _ (FW #[I0 0,N0,N0] 52));simpa using h
 .have h:=heap_alloc_new ((w.alloc (FW #[I0 z,vn,vs] 52)).alloc (FW #[I0 x.z,I0 x.o,I0 x.s,S0 x.p,S0 x.d,I0 x.v,I0 x.w] 83)) (FW #[I0 0,N0,N0] 52);rw[show ((w.alloc (FW #[I0 z,vn,vs] 52)).alloc (FW #[I0 x.z,I0 x.o,I0 x.s,S0 x.p,S0 x.d,I0 x.v,I0 x.w] 83)).heap.size=w.heap.size+2 by simp]at h;exact h
theorem zZ.lt(h:zZ W q z vn vs x):q+2<W.heap.size:=(AL.1 h.r).1
theorem zZ.touch(h:zZ W q z vn vs x)(ht:Touch F W V)(hf:∀k,F k->q+3<=k):zZ V q z vn vs x:=by
 have:=h.lt;have n0:∀k,k<q+3->¬F k:=fun k hk hF=>by have:=hf k hF;omega
 exact⟨(ht.block _ (by omega) (n0 _ (by omega))).trans h.t,(ht.block _ (by omega) (n0 _ (by omega))).trans h.x,(ht.block _ (by omega) (n0 _ (by omega))).trans h.r⟩
theorem zZ.next(h:zZ W q z vn vs x)(hb:B0 W V):zZ V q z vn vs x:=h.touch (F:=fun _=>False) (Touch.of_below hb) (fun _ hF=>hF.elim)
theorem zZ.cells(h:zZ W q z vn vs x):W.cell? ⟨q,0,G6⟩=G7 (I0 z)/\W.cell? ⟨q,1,G6⟩=G7 vn/\W.cell? ⟨q,2,G6⟩=G7 vs/\W.cell? ⟨q+2,0,G6⟩=G7 (I0 0)/\W.cell? ⟨q+2,1,G6⟩=G7 (N0)/\W.cell? ⟨q+2,2,G6⟩=G7 (N0)/\W.frozen? ⟨q+2,0,G6⟩=false/\W.frozen? ⟨q+2,1,G6⟩=false/\W.frozen? ⟨q+2,2,G6⟩=false:=by
 have h1:=h.t;have h2:=h.r;refine⟨?_,?_,?_,?_,?_,?_,?_,?_,?_⟩<;>simp[AX,World.frozen?,h1,h2]
theorem B53(t:Tr)(vn vs:FZ)(x:GU)(w:FX)(hn:IK w vn t.ns)(hs:IK w vs t.ss)(hw:WfT t)(hd:x.d.length<=140737488355328)(ha:WY t x≠0):
  G5 prog 110 #[.agg #[I0 t.z,vn,vs],JA x] w (cZ w t x):=by
 have CA:=G9 (fun W (hW:B0 w W)=>xP t vn vs x W (hn.next hW) (hs.next hW) hw hd);have FIN:=G9 (fun w' e h hb=>AE0 (w:=w) (w':=w') (e:=e) (BO0 ha) ha h hb);have hab:(WY t x !=0)=true:=by simpa using ha
 obtain⟨na,nc,rfl⟩:=GL hn;obtain⟨sa,sc,rfl⟩:=GL hs;clear hn hs hw ha;generalize WY t x=E at hab CA FIN;generalize hQ:cZ w t x=Q at FIN⊢;clear hQ;obtain⟨xz,xo,xs,xp,xd,xv,xw⟩:=x;unfold JA at*;simp only at*;have KB:∀W,Below (((w.alloc (FW #[I0 t.z,FV na t.ns.length nc,FV sa t.ss.length sc] 52)).alloc (FW #[I0 xz,I0 xo,I0 xs,S0 xp,S0 xd,I0 xv,I0 xw] 83)).alloc (FW #[I0 0,N0,N0] 52)).heap.size (((w.alloc (FW #[I0 t.z,FV na t.ns.length nc,FV sa t.ss.length sc] 52)).alloc (FW #[I0 xz,I0 xo,I0 xs,S0 xp,S0 xd,I0 xv,I0 xw] 83)).alloc (FW #[I0 0,N0,N0] 52)) W->zZ W w.heap.size t.z (FV na t.ns.length nc) (FV sa t.ss.length sc) ⟨xz,xo,xs,xp,xd,xv,xw⟩/\B0 w W:=fun W h=>⟨(zZ.new w _ _ _ ⟨xz,xo,xs,xp,xd,xv,xw⟩).next h,GZ (GZ (GZ h))⟩;have HKB:=G9 KB;clear KB;go_enter func110,ntmps110;go_wp2_with fail;refine(G8 CA _ (GI (GI (GH _ _) (GH _ _)) (GH _ _))).mono ?_;rintro e w1 ⟨rfl,hb1⟩;obtain⟨b1,B1⟩:=G8 HKB w1 hb1;obtain⟨k0,k1,k2,k3,k4,k5,k6,k7,k8⟩:=b1.cells;have j0:=b1.x.c0;have j1:=b1.x.c1;have j2:=b1.x.c2;have j3:=b1.x.c3;have j4:=b1.x.c4;have j5:=b1.x.c5;have j6:=b1.x.c6;have HB1:=G9 B1;have HX1:=G9 b1;clear hb1 b1 B1;go_wp2_with fail;exact bodyPost_ret (v:=.tuple #[.agg #[I0 0,N0,N0],N0,I0 E]) (by simp[results,results110,go_sem,k3,k4,k5]) rfl (G8 FIN _ _ rfl ((((G8 HB1).setCell (by show w.heap.size<=w.heap.size+1+1;omega) _).setCell (by show w.heap.size<=w.heap.size+1+1;omega) _).setCell (by show w.heap.size<=w.heap.size+1+1;omega) _))
theorem B54{ve:FZ}{v0 v1 v2:FZ}(ha:Z7 t x=0)(hg:Grow W (fun k=>B<=k) b x.z vn vs ve (iK t x) (rE t x) (rF t x))(hq:w.heap.size+3<=B)(hb:B0 w W):
  cZ w t x (.returned (.tuple #[.agg #[I0 x.z,vn,vs],ve,I0 0])) (((W.setCell ⟨w.heap.size+2,0,G6⟩ v0).setCell ⟨w.heap.size+2,1,G6⟩ v1).setCell ⟨w.heap.size+2,2,G6⟩ v2).drew:=by
 have h1:kC t x=⟨x.z,iK t x,rE t x⟩:=by rw[kC,if_pos ha]
 have h2:ZE t x=rF t x:=by rw[ZE,if_pos ha]
 have nn:∀k,vn.ownBlock=G7 k->w.heap.size+3<=k:=fun k hk=>BP hq (hg.fn k hk).1;have ns:∀k,vs.ownBlock=G7 k->w.heap.size+3<=k:=fun k hk=>BP hq (hg.fs k hk).1;have ne:∀k,ve.ownBlock=G7 k->w.heap.size+3<=k:=fun k hk=>BP hq (hg.fe k hk).1;have no:∀ {v:FZ},(∀k,v.ownBlock=G7 k->w.heap.size+3<=k)->v.ownBlock≠G7 (w.heap.size+2):=fun h e=>by have:=h _ e;omega
 refine⟨vn,vs,ve,by rw[h1,ha],?_,?_,?_,?_⟩
 .rw[h1];exact(((hg.n.raise (fun k hk=>by have:=nn k hk;omega)).other (no nn) _).other (no nn) _).other (no nn) _|>.next (AA _ _).drew
 .rw[h1];exact(((hg.s.raise (fun k hk=>by have:=ns k hk;omega)).other (no ns) _).other (no ns) _).other (no ns) _|>.next (AA _ _).drew
 .rw[h2];exact(((hg.e.raise (fun k hk=>by have:=ne k hk;omega)).other (no ne) _).other (no ne) _).other (no ne) _|>.next (AA _ _).drew
 .exact(((hb.setCell (by simp) _).setCell (by simp) _).setCell (by simp) _).drew
theorem B55(t:Tr)(vn vs:FZ)(x:GU)(w:FX)(hn:IK w vn t.ns)(hs:IK w vs t.ss)(hw:WfT t)(hd:x.d.length<=140737488355328)(ha:WY t x=0):
  G5 prog 110 #[.agg #[I0 t.z,vn,vs],JA x] w (cZ w t x):=by
 have CA:=G9 (fun W (hW:B0 w W)=>xP t vn vs x W (hn.next hW) (hs.next hW) hw hd);rw[ha]at CA;obtain⟨g,_⟩:=QT ha;have few:=g.nod.few;have sl:=UF g.ses;have CB:=G9 (fun W (hW:B0 w W)=>B38 t vn vs x.z W (hn.next hW) (hs.next hW) few sl hw.CN0);have CC:=G9 (fun(F:Nat->Prop) b vn' vs' W (hG:Grow W F b x.z vn' vs' (N0) t.ns t.ss []) hF=>AP1 F b t vn' vs' x W hG hF ha);have hap:=AD7 ha;have FNO:=G9 (fun w' e (h0:pI t x≠0) h hb=>AE0 (w:=w) (w':=w') (e:=e) hap h0 h hb);have FYE:=G9 (fun(W:FX) (B b:Nat) (vn vs ve v0 v1 v2:FZ) (h0:pI t x=0) hg hq hb=>B54 (w:=w) (W:=W) (t:=t) (x:=x) (B:=B) (b:=b) (vn:=vn) (vs:=vs) (ve:=ve) (v0:=v0) (v1:=v1) (v2:=v2) (hap.trans h0) hg hq hb);obtain⟨na,nc,rfl⟩:=GL hn;obtain⟨sa,sc,rfl⟩:=GL hs;clear hn hs hw ha hap g few sl;generalize hQ:cZ w t x=Q at FNO FYE⊢;clear hQ;obtain⟨E,hE⟩:∃E,pI t x=E:=⟨_,rfl⟩;unfold Chg at CC;rw[hE]at CC FNO FYE;clear hE;obtain⟨xz,xo,xs,xp,xd,xv,xw⟩:=x;unfold JA at*;simp only at*;have KB:∀W,Below (((w.alloc (FW #[I0 t.z,FV na t.ns.length nc,FV sa t.ss.length sc] 52)).alloc (FW #[I0 xz,I0 xo,I0 xs,S0 xp,S0 xd,I0 xv,I0 xw] 83)).alloc (FW #[I0 0,N0,N0] 52)).heap.size (((w.alloc (FW #[I0 t.z,FV na t.ns.length nc,FV sa t.ss.length sc] 52)).alloc (FW #[I0 xz,I0 xo,I0 xs,S0 xp,S0 xd,I0 xv,I0 xw] 83)).alloc (FW #[I0 0,N0,N0] 52)) W->zZ W w.heap.size t.z (FV na t.ns.length nc) (FV sa t.ss.length sc) ⟨xz,xo,xs,xp,xd,xv,xw⟩/\B0 w W:=fun W h=>⟨(zZ.new w _ _ _ ⟨xz,xo,xs,xp,xd,xv,xw⟩).next h,GZ (GZ (GZ h))⟩;have HKB:=G9 KB;clear KB;go_enter func110,ntmps110;go_wp2_with fail;refine(G8 CA _ (GI (GI (GH _ _) (GH _ _)) (GH _ _))).mono ?_;rintro e w1 ⟨rfl,hb1⟩;obtain⟨b1,B1⟩:=G8 HKB w1 hb1;obtain⟨k0,k1,k2,k3,k4,k5,k6,k7,k8⟩:=b1.cells;have j0:=b1.x.c0;have j1:=b1.x.c1;have j2:=b1.x.c2;have j3:=b1.x.c3;have j4:=b1.x.c4;have j5:=b1.x.c5;have j6:=b1.x.c6;have HB1:=G9 B1;have HX1:=G9 b1;clear hb1 b1 B1;go_wp2_with fail;refine(G8 CB _ (G8 HB1)).mono ?_;rintro e w2 ⟨b,vn2,vs2,rfl,g2,hb2⟩;have b2:=(G8 HX1).next hb2;obtain⟨m0,m1,m2,m3,m4,m5,m6,m7,m8⟩:=b2.cells;have i0:=b2.x.c0;have i1:=b2.x.c1;have i2:=b2.x.c2;have i3:=b2.x.c3;have i4:=b2.x.c4;have i5:=b2.x.c5;have i6:=b2.x.c6;have HB2:=G9 (GI (G8 HB1) hb2);have HX2:=G9 b2;have HG2:=G9 g2;have hsz2:=hb2.size;clear hb2 g2 b2 k0 k1 k2 k3 k4 k5 k6 k7 k8 j0 j1 j2 j3 j4 j5 j6 CB CA;go_wp2_with fail;refine(G8 CC _ _ _ _ _ (G8 HG2) (fun k hk=>BP hsz2 hk)).mono ?_;rintro e w3 ⟨rfl,t3,g3⟩;have q1:=(G8 HX1).lt;have b3:=(G8 HX2).touch t3 (fun k hk=>by omega);obtain⟨n0,n1,n2,n3,n4,n5,n6,n7,n8⟩:=b3.cells;have B3:B0 w w3:=(G8 HB2).trans (t3.below (by omega) (fun k hk=>by omega));have HB3:=G9 B3;clear CC b3 B3 t3 m0 m1 m2 m3 m4 m5 m6 m7 m8 i0 i1 i2 i3 i4 i5 i6;by_cases h0:E=0
 .obtain⟨vn3,vs3,ve3,g3⟩:=g3 h0;have d0:=g3.c0;have d1:=g3.c1;have d2:=g3.c2;have d3:=g3.c3;obtain⟨na3,nc3,hn3,_⟩:=g3.n.slice;obtain⟨sa3,sc3,hs3,_⟩:=g3.s.slice;obtain⟨ea3,ec3,he3,_⟩:=g3.e.slice;have HG3:=G9 g3;have hbl:=g3.lt;have hbq:w1.heap.size<=b:=g3.fb;have hne:b≠w.heap.size+2:=by omega
  have FY:=G9 (fun(v0 v1 v2:FZ)=>G8 FYE w3 w1.heap.size b vn3 vs3 ve3 v0 v1 v2 h0 (G8 HG3) (by omega) (G8 HB3));subst hn3 hs3 he3 h0;clear g3 FYE FNO HG3;go_wp2_with fail;go_region;go_wp2_with fail;exact bodyPost_ret (v:=.tuple #[.agg #[I0 xz,FV na3 (iK t ⟨xz,xo,xs,xp,xd,xv,xw⟩).length nc3,FV sa3 (rE t ⟨xz,xo,xs,xp,xd,xv,xw⟩).length sc3],FV ea3 (rF t ⟨xz,xo,xs,xp,xd,xv,xw⟩).length ec3,I0 0]) (by simp[results,results110,go_sem,n3,n4,n5]) rfl (G8 FY _ _ _)
 .have h0b:(E !=0)=true:=by simpa using h0
  have FN:=G9 (fun w' e h hb=>G8 FNO w' e h0 h hb);clear g3 FYE FNO h0;go_wp2_with fail;exact bodyPost_ret (v:=.tuple #[.agg #[I0 0,N0,N0],N0,I0 E]) (by simp[results,results110,go_sem,n3,n4,n5]) rfl (G8 FN _ _ rfl ((((G8 HB3).setCell (by show w.heap.size<=w.heap.size+1+1;omega) _).setCell (by show w.heap.size<=w.heap.size+1+1;omega) _).setCell (by show w.heap.size<=w.heap.size+1+1;omega) _))
theorem xQ(t:Tr)(vn vs:FZ)(x:GU)(w:FX)(hn:IK w vn t.ns)(hs:IK w vs t.ss)(hw:WfT t)(hd:x.d.length<=140737488355328):
  G5 prog 110 #[.agg #[I0 t.z,vn,vs],JA x] w (cZ w t x):=by
 by_cases ha:WY t x=0
 .exact B55 t vn vs x w hn hs hw hd ha
 .exact B53 t vn vs x w hn hs hw hd ha
def B56(w:FX)(t:Tr)(e:Ending)(w':FX):Prop:=
 ∃vn vs,e=.returned (.agg #[I0 t.z,vn,vs])/\H6 w' w.heap.size vn t.ns/\H6 w' w.heap.size vs t.ss/\B0 w w'
theorem BP2(w:FX):H6 (w.alloc (FW #[.string ⟨#[47]⟩,.string ⟨#[]⟩,I0 0,I0 0,I0 0,I0 0,I0 0,I0 0,I0 0] 104)) w.heap.size (FV (G7 ⟨w.heap.size,0,G6⟩) 1 1) [A14]:=
 .inr ⟨w.heap.size,1,rfl,A8 _,[],by rw[heap_alloc_new];rfl,by decide,by decide,by decide⟩
theorem AE1(w:FX):G5 prog 43 #[] w (B56 w RH):=by
 have H:Hid (B56 w RH (.returned (.agg #[I0 0,FV (G7 ⟨w.heap.size+1,0,G6⟩) 1 1,N0])) ((w.alloc (FW #[I0 0,FV (G7 ⟨w.heap.size+1,0,G6⟩) 1 1,N0] 52)).alloc (FW #[.string ⟨#[47]⟩,.string ⟨#[]⟩,I0 0,I0 0,I0 0,I0 0,I0 0,I0 0,I0 0] 104))):=by
  have h:=BP2 (w.alloc (FW #[I0 0,FV (G7 ⟨w.heap.size+1,0,G6⟩) 1 1,N0] 52));rw[show (w.alloc (FW #[I0 0,FV (G7 ⟨w.heap.size+1,0,G6⟩) 1 1,N0] 52)).heap.size=w.heap.size+1 by simp]at h;exact⟨_,_,rfl,h.lower (by omega),.inl ⟨rfl,rfl⟩,GI (GH _ _) (GH _ _)⟩
 go_enter func43,ntmps43;go_wp2_with fail;exact bodyPost_ret (v:=.agg #[I0 0,FV (G7 ⟨w.heap.size+1,0,G6⟩) 1 1,N0]) (by simp[results,results43,go_sem]) rfl (G8 H)
structure GB(w W:FX)(z:Int)(vn vs:FZ):Prop where
 t:W.heap[w.heap.size]?=G7 (FW #[I0 z,vn,vs] 52 (0,0))
 r:W.heap[w.heap.size+1]?=G7 (FW #[.string ⟨#[]⟩,.string ⟨#[]⟩,I0 0,I0 0,I0 0,I0 0,I0 0,I0 0,I0 0] 104 (0,0))
 b:B0 w W
theorem GB.new(w:FX)(z:Int)(vn vs:FZ):GB w ((w.alloc (FW #[I0 z,vn,vs] 52)).alloc (FW #[.string ⟨#[]⟩,.string ⟨#[]⟩,I0 0,I0 0,I0 0,I0 0,I0 0,I0 0,I0 0] 104)) z vn vs:=by
 refine⟨?_,?_,GI (GH _ _) (GH _ _)⟩
 .rw[(GH _ _).block _ (by simp)];exact heap_alloc_new w _
 .have h:=heap_alloc_new (w.alloc (FW #[I0 z,vn,vs] 52)) (FW #[.string ⟨#[]⟩,.string ⟨#[]⟩,I0 0,I0 0,I0 0,I0 0,I0 0,I0 0,I0 0] 104);rw[show (w.alloc (FW #[I0 z,vn,vs] 52)).heap.size=w.heap.size+1 by simp]at h;exact h
theorem GB.lt(h:GB w W z vn vs):w.heap.size+1<W.heap.size:=(AL.1 h.r).1
theorem GB.next(h:GB w W z vn vs)(hb:B0 W V):GB w V z vn vs:=by
 have:=h.lt;exact⟨(hb.block _ (by omega)).trans h.t,(hb.block _ (by omega)).trans h.r,GI h.b hb⟩
theorem GB.c1(h:GB w W z vn vs):W.cell? ⟨w.heap.size,1,G6⟩=G7 vn:=by simp[AX,h.t]
theorem GB.one(h:GB w W z vn vs):JM W (w.heap.size+1) WU:=h.r
theorem BP3(z:Int)(vn vs:FZ)(ns A B:List Nd)(p:List UInt8)(w:FX)(hn:IK w vn ns)(hl:ns.length<=100000)(G:oI ns A B p):
  G5 prog 51 #[.agg #[I0 z,vn,vs],S0 p] w (R0 w (.tuple #[UO WU,I0 7])):=by
 have CF:=G9 (fun W (hW:B0 w W)=>NQ vn ns A B p W (hn.next hW) hl G);have B0:=G9 (GB.new w z vn vs);obtain⟨na,nc,rfl⟩:=GL hn;clear hn G;go_enter func51,ntmps51;go_wp2_with fail;refine(G8 CF _ (G8 B0).b).mono ?_;rintro e w1 ⟨rfl,hb1⟩;have b1:=(G8 B0).next hb1;have o1:=b1.one;have c0:=o1.JL 0 _ rfl;have c1:=o1.JL 1 _ rfl;have c2:=o1.JL 2 _ rfl;have c3:=o1.JL 3 _ rfl;have c4:=o1.JL 4 _ rfl;have c5:=o1.JL 5 _ rfl;have c6:=o1.JL 6 _ rfl;have c7:=o1.JL 7 _ rfl;have c8:=o1.JL 8 _ rfl;have f0:=o1.J9 0;have f1:=o1.J9 1;have f2:=o1.J9 2;have f3:=o1.J9 3;have f4:=o1.J9 4;have f5:=o1.J9 5;have f6:=o1.J9 6;have f7:=o1.J9 7;have f8:=o1.J9 8;have BB:=b1.b;have HBB:=G9 BB;clear CF B0 hb1 b1 o1 BB;go_wp2_with fail;have BB:=G8 HBB;exact bodyPost_ret (v:=.tuple #[UO WU,I0 7]) (by simp[results,results51,go_sem,UO,WU,c0,c1,c2,c3,c4,c5,c6,c7,c8]) rfl
  ⟨rfl,((((((((BB.setCell (by simp) _).setCell (by simp) _).setCell (by simp) _).setCell (by simp) _).setCell (by simp) _).setCell (by simp) _).setCell (by simp) _).setCell (by simp) _).setCell (by simp) _⟩
theorem AP5(z:Int)(vn vs:FZ)(ns A B:List Nd)(n:Nd)(p:List UInt8)(w:FX)(hn:IK w vn ns)(hl:ns.length<=100000)(T:KL ns A n B p)(hp:n.p.length<=140737488355328)(hd:n.d.length<=140737488355328):
  G5 prog 51 #[.agg #[I0 z,vn,vs],S0 p] w (R0 w (.tuple #[UO n,I0 0])):=by
 have CF:=G9 (fun W (hW:B0 w W)=>JX vn ns A B n p W (hn.next hW) hl T);have CC:=G9 (fun W=>ZW n W hp hd);unfold UO at CC;have hlt:A.length<ns.length:=by rw[T.eq];simp
 have hat:ns[A.length]?=G7 n:=by rw[T.eq];exact VE A n B
 obtain⟨b,off,cap,rfl,hb,hr,_,_⟩:=MZ hn (by rw[T.eq];simp);have HR:=G9 (fun W (hW:B0 w W)=>hr.kept hW hb);have B0:=G9 (GB.new w z (FV (G7 ⟨b,off,G6⟩) ns.length cap) vs);clear hn T hr;have HAT:=G9 hat;clear hat;go_enter func51,ntmps51;go_wp2_with fail;refine(G8 CF _ (G8 B0).b).mono ?_;rintro e w1 ⟨rfl,hb1⟩;have b1:=(G8 B0).next hb1;have HB1:=G9 b1;have e1:=b1.c1;have q:=G8 HR w1 b1.b;have d0:=q.n0 (G8 HAT);have d1:=q.n1 (G8 HAT);have d2:=q.n2 (G8 HAT);have d3:=q.n3 (G8 HAT);have d4:=q.n4 (G8 HAT);have d5:=q.n5 (G8 HAT);have d6:=q.n6 (G8 HAT);have d7:=q.n7 (G8 HAT);have d8:=q.n8 (G8 HAT);clear q CF b1 hb1;go_wp2_with fail;refine(G8 CC _).mono ?_;rintro e w2 ⟨rfl,hb2⟩;have b2:=(G8 HB1).next hb2;have o1:=b2.one;have c0:=o1.JL 0 _ rfl;have c1:=o1.JL 1 _ rfl;have c2:=o1.JL 2 _ rfl;have c3:=o1.JL 3 _ rfl;have c4:=o1.JL 4 _ rfl;have c5:=o1.JL 5 _ rfl;have c6:=o1.JL 6 _ rfl;have c7:=o1.JL 7 _ rfl;have c8:=o1.JL 8 _ rfl;have f0:=o1.J9 0;have f1:=o1.J9 1;have f2:=o1.J9 2;have f3:=o1.J9 3;have f4:=o1.J9 4;have f5:=o1.J9 5;have f6:=o1.J9 6;have f7:=o1.J9 7;have f8:=o1.J9 8;have HBB:=G9 b2.b;clear b2 hb2 o1 CC d0 d1 d2 d3 d4 d5 d6 d7 d8 e1;go_wp2_with fail;have BB:=G8 HBB;exact bodyPost_ret (v:=.tuple #[UO n,I0 0]) (by simp[results,results51,go_sem,UO,c0,c1,c2,c3,c4,c5,c6,c7,c8]) rfl
  ⟨rfl,((((((((BB.setCell (by simp) _).setCell (by simp) _).setCell (by simp) _).setCell (by simp) _).setCell (by simp) _).setCell (by simp) _).setCell (by simp) _).setCell (by simp) _).setCell (by simp) _⟩
theorem dA:SN RH:=by
 refine⟨by decide,⟨List.Pairwise.nil,by simp[RH]⟩,⟨by decide,⟨A14,[],rfl,rfl,rfl⟩,List.pairwise_singleton _ _,?_⟩,?_⟩
 .intro n hn;obtain rfl:n=A14:=by simpa [RH]using hn
  refine⟨by decide,eX,fun h=>absurd rfl h,by decide,by decide,by decide,by decide,by decide,by decide,by decide,by decide,?_,.inl rfl⟩;show (0:Int)=OA [A14] [47];simp[OA,A14,V6]
 .intro n hn;obtain rfl:n=A14:=by simpa [RH]using hn
  decide
theorem SN.wf(g:SN t):WfT t:=by
 refine⟨fun s hs=>by have:=g.ses.2 s hs;omega,fun n hn=>?_⟩;have k:=g.nod.ok n hn;have:=MR k.path;have:=k.data;omega
