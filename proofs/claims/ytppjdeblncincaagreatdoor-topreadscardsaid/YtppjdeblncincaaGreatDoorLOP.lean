/-
  Part.
-/
import Derived.Test.YtppjdeblncincaaGreatDoorLOO
set_option maxRecDepth 20000
set_option maxHeartbeats 8000000
namespace Go.Proofs.YtppjdeblncincaaGreatDoor
open Go.RowKit Go.Proofs.Tryz
open _root_.Nat renaming le_refl->A8,lt_of_lt_of_le->AY,zero_le->AZ
open Go.RowKit.Below renaming refl->AA
open _root_.Array renaming getElem?_eq_some_iff->AL
open _root_.List renaming getElem?_eq_getElem->AO,getElem?_eq_some_iff->AV,mem_of_getElem?->BA,mem_cons->BQ,mem_append->C9,mem_map->EZ
open _root_.And renaming intro->DC
open Go.Value renaming slice->FU
open Go.Obj renaming cells->FV
open Go renaming World->FW,Value->FX,Calls->FZ
open _root_.Option renaming none->G5,some->G6
variable{t:Tr}{x:GN}{p:List UInt8}{z more:Int}{ns:List Nd}{n:Nd}{w w':FW}{P:Prop}{k:Nat}{ss:List Int}
def oG(t:Tr)(x:GN):Int:=if lZ t x≠0 then lZ t x else if YR (gJ t x)=true then 6 else 0
theorem BL4(h:WJ t x≠0):YS t x=WJ t x:=by rw[YS,if_pos h]
theorem AA7(h:WJ t x=0):YS t x=oG t x:=by rw[YS,if_neg (by omega),oG]
theorem QE{E:Int}(h:lZ t x=E)(h0:E≠0):oG t x=E:=by rw[oG,if_pos (by omega),h]
theorem kG(h:lZ t x=0)(hf:YR (gJ t x)=true):oG t x=6:=by rw[oG,if_neg (by omega),if_pos hf]
theorem dW(h:lZ t x=0)(hf:YR (gJ t x)=false):oG t x=0:=by rw[oG,if_neg (by omega),if_neg (by simp[hf])]
theorem rF(p:List UInt8)(z more:Int)(ns:List Nd):(O9 p z more ns).length=ns.length:=by rw[O9,List.length_map]
theorem AL0(h:n∈O9 p z more ns):∃m∈ns,n=(if m.p=p then bump z more m else m):=by
 rw[O9]at h;obtain⟨m,hm,rfl⟩:=EZ.1 h;exact⟨m,hm,rfl⟩
theorem AL1{m:Nd}(h:m∈ns)(hp:m.p=p):bump z more m∈O9 p z more ns:=by
 rw[O9];exact EZ.2 ⟨m,h,by rw[if_pos hp]⟩
theorem B16{u:Nd}(h:u∈ns)(hp:u.p=p)(hk:u.k=2147483647):YR (O9 p z more ns)=true:=
 nP.2 ⟨_,AL1 h hp,by show 2147483647<u.k+1;omega⟩
theorem B17{u:Nd}(ha:tK ns)(h:u∈ns)(hp:u.p=p)(hk:u.k<2147483647)(hc:∀n∈ns,n.k<=2147483647):YR (O9 p z more ns)=false:=by
 rw[OE];intro n hn;obtain⟨m,hm,rfl⟩:=AL0 hn
 split
 .rename_i e
  have:m=u:=UH ha hm h (by rw[e,hp]);subst this;show m.k+1<=_;omega
 .exact hc m hm
def Chg(F:Nat->Prop)(b:Nat)(t:Tr)(x:GN)(w:FW)(e:Ending)(w':FW):Prop:=
 e=.returned (I0 (oG t x))/\Touch F w w'/\(oG t x=0->∃vn vs ve,Grow w' F b x.z vn vs ve (gJ t x) (qH t x) (qI t x))
theorem Chg.no{F:Nat->Prop}{b:Nat}{e:Ending}{E:Int}(h:e=.returned (I0 E)/\Touch F w w')(hE:oG t x=E)(h0:E≠0):Chg F b t x w e w':=
 ⟨by rw[hE];exact h.1,h.2,fun h'=>by omega⟩
theorem C46(F:Nat->Prop)(b:Nat)(t:Tr)(vn vs ve:FX)(x:GN)(w:FW)(h:Grow w F b x.z vn vs ve t.ns t.ss [])(hF:∀k,w.heap.size<=k->F k)(ha:WJ t x=0)(ho:x.o=3):
  FZ prog 198 #[P0 b,J9 x] w (Chg F b t x w):=by
 obtain⟨g,hg,hz,h1,h2⟩:=QC ha;have f:=ZI hg;obtain⟨hp1,hp2⟩:=f.path (.inl ho);have hpl:=MO hp1;have hdl:=f.d;have hdo:=WY x.p;have hE:lZ t x=AH2 t x:=by rw[lZ,if_pos ho]
 have hN:gJ t x=uN x.z t.ns (A80 x):=by rw[gJ,if_neg (by omega),if_pos ho]
 have hS:qH t x=t.ss:=by rw[qH,if_neg (by omega),if_neg (by omega)]
 have hV:qI t x=[⟨1,x.p⟩,⟨4,IK x.p⟩]:=by rw[qI,if_neg (by omega),if_pos ho]
 have few:=g.nod.few;rcases YV x.p t.ns g.nod.asc with⟨A,n,B,T⟩|⟨A,B,G⟩
 .refine(B07 F b x.z vn vs ve t.ns A B n t.ss [] x w h T few g.nod.asc).mono fun e w' q=>Chg.no q ?_ (by decide);exact QE (by rw[hE,AH2,T.look,if_pos (by rfl)]) (by decide)
 .rcases YV (IK x.p) t.ns g.nod.asc with⟨A',u,B',U⟩|⟨A',B',U⟩
  .by_cases hu:u.o=0
   .have hum:u∈t.ns:=by rw[U.eq];simp
    have ku:=g.nod.ok u hum;have hkc:=g.cap u hum;have hkn:=ku.kids;have hkl:NW t.ns u.p<=t.ns.length:=List.countP_le_length;by_cases hw:x.w=0\/x.w=x.s
    .by_cases hf:t.ns.length=400
     .have hc:AH2 t x=6:=by
       rw[AH2,G.look,if_neg (by simp),U.look];simp only;rw[if_neg (by omega),if_neg (by rintro⟨a,c⟩;rcases hw with e|e<;>omega),if_pos hf]
      by_cases hw0:x.w=0
      .exact(B09 F b x.z vn vs ve t.ns A B A' B' u t.ss [] x w h G U hu hw0 hf).mono fun e w' q=>Chg.no q (QE (by rw[hE,hc]) (by decide)) (by decide)
      .exact(B12 F b x.z vn vs ve t.ns A B A' B' u t.ss [] x w h G U hu hw0 (by omega) hf).mono fun e w' q=>Chg.no q (QE (by rw[hE,hc]) (by decide)) (by decide)
     .have hc:AH2 t x=0:=by
       rw[AH2,G.look,if_neg (by simp),U.look];simp only;rw[if_neg (by omega),if_neg (by rintro⟨a,c⟩;rcases hw with e|e<;>omega),if_neg hf]
      have gn:PL x.z t.ns t.ss:=g.nod.mono (by omega);have hsm:x.s∈t.ss:=h2 (by omega);have ga:=A79 (x:=A80 x) gn G (by omega) hp1 hp2 ⟨u,hum,U.nm,hu⟩ f.d f.z.1 rfl rfl rfl rfl rfl rfl (by
       rcases hw with c|c
       .exact .inl c
       .exact .inr (by show x.w∈t.ss;rw[c];exact hsm))
      have hins:CR9 t.ns (A80 x)=A++A80 x::B:=G.ins;have hasc:tK (A++A80 x::B):=by
       have:=(OL _).1 ga.asc;rw[uN,WW,hins]at this;exact(OL _).2 this
      have CU9:u∈A++A80 x::B:=by
       have:=hum;rw[G.eq]at this;rcases C9.1 this with e|e<;>simp[e]
      obtain⟨A2,B2,U2⟩:∃A2 B2,KJ (A++A80 x::B) A2 u B2 (IK x.p):=by
       rw[<-U.nm];exact RN hasc (aP hasc CU9)
      have hlen:(A++A80 x::B).length<=400:=by rw[<-hins,<-rF (IK x.p) x.z 1];exact ga.few
      by_cases hk:u.k=2147483647
      .have hfu:oG t x=6:=kG (by rw[hE,hc]) (by rw[hN,uN,hins];exact B16 CU9 U.nm hk);have P:∀W vn' ve',Grow W F b x.z vn' vs ve' (A++A80 x::B) t.ss ([]++[⟨1,x.p⟩])->w.heap.size<=W.heap.size->Touch F w W->FZ prog 230 #[P0 b,S0 (IK x.p),I0 1] W fun e w'=>e=.returned (I0 6)/\Touch F w w':=by
        intro W vn' ve' hG hs ht;refine(kD F b x.z vn' vs ve' _ A2 B2 u t.ss _ (IK x.p) 1 W hG U2 hlen hk).mono ?_;rintro e w' ⟨rfl,t'⟩;exact⟨rfl,ht.trans t'⟩
       exact(AA6 F b x.z vn vs ve t.ns A B A' B' u 6 _ t.ss [] x w h hF G U few hu hw (by omega) (by omega) (by omega) (by simp) P).mono fun e w' q=>Chg.no q hfu (by decide)
      .have CV0:∀n∈A++A80 x::B,n.k<=2147483647:=by
        intro n hn;rcases C9.1 hn with e|e
        .exact g.cap n (by rw[G.eq];simp[e])
        .rcases BQ.1 e with rfl|e
         .show (0:Int)<=_;decide
         .exact g.cap n (by rw[G.eq];simp[e])
       have hfu:oG t x=0:=dW (by rw[hE,hc]) (by rw[hN,uN,hins];exact B17 hasc CU9 U.nm (by omega) CV0);have P:∀W vn' ve',Grow W F b x.z vn' vs ve' (A++A80 x::B) t.ss ([]++[⟨1,x.p⟩])->w.heap.size<=W.heap.size->Touch F w W->FZ prog 230 #[P0 b,S0 (IK x.p),I0 1] W fun e w'=>e=.returned (I0 0)/\((∃vn' ve',Grow w' F b x.z vn' vs ve' (gJ t x) t.ss (qI t x))/\Touch F w w'):=by
        intro W vn' ve' hG hs ht;refine(wC F b x.z vn' vs ve' _ A2 B2 u t.ss _ (IK x.p) 1 W hG (fun k hk=>hF k (by omega)) U2 hlen ⟨ku.k0,by omega⟩ (by omega) (by omega) (by omega) (by simp)).mono ?_;rintro e w' ⟨rfl,ve2,g',t'⟩;refine⟨rfl,⟨vn',ve2,?_⟩,ht.trans t'⟩;have e1:gJ t x=A2++bump x.z 1 u::B2:=by
         rw[hN,uN,hins];exact U2.bump x.z 1
        rw[e1,hV];exact g'
       have fin:∀ (e:Ending) (w':FW),(e=.returned (I0 0)/\((∃vn' ve',Grow w' F b x.z vn' vs ve' (gJ t x) t.ss (qI t x))/\Touch F w w'))->Chg F b t x w e w':=by
        rintro e w' ⟨rfl,⟨vn',ve',g'⟩,t'⟩;exact⟨by rw[hfu],t',fun _=>⟨vn',vs,ve',by rw[hS];exact g'⟩⟩
       exact(AA6 F b x.z vn vs ve t.ns A B A' B' u 0 _ t.ss [] x w h hF G U few hu hw (by omega) (by omega) (by omega) (by simp) P).mono fin
    .have hw1:x.w≠0:=fun e=>hw (.inl e);have hw2:x.w≠x.s:=fun e=>hw (.inr e);refine(C45 F b x.z vn vs ve t.ns A B A' B' u t.ss [] x w h G U few hu hw1 hw2).mono fun e w' q=>Chg.no q ?_ (by decide);refine QE ?_ (by decide);rw[hE,AH2,G.look,if_neg (by simp),U.look];simp only;rw[if_neg (by omega),if_pos ⟨hw1,hw2⟩]
   .refine(B08 F b x.z vn vs ve t.ns A B A' B' u t.ss [] x w h G U few hu).mono fun e w' q=>Chg.no q ?_ (by decide);refine QE ?_ (by decide);rw[hE,AH2,G.look,if_neg (by simp),U.look];simp only;rw[if_pos hu]
  .refine(BL0 F b x.z vn vs ve t.ns A B A' B' t.ss [] x w h G U few).mono fun e w' q=>Chg.no q ?_ (by decide);refine QE ?_ (by decide);rw[hE,AH2,G.look,if_neg (by simp),U.look]
theorem C47(F:Nat->Prop)(b:Nat)(t:Tr)(vn vs ve:FX)(x:GN)(w:FW)(h:Grow w F b x.z vn vs ve t.ns t.ss [])(hF:∀k,w.heap.size<=k->F k)(ha:WJ t x=0)(ho:x.o=4):
  FZ prog 199 #[P0 b,S0 x.p] w (Chg F b t x w):=by
 obtain⟨g,hg,hz,h1,h2⟩:=QC ha;have f:=ZI hg;obtain⟨hp1,hp2⟩:=f.path (.inr ho);have hpl:=MO hp1;have hdo:=WY x.p;have few:=g.nod.few;have hE:lZ t x=BG7 t x:=by rw[lZ,if_neg (by omega),if_pos ho]
 have hN:gJ t x=rmN x.z t.ns x.p:=by rw[gJ,if_neg (by omega),if_neg (by omega),if_pos ho]
 have hS:qH t x=t.ss:=by rw[qH,if_neg (by omega),if_neg (by omega)]
 have hV:qI t x=[⟨2,x.p⟩,⟨4,IK x.p⟩]:=by rw[qI,if_neg (by omega),if_neg (by omega),if_pos ho]
 rcases YV x.p t.ns g.nod.asc with⟨A,n,B,T⟩|⟨A,B,G⟩
 .have hn:n∈t.ns:=by rw[T.eq];simp
  by_cases hk:n.n=0
  .have hd0:BG7 t x=0:=by rw[BG7,T.look];simp only;rw[if_neg (by omega)]
   have gn:PL x.z t.ns t.ss:=g.nod.mono (by omega);obtain⟨u,hu1,hu2,hu3,hu4,hu5⟩:=AV1 gn hn (by rw[T.nm];exact hp2);rw[T.nm]at hu1 hu3 hu4;obtain⟨A',B',T'⟩:=nT gn.asc T hu2 hu3 hu4;have ku:=gn.ok u hu2;have hkc:=g.cap u hu2;have hkn:=ku.kids;have hkl:NW t.ns u.p<=t.ns.length:=List.countP_le_length;by_cases hf:u.k=2147483647
   .refine(kF F b x.z vn vs ve t.ns A B A' B' n u t.ss [] x.p w h hF T T' few hk hf (by omega) (by simp)).mono fun e w' q=>Chg.no q ?_ (by decide);exact kG (by rw[hE,hd0]) (by rw[hN];exact AV6 hu2 hu3 hu4 hf [] (by simp))
   .refine(wF F b x.z vn vs ve t.ns A B A' B' n u t.ss [] x.p w h hF T T' few hk ⟨ku.k0,by omega⟩ (by omega) (by omega) (by omega) (by simp)).mono ?_;rintro e w' ⟨rfl,vn',ve',g',t'⟩;have hc:oG t x=0:=dW (by rw[hE,hd0]) (by rw[hN,OE];exact BX1 gn.asc hu2 hu3 (by omega) g.cap);exact⟨by rw[hc],t',fun _=>⟨vn',vs,ve',by rw[hN,hS,hV];exact g'⟩⟩
  .refine(A17 F b x.z vn vs ve t.ns A B n t.ss [] x.p w h T few hk).mono fun e w' q=>Chg.no q ?_ (by decide);exact QE (by rw[hE,BG7,T.look];simp only;rw[if_pos hk]) (by decide)
 .refine(AK8 F b x.z vn vs ve t.ns A B t.ss [] x.p w h G few).mono fun e w' q=>Chg.no q ?_ (by decide);exact QE (by rw[hE,BG7,G.look]) (by decide)
theorem C48(F:Nat->Prop)(b:Nat)(t:Tr)(vn vs ve:FX)(x:GN)(w:FW)(h:Grow w F b x.z vn vs ve t.ns t.ss [])(hF:∀k,w.heap.size<=k->F k)(ha:WJ t x=0)(ho:x.o=5):
  FZ prog 200 #[P0 b,J9 x] w (Chg F b t x w):=by
 obtain⟨g,hg,hz,h1,h2⟩:=QC ha;have f:=ZI hg;have hpl:=MO (f.CU1 ho);have hdl:=f.d;have few:=g.nod.few;have hE:lZ t x=CF2 t x:=by rw[lZ,if_neg (by omega),if_neg (by omega),if_pos ho]
 have hN:gJ t x=AU9 x.p x.d x.v x.z t.ns:=by rw[gJ,if_neg (by omega),if_neg (by omega),if_neg (by omega),if_pos ho]
 have hS:qH t x=t.ss:=by rw[qH,if_neg (by omega),if_neg (by omega)]
 have hV:qI t x=[⟨3,x.p⟩]:=by rw[qI,if_neg (by omega),if_neg (by omega),if_neg (by omega),if_pos ho]
 rcases YV x.p t.ns g.nod.asc with⟨A,n,B,T⟩|⟨A,B,G⟩
 .have hn:n∈t.ns:=by rw[T.eq];simp
  have kn:=g.nod.ok n hn;by_cases hv:x.v=n.v+1
  .refine(CJ2 F b x.z vn vs ve t.ns A B n t.ss [] x w h hF T few ⟨kn.v0,kn.v1⟩ (by omega) (by omega) (by simp) hv).mono ?_;rintro e w' ⟨rfl,ve',g',t'⟩;have hc:oG t x=0:=dW (by rw[hE,CF2,T.look];simp only;rw[if_neg (by omega)]) (by
    rw[hN,OE];intro m hm;rw[AU9]at hm;obtain⟨m',hm',rfl⟩:=EZ.1 hm
    split
    .exact g.cap m' hm'
    .exact g.cap m' hm')
   exact⟨by rw[hc],t',fun _=>⟨vn,vs,ve',by rw[hN,hS,hV,T.put];exact g'⟩⟩
  .refine(C44 F b x.z vn vs ve t.ns A B n t.ss [] x w h hF T few ⟨kn.v0,kn.v1⟩ (by omega) (by omega) (by simp) hv).mono fun e w' q=>Chg.no q ?_ (by decide);exact QE (by rw[hE,CF2,T.look];simp only;rw[if_pos hv]) (by decide)
 .refine(C43 F b x.z vn vs ve t.ns A B t.ss [] x w h G few).mono fun e w' q=>Chg.no q ?_ (by decide);exact QE (by rw[hE,CF2,G.look]) (by decide)
theorem C49(F:Nat->Prop)(b:Nat)(t:Tr)(vn vs ve:FX)(x:GN)(w:FW)(h:Grow w F b x.z vn vs ve t.ns t.ss [])(hF:∀k,w.heap.size<=k->F k)(ha:WJ t x=0)(ho:x.o=2):
  FZ prog 197 #[P0 b,I0 x.s] w (Chg F b t x w):=by
 obtain⟨g,hg,hz,h1,h2⟩:=QC ha;have f:=ZI hg;have gn:PL x.z t.ns t.ss:=g.nod.mono (by omega);have hE:lZ t x=0:=by rw[lZ,if_neg (by omega),if_neg (by omega),if_neg (by omega)]
 have hN:gJ t x=QX x.z t.ns (OM t.ns x.s):=by rw[gJ,if_pos ho]
 have hS:qH t x=AH1 t.ss x.s:=by rw[qH,if_neg (by omega),if_pos ho]
 have hV:qI t x=AV3 (OM t.ns x.s):=by rw[qI,if_pos ho]
 have hm:=h2 (by omega);rcases uM x.s t.ss g.ses.1 with⟨A,B,T⟩|⟨A,B,G⟩
 .refine(B15 F b x.z vn vs ve t.ns t.ss A B t.ss x.s w h hF T (TN g.ses) ⟨gn,nR gn (by have:=f.s;omega),g.cap⟩).mono ?_;rintro e w' (⟨hf,rfl,t'⟩|⟨hf,rfl,vn',vs',ve',g',t'⟩)
  .exact Chg.no ⟨rfl,t'⟩ (kG hE (by rw[hN];exact hf)) (by decide)
  .have hc:oG t x=0:=dW hE (by rw[hN];exact hf);exact⟨by rw[hc],t',fun _=>⟨vn',vs',ve',by rw[hN,hS,hV,T.drop];exact g'⟩⟩
 .exact absurd hm G.not
theorem C50(F:Nat->Prop)(b:Nat)(t:Tr)(vn vs:FX)(x:GN)(w:FW)(h:Grow w F b x.z vn vs (N0) t.ns t.ss [])(hF:∀k,w.heap.size<=k->F k)(ha:WJ t x=0)(ho:x.o=1):
  FZ prog 196 #[P0 b,I0 x.s] w fun e w'=>e=.returned (.tuple #[])/\Chg F b t x w (.returned (I0 0)) w':=by
 obtain⟨g,hg,hz,h1,h2⟩:=QC ha;have f:=ZI hg;have hE:lZ t x=0:=by rw[lZ,if_neg (by omega),if_neg (by omega),if_neg (by omega)]
 have hN:gJ t x=t.ns:=by rw[gJ,if_neg (by omega),if_neg (by omega),if_neg (by omega),if_neg (by omega)]
 have hS:qH t x=C17 t.ss x.s:=by rw[qH,if_pos ho]
 have hV:qI t x=[]:=by rw[qI,if_neg (by omega),if_neg (by omega),if_neg (by omega),if_neg (by omega)]
 have hm:=h1 ho;rcases uM x.s t.ss g.ses.1 with⟨A,B,T⟩|⟨A,B,G⟩
 .exact absurd T.mem hm
 .have hl:t.ss.length<=2147483646:=by
   have h3:=TN (A78 g.ses f.s hm);rw[G.ins]at h3;rw[G.eq];simp at h3⊢;omega
  refine(BL2 F b x.z vn vs _ t.ns t.ss A B [] x.s w h hF G hl).mono ?_;rintro e w' ⟨rfl,vs',g',t'⟩;have hc:oG t x=0:=dW hE (by rw[hN,OE];exact g.cap);exact⟨rfl,by rw[hc],t',fun _=>⟨vn,vs',_,by rw[hN,hS,hV,G.ins];exact g'⟩⟩
theorem Chg.boxed{F:Nat->Prop}{b:Nat}{o:Obj}{e:Ending}(h:Chg F b t x (w.alloc o) e w'):Chg F b t x w e w':=
 ⟨h.1,(Touch.of_below (G9 w o)).trans h.2.1,h.2.2⟩
theorem AL2(F:Nat->Prop)(b:Nat)(t:Tr)(vn vs:FX)(x:GN)(w:FW)(h:Grow w F b x.z vn vs (N0) t.ns t.ss [])(hF:∀k,w.heap.size<=k->F k)(ha:WJ t x=0)(ho:x.o=1):
  FZ prog 171 #[P0 b,J9 x] w (Chg F b t x w):=by
 have C:=C50 F b t vn vs x (w.alloc (FV #[I0 x.z,I0 x.o,I0 x.s,S0 x.p,S0 x.d,I0 x.v,I0 x.w] 79)) (h.next (G9 _ _)) (fun k hk=>hF k (by simp at hk;omega)) ha ho;clear h hF ha;have HO:=G8 ho;obtain⟨xz,xo,xs,xp,xd,xv,xw⟩:=x;unfold J9;simp only at C ho⊢;subst ho;have HC:=G8 C;clear C;go_enter func171,ntmps171;go_wp2_with fail;refine(G7 HC).mono ?_;rintro e w1 ⟨rfl,hc⟩;have HQ:=G8 hc.boxed;clear hc HC;go_wp2_with fail;go_ret;exact G7 HQ
theorem AL3(F:Nat->Prop)(b:Nat)(t:Tr)(vn vs:FX)(x:GN)(w:FW)(h:Grow w F b x.z vn vs (N0) t.ns t.ss [])(hF:∀k,w.heap.size<=k->F k)(ha:WJ t x=0)(ho:x.o=2):
  FZ prog 171 #[P0 b,J9 x] w (Chg F b t x w):=by
 have C:=C49 F b t vn vs _ x (w.alloc (FV #[I0 x.z,I0 x.o,I0 x.s,S0 x.p,S0 x.d,I0 x.v,I0 x.w] 79)) (h.next (G9 _ _)) (fun k hk=>hF k (by simp at hk;omega)) ha ho;clear h hF ha;have HO:=G8 ho;obtain⟨xz,xo,xs,xp,xd,xv,xw⟩:=x;unfold J9;simp only at C ho⊢;subst ho;have HC:=G8 C;clear C;go_enter func171,ntmps171;go_wp2_with fail;refine(G7 HC).mono ?_;rintro e w1 hc;obtain⟨rfl,hc'⟩:=hc.boxed;have HQ:=G8 hc';clear hc hc' HC;go_wp2_with fail;go_ret;exact⟨rfl,G7 HQ⟩
theorem AL4(F:Nat->Prop)(b:Nat)(t:Tr)(vn vs:FX)(x:GN)(w:FW)(h:Grow w F b x.z vn vs (N0) t.ns t.ss [])(hF:∀k,w.heap.size<=k->F k)(ha:WJ t x=0)(ho:x.o=3):
  FZ prog 171 #[P0 b,J9 x] w (Chg F b t x w):=by
 have C:=C46 F b t vn vs _ x (w.alloc (FV #[I0 x.z,I0 x.o,I0 x.s,S0 x.p,S0 x.d,I0 x.v,I0 x.w] 79)) (h.next (G9 _ _)) (fun k hk=>hF k (by simp at hk;omega)) ha ho;clear h hF ha;have HO:=G8 ho;obtain⟨xz,xo,xs,xp,xd,xv,xw⟩:=x;unfold J9 at C⊢;simp only at C ho⊢;subst ho;have HC:=G8 C;clear C;go_enter func171,ntmps171;go_wp2_with fail;refine(G7 HC).mono ?_;rintro e w1 hc;obtain⟨rfl,hc'⟩:=hc.boxed;have HQ:=G8 hc';clear hc hc' HC;go_wp2_with fail;go_ret;exact⟨rfl,G7 HQ⟩
theorem AL5(F:Nat->Prop)(b:Nat)(t:Tr)(vn vs:FX)(x:GN)(w:FW)(h:Grow w F b x.z vn vs (N0) t.ns t.ss [])(hF:∀k,w.heap.size<=k->F k)(ha:WJ t x=0)(ho:x.o=4):
  FZ prog 171 #[P0 b,J9 x] w (Chg F b t x w):=by
 have C:=C47 F b t vn vs _ x (w.alloc (FV #[I0 x.z,I0 x.o,I0 x.s,S0 x.p,S0 x.d,I0 x.v,I0 x.w] 79)) (h.next (G9 _ _)) (fun k hk=>hF k (by simp at hk;omega)) ha ho;clear h hF ha;have HO:=G8 ho;obtain⟨xz,xo,xs,xp,xd,xv,xw⟩:=x;unfold J9;simp only at C ho⊢;subst ho;have HC:=G8 C;clear C;go_enter func171,ntmps171;go_wp2_with fail;refine(G7 HC).mono ?_;rintro e w1 hc;obtain⟨rfl,hc'⟩:=hc.boxed;have HQ:=G8 hc';clear hc hc' HC;go_wp2_with fail;go_ret;exact⟨rfl,G7 HQ⟩
theorem AL6(F:Nat->Prop)(b:Nat)(t:Tr)(vn vs:FX)(x:GN)(w:FW)(h:Grow w F b x.z vn vs (N0) t.ns t.ss [])(hF:∀k,w.heap.size<=k->F k)(ha:WJ t x=0)(ho:x.o=5):
  FZ prog 171 #[P0 b,J9 x] w (Chg F b t x w):=by
 have C:=C48 F b t vn vs _ x (w.alloc (FV #[I0 x.z,I0 x.o,I0 x.s,S0 x.p,S0 x.d,I0 x.v,I0 x.w] 79)) (h.next (G9 _ _)) (fun k hk=>hF k (by simp at hk;omega)) ha ho;clear h hF ha;have HO:=G8 ho;obtain⟨xz,xo,xs,xp,xd,xv,xw⟩:=x;unfold J9 at C⊢;simp only at C ho⊢;subst ho;have HC:=G8 C;clear C;go_enter func171,ntmps171;go_wp2_with fail;refine(G7 HC).mono ?_;rintro e w1 hc;obtain⟨rfl,hc'⟩:=hc.boxed;have HQ:=G8 hc';clear hc hc' HC;go_wp2_with fail;go_ret;exact⟨rfl,G7 HQ⟩
theorem AL7(F:Nat->Prop)(b:Nat)(t:Tr)(vn vs:FX)(x:GN)(w:FW)(h:Grow w F b x.z vn vs (N0) t.ns t.ss [])(hF:∀k,w.heap.size<=k->F k)(ha:WJ t x=0):
  FZ prog 171 #[P0 b,J9 x] w (Chg F b t x w):=by
 have f:=(ZI (QC ha).2.1).op;by_cases h1:x.o=1
 .exact AL2 F b t vn vs x w h hF ha h1
 .by_cases h2:x.o=2
  .exact AL3 F b t vn vs x w h hF ha h2
  .by_cases h3:x.o=3
   .exact AL4 F b t vn vs x w h hF ha h3
   .by_cases h4:x.o=4
    .exact AL5 F b t vn vs x w h hF ha h4
    .exact AL6 F b t vn vs x w h hF ha (by omega)
noncomputable def pd(P:Prop):Bool:= @decide P (Classical.propDecidable _)
theorem SV(h:P):pd P=true:=by unfold pd;exact @decide_eq_true _ (Classical.propDecidable _) h
theorem RU(h:¬P):pd P=false:=by unfold pd;exact @decide_eq_false _ (Classical.propDecidable _) h
theorem BX6:pd P=true↔P:=by unfold pd;exact @decide_eq_true_iff _ (Classical.propDecidable _)
theorem JG{a b:Bool}(h:a=b):Ending.returned (.bool a)=.returned (.bool b):=by rw[h]
structure AA8(ns:List Nd):Prop where
 few:ns.length<=400
 root:∃r rest,ns=r::rest/\r.p=[47]
 asc:tK ns
def BL5(ns:List Nd)(p:List UInt8):Prop:=(LU ns (IK p)).isSome=true\/AR6 p=7
structure fK(z:Int)(n:Nd)(ks:Int)(ss:List Int):Prop where
 c0:0<=n.c
 cm:n.c<=n.m
 cq:n.c<=n.q
 mz:n.m<=z
 qz:n.q<=z
 v0:0<=n.v
 v1:n.v<=2147483647
 k0:0<=n.k
 k1:n.k<=2147483647
 kids:n.n=ks
 own:n.o=0\/ks=0/\n.o∈ss
structure BL6(z:Int)(ns:List Nd)(ss:List Int)(n:Nd):Prop where
 data:n.d.length<=256
 held:BL5 ns n.p
 sound:fK z n (NW ns n.p) ss
theorem CJ5{q:List UInt8}(h:bl [47] q=true):q≠[]:=by rintro rfl;simp[bl,Op.bytesLess]at h
theorem wH(h:AA8 ns)(hn:n∈ns):n.p≠[]:=by
 obtain⟨r,rest,rfl,hr⟩:=h.root;rcases BQ.1 hn with rfl|hn
 .rw[hr];simp
 .have:=(List.pairwise_cons.1 h.asc).1 n hn;rw[hr]at this;exact CJ5 this
theorem YL:QW t↔KN t.z=true/\AA8 t.ns/\qG t.ss/\(∀n∈t.ns,BL6 t.z t.ns t.ss n)/\∀r,t.ns[0]?=G6 r->r.o=0:=by
 constructor
 .intro g;obtain⟨r,rest,hr,hp,ho⟩:=g.nod.root;refine⟨g.zx,⟨g.nod.few,⟨r,rest,hr,hp⟩,g.nod.asc⟩,g.ses,fun n hn=>?_,fun r' h=>by rw[hr]at h;simp at h;rw[<-h];exact ho⟩;have k:=g.nod.ok n hn;refine⟨k.data,?_,⟨k.c0,k.cm,k.cq,k.mz,k.qz,k.v0,k.v1,k.k0,g.cap n hn,k.kids,?_⟩⟩
  .by_cases h:n.p=[47]
   .exact .inr (by rw[h];exact uK)
   .obtain⟨u,hu,he⟩:=k.up h;exact .inl (by rw[<-he,aP g.nod.asc hu];rfl)
  .rcases k.own with h|⟨h1,h2⟩
   .exact .inl h
   .exact .inr ⟨by rw[<-k.kids];exact h2,h1⟩
 .rintro⟨hz,ho,hs,hp,hr⟩;refine⟨hz,hs,⟨ho.few,?_,ho.asc,fun n hn=>?_⟩,fun n hn=>(hp n hn).sound.k1⟩
  .obtain⟨r,rest,h1,h2⟩:=ho.root;exact⟨r,rest,h1,h2,hr r (by rw[h1];rfl)⟩
  .have k:=hp n hn;have s:=k.sound;have hg:J6 n.p=true/\(n.p≠[47]->∃u∈t.ns,u.p=IK n.p):=by
    rcases k.held with h|h
    .obtain⟨u,hu⟩:=Option.isSome_iff_exists.1 h;obtain⟨hu1,hu2⟩:=YD hu;have hne:IK n.p≠[]:=by rw[<-hu2];exact wH ho hu1
     cases hb:J6 n.p with
     |false=>exact absurd (aO hb) hne
     |true=>exact⟨rfl,fun _=>⟨u,hu1,hu2⟩⟩
    .cases hb:J6 n.p with
     |false=>rw[A76 hb]at h;omega
     |true=>
      by_cases h1:n.p=[47]
      .exact⟨rfl,fun h2=>absurd h1 h2⟩
      .rw[AU8 hb h1]at h;omega
   refine⟨k.data,hg.1,hg.2,s.c0,s.cm,s.cq,s.mz,s.qz,s.v0,s.v1,s.k0,s.kids,?_⟩;rcases s.own with h|⟨h1,h2⟩
   .exact .inl h
   .exact .inr ⟨h2,by rw[s.kids];exact h1⟩
def AA9(ns:List Nd)(k:Nat):Prop:=∀i,i<k->∀a b,ns[i]?=G6 a->ns[i+1]?=G6 b->bl a.p b.p=true
theorem B18(h:AA9 ns k){a b:Nd}(ha:ns[k]?=G6 a)(hb:ns[k+1]?=G6 b)(hl:bl a.p b.p=true):AA9 ns (k+1):=by
 intro i hi x y hx hy;by_cases e:i=k
 .subst e;rw[ha]at hx;rw[hb]at hy;cases hx;cases hy;exact hl
 .exact h i (by omega) x y hx hy
theorem A19(h:AA9 ns k)(hk:ns.length<=k+1):tK ns:=by
 have step:∀j i,(hij:i<j)->∀ (hj:j<ns.length),bl (ns[i]'(Nat.lt_trans hij hj)).p ns[j].p=true:=by
  intro j
  induction j with
  |zero=>intro i hi;omega
  |succ j ih=>
   intro i hi hj;have h1:=h j (by omega) ns[j] ns[j+1] (by simp) (by simp);by_cases e:i=j
   .subst e;exact h1
   .exact RI _ _ _ (ih i (by omega) (by omega)) h1
 exact List.pairwise_iff_getElem.2 fun i j hi hj hij=>step j i hij hj
theorem BL7(h:tK ns){i:Nat}{a b:Nd}(ha:ns[i]?=G6 a)(hb:ns[i+1]?=G6 b):bl a.p b.p=true:=by
 obtain⟨h1,rfl⟩:=AV.1 ha;obtain⟨h2,rfl⟩:=AV.1 hb;exact List.pairwise_iff_getElem.1 h i (i+1) h1 h2 (by omega)
theorem ZN(v:FX)(ns:List Nd)(w:FW)(hv:IL w v ns):
  FZ prog 162 #[v] w (R0 w (.bool (pd (AA8 ns)))):=by
 rcases hv with⟨a,cap,rfl,rfl,_⟩|⟨b,off,cap,rfl,hle,hm,hb,hne,hr⟩
 .have F:=G8 (RU (P:=AA8 []) (fun h=>by obtain⟨r,rest,h,_⟩:=h.root;cases h)).symm;go_enter func162,ntmps162;go_wp2_with fail;go_ret;exact⟨JG (G7 F),AA _ _⟩
 .obtain⟨r,rest,rfl⟩:∃r rest,ns=r::rest:=by
   cases ns with
   |nil=>exact absurd rfl hne
   |cons r rest=>exact⟨r,rest,rfl⟩
  have e0:=hr.n0 (i:=0) (x:=r) rfl;have H:=G8 hr;simp only[List.length_cons]at hle⊢;simp only[maxLen]at hm;clear hr hne;by_cases hl:rest.length+1<=400
  .by_cases hp:r.p=[47]
   .have hp2:(r.p==[47])=true:=by rw[hp];rfl
    have HL:=G8 hl;have HP:=G8 hp;clear hp;simp only[Nat.zero_mul,Nat.add_zero]at e0;by_cases hc1:cap=1
    .obtain rfl:rest=[]:=List.eq_nil_of_length_eq_zero (by omega);subst hc1;have T:=G8 (SV (P:=AA8 [r]) ⟨by simp,⟨r,[],rfl,G7 HP⟩,List.pairwise_singleton _ _⟩).symm;clear hle hl;simp only[List.length_nil];go_enter func162,ntmps162;go_wp2_with fail
     go_loopg [23] 1 (fun _ s23 wr=>s23=I0 0/\wr=w)
     case atStart=>exact⟨rfl,rfl⟩
     case round=>
      obtain⟨rfl,rfl⟩:=hrel;go_wp2_with fail;go_ret;exact⟨JG (G7 T),AA _ _⟩
    .go_enter func162,ntmps162;go_wp2_with fail
     go_loopg [23] rest.length (fun kx s23 wr=>∃k:Nat,s23=I0 k/\k<=rest.length/\rest.length-k<=kx/\Hid (B0 w wr)/\Hid (AA9 (r::rest) k))
     case atStart=>exact⟨0,rfl,AZ _,A8 _,G8 (AA _ _),G8 (fun i hi=>absurd hi (Nat.not_lt_zero _))⟩
     case round=>
      obtain⟨k,rfl,hk,hg,hB,hR⟩:=hrel;by_cases hlt:k<rest.length
      .obtain⟨x,hx⟩:∃x,(r::rest)[k+1]?=G6 x:=⟨_,AO (by simp;omega)⟩;obtain⟨y,hy⟩:∃y,(r::rest)[k]?=G6 y:=⟨_,AO (by simp;omega)⟩;have q:=(G7 H).kept (G7 hB) hb;have d0:=q.n0 hx;have d1:=q.n1 hx;have d2:=q.n2 hx;have d3:=q.n3 hx;have d4:=q.n4 hx;have d5:=q.n5 hx;have d6:=q.n6 hx;have d7:=q.n7 hx;have d8:=q.n8 hx;have c0:=q.n0 hy;have hbw:b<wr.heap.size:=AY hb (G7 hB).size;have hofs:off+9+k*9=off+(k+1)*9:=by omega
       rw[<-hofs]at d0 d1 d2 d3 d4 d5 d6 d7 d8;clear hofs;have hk1:(k:Int)<(rest.length:Int)+1:=by omega
       cases hbl:bl y.p x.p with
       |true=>
        have R2:=G8 (B18 (G7 hR) hy hx hbl);have hbl1:Op.bytesLess x.p y.p=false:=OD hbl;have hbl2:(x.p==y.p)=false:=by simpa using (WS hbl).symm
        clear hx hy q hbl;go_wp2_with fail;go_region;go_wp2_with fail
        go_roundg (rest.length-(k+1))
        case measure=>omega
        case rel=>exact⟨k+1,rfl,by omega,A8 _,G8 (GH (G7 hB) ((G9 _ _).drew)),R2⟩
       |false=>
        have F:=G8 (RU (P:=AA8 (r::rest)) (fun h=>by have:=BL7 h.asc hy hx;rw[hbl]at this;cases this)).symm;clear hx hy q
        cases hb1:bl x.p y.p with
        |true=>
         have hbl1:Op.bytesLess x.p y.p=true:=hb1;clear hbl hb1;go_wp2_with fail;go_region;go_wp2_with fail;go_ret;exact⟨JG (G7 F),GH (G7 hB) ((G9 _ _).drew)⟩
        |false=>
         have hbl1:Op.bytesLess x.p y.p=false:=hb1;have hbl2:(x.p==y.p)=true:=by simpa using TL _ _ hb1 hbl
         clear hbl hb1;go_wp2_with fail;go_region;go_wp2_with fail;go_ret;exact⟨JG (G7 F),GH (G7 hB) ((G9 _ _).drew)⟩
      .obtain rfl:k=rest.length:=by omega
       go_wp2_with fail;go_ret;exact⟨JG (SV (P:=AA8 (r::rest)) ⟨G7 HL,⟨r,rest,rfl,G7 HP⟩,A19 (G7 hR) (by simp)⟩).symm,G7 hB⟩
   .have hp2:(r.p==[47])=false:=by simpa using hp
    have F:=G8 (RU (P:=AA8 (r::rest)) (fun h=>by obtain⟨r',s',h1,h2⟩:=h.root;cases h1;exact hp h2)).symm;clear hp;simp only[Nat.zero_mul,Nat.add_zero]at e0;go_enter func162,ntmps162;go_wp2_with fail;go_ret;exact⟨JG (G7 F),AA _ _⟩
  .have F:=G8 (RU (P:=AA8 (r::rest)) (fun h=>hl (by simpa using h.few))).symm;go_enter func162,ntmps162;go_wp2_with fail;go_ret;exact⟨JG (G7 F),AA _ _⟩
def QY(ss:List Int):Nat->Int
 |0=>1
 |k+1=>ss.getD k 0+1
def OkS(ss:List Int)(k:Nat):Prop:=∀i,i<k->∀x,ss[i]?=G6 x->QY ss i<=x/\x<=2147483647
theorem BL8(h:OkS ss k){x:Int}(hx:ss[k]?=G6 x)(h1:QY ss k<=x)(h2:x<=2147483647):OkS ss (k+1):=by
 intro i hi y hy;by_cases e:i=k
 .subst e;rw[hx]at hy;cases hy;exact⟨h1,h2⟩
 .exact h i (by omega) y hy
theorem XH{x:Int}(hx:ss[k]?=G6 x):QY ss (k+1)=x+1:=by simp[QY,List.getD,hx]
theorem BL9(h:qG ss){x:Int}(hx:ss[k]?=G6 x):QY ss k<=x/\x<=2147483647:=by
 have hb:=h.2 x (BA hx);refine⟨?_,hb.2⟩
 cases k with
 |zero=>simp only[QY];omega
 |succ k=>
  obtain⟨h1,rfl⟩:=AV.1 hx;rw[XH (AO (show k<ss.length by omega))];have:=List.pairwise_iff_getElem.1 h.1 k (k+1) (by omega) h1 (by omega);omega
theorem BM0(h:OkS ss ss.length):qG ss:=by
 have step:∀j i,(hij:i<j)->∀ (hj:j<ss.length),ss[i]'(Nat.lt_trans hij hj)<ss[j]:=by
  intro j
  induction j with
  |zero=>intro i hi;omega
  |succ j ih=>
   intro i hi hj;have h1:=(h (j+1) hj _ (AO hj)).1;rw[XH (AO (show j<ss.length by omega))]at h1;by_cases e:i=j
   .subst e;omega
   .have:=ih i (by omega) (by omega);omega
 have pos:∀i,(hi:i<ss.length)->1<=ss[i]:=by
  intro i
  induction i with
  |zero=>intro hi;exact(h 0 hi _ (AO hi)).1
  |succ i ih=>intro hi;have:=step (i+1) i (by omega) hi;have:=ih (by omega);omega
 refine⟨List.pairwise_iff_getElem.2 fun i j hi hj hij=>step j i hij hj,fun s hs=>?_⟩;obtain⟨i,hi,rfl⟩:=List.getElem_of_mem hs;exact⟨pos i hi,(h i hi _ (AO hi)).2⟩
theorem fM(v:FX)(ss:List Int)(w:FW)(hv:IL w v ss)(hi:∀s∈ss,-9223372036854775808<=s/\s<=9223372036854775807):
  FZ prog 163 #[v] w fun e w'=>e=.returned (.bool (pd (qG ss)))/\w'=w:=by
 have T:=G8 (fun h:OkS ss ss.length=>(SV (BM0 h)).symm);have F:=G8 (fun(k:Nat) (x:Int) (hx:ss[k]?=G6 x) (h:¬ (QY ss k<=x/\x<=2147483647))=>(RU (fun g:qG ss=>h (BL9 g hx))).symm);have HI:=G8 hi;clear hi;generalize pd (qG ss)=fin at T F⊢;have R:∀k x,ss[k]?=G6 x->∃b off cap,v=FU (G6 ⟨b,off,G5⟩) ss.length cap/\w.cell? ⟨b,off+k,G5⟩=G6 (I0 x):=fun k x hx=>by
  obtain⟨b,off,cap,rfl,_,hr,_,_⟩:=MV hv (by rintro rfl;simp at hx);exact⟨b,off,cap,rfl,hr.i0 hx⟩
 have HR:=G8 R;have hml:ss.length<=9223372036854775807:=by
  rcases hv with⟨a,cap,rfl,rfl,_⟩|⟨b,off,cap,rfl,h1,h2,_⟩
  .simp
  .simp only[maxLen]at h2;omega
 obtain⟨a,c,rfl⟩:=GK hv;clear R hv;go_enter func163,ntmps163;go_wp2_with fail
 go_loopg [3,8] ss.length (fun kx s3 s8 wr=>∃k:Nat,s3=I0 (QY ss k)/\s8=I0 k/\k<=ss.length/\ss.length-k<=kx/\wr=w/\Hid (OkS ss k))
 case atStart=>exact⟨0,rfl,rfl,AZ _,A8 _,rfl,G8 (fun i hi=>absurd hi (Nat.not_lt_zero _))⟩
 case round=>
  obtain⟨k,rfl,rfl,hk,hg,rfl,hO⟩:=hrel;by_cases hlt:k<ss.length
  .obtain⟨x,hx⟩:∃x,ss[k]?=G6 x:=⟨_,AO hlt⟩;obtain⟨b,off,cap,hv,e0⟩:=G7 HR k x hx;have hbx:=G7 HI x (BA hx);simp only[Value.slice.injEq]at hv;obtain⟨rfl,_,rfl⟩:=hv;have HX:=G8 hx;clear hx;have LS:=G8 (XH (G7 HX));by_cases h1:QY ss k<=x
   .by_cases h2:x<=2147483647
    .have O2:=G8 (BL8 (G7 hO) (G7 HX) h1 h2);generalize QY ss k=ls at h1;go_wp2_with fail
     go_roundg (ss.length-(k+1))
     case measure=>omega
     case rel=>exact⟨k+1,by rw[G7 LS],rfl,by omega,A8 _,rfl,O2⟩
    .have G:=G8 (G7 F k x (G7 HX) (by omega));generalize QY ss k=ls at h1;go_wp2_with fail;go_ret;exact⟨JG (G7 G),rfl⟩
   .have G:=G8 (G7 F k x (G7 HX) (by omega));generalize QY ss k=ls at h1;go_wp2_with fail;go_ret;exact⟨JG (G7 G),rfl⟩
  .obtain rfl:k=ss.length:=by omega
   have G:=G8 (G7 T (G7 hO));go_wp2_with fail;go_ret;exact⟨JG (G7 G),rfl⟩
theorem BM1(v:FX)(ns:List Nd)(p:List UInt8)(w:FW)(hv:IL w v ns)(ha:AA8 ns):
  FZ prog 165 #[v,S0 p] w (R0 w (.bool (pd (BL5 ns p)))):=by
 have C:∀W:FW,B0 w W->∃i:Nat,FZ prog 28 #[v,S0 (IK p)] W (R0 W (.tuple #[I0 i,.bool (LU ns (IK p)).isSome])):=fun W hW=>by
  obtain⟨i,_,h⟩:=vT v ns (IK p) W (hv.next hW) (by have:=ha.few;omega) ha.asc;exact⟨i,h⟩
 have C':=G8 C;have F:pd (BL5 ns p)=((LU ns (IK p)).isSome||AR6 p==7):=by
  cases h:(LU ns (IK p)).isSome with
  |true=>exact SV (.inl h)
  |false=>
   by_cases h2:AR6 p=7
   .rw[SV (.inr h2),h2];rfl
   .rw[RU (fun hh=>hh.elim (fun h1=>by rw[h]at h1;cases h1) h2)];simp[h2]
 rw[F];obtain⟨a,c,rfl⟩:=GK hv;have CS:=fun W=>NH p W;clear C hv ha F;generalize (LU ns (IK p)).isSome=hd at C'⊢;generalize IK p=dp at C' CS;generalize NU p=sp at CS;generalize AR6 p=ep at CS⊢;generalize ns.length=nl at C'⊢;go_enter func165,ntmps165;go_wp2_with fail;refine(CS _).mono ?_;rintro e w1 ⟨rfl,hb1⟩;go_wp2_with fail;obtain⟨i,C2⟩:=G7 C' _ hb1;refine C2.mono ?_;rintro e w2 ⟨rfl,hb2⟩;have hB:=GH hb1 hb2;clear CS C2 C' hb1 hb2
 cases hd with
 |true=>
  go_wp2_with fail;go_ret;exact⟨rfl,hB⟩
 |false=>
  go_wp2_with fail;go_ret;exact⟨rfl,hB⟩
theorem B19(z:Int)(vn vs:FX)(n:Nd)(kids:Int)(ss:List Int)(w:FW)(hv:IL w vs ss)(hs:qG ss):
  FZ prog 166 #[.agg #[I0 z,vn,vs],C29 n,I0 kids] w (R0 w (.bool (pd (fK z n kids ss)))):=by
 have CO:∀W:FW,B0 w W->FZ prog 194 #[.agg #[I0 z,vn,vs],I0 n.o] W (R0 W (.bool (decide (n.o∈ss)))):=fun W hW=>bH z vn vs ss n.o W (hv.next hW) hs;have C':=G8 CO;have F:=G8 (fun h:¬fK z n kids ss=>(RU h).symm);have T:=G8 (fun h:fK z n kids ss=>(SV h).symm);have SP:=G8 (Iff.intro (fun h:fK z n kids ss=>DC h.c0 (DC h.cm (DC h.cq (DC h.mz (DC h.qz (DC h.v0 (DC h.v1 (DC h.k0 (DC h.k1 (DC h.kids h.own)))))))))) (fun⟨a,b,c,d,e,f,g,h,i,j,k⟩=>(⟨a,b,c,d,e,f,g,h,i,j,k⟩:fK z n kids ss)));generalize pd (fK z n kids ss)=fin at F T⊢;obtain⟨a,c,rfl⟩:=GK hv;clear CO hv hs;unfold C29;obtain⟨np,nd,nc,nm,nq,nv,nk,no,nn⟩:=n;simp only at C' SP⊢;go_enter func166,ntmps166;go_wp2_with fail;go_region;go_wp2_with fail
 all_goals try simp only[bne_iff_ne,ne_eq,bne_eq_false_iff_eq]at*
 all_goals (first
  |(go_ret;exact⟨JG (G7 F (fun h=>by have:=(G7 SP).1 h;omega)),(((AA _ _).alloc (A8 _) _).alloc (by simp) _).drew⟩)
  |(go_ret;exact⟨JG (G7 T ((G7 SP).2 (by omega))),(((AA _ _).alloc (A8 _) _).alloc (by simp) _).drew⟩)
  |(go_ret;exact⟨JG ((beq_eq_false_iff_ne.2 (by assumption)).trans (G7 F (fun h=>by rcases((G7 SP).1 h).2.2.2.2.2.2.2.2.2.2 with h|h<;>omega))),(((AA _ _).alloc (A8 _) _).alloc (by simp) _).drew⟩)
  |skip)
 refine(G7 C' _ ((((AA _ _).alloc (A8 _) _).alloc (by simp) _).drew)).mono ?_;rintro e w1 ⟨rfl,hb1⟩;have hB:=GH ((((AA w.heap.size w).alloc (A8 _) _).alloc (by simp) _).drew) hb1;by_cases hmem:no∈ss
 .have G:=G8 (G7 T ((G7 SP).2 ⟨by omega,by omega,by omega,by omega,by omega,by omega,by omega,by omega,by omega,by omega,.inr ⟨by omega,hmem⟩⟩));go_wp2_with fail;go_ret;exact⟨JG (G7 G),hB⟩
 .have G:=G8 (G7 F (fun h=>by have:=((G7 SP).1 h).2.2.2.2.2.2.2.2.2.2;exact this.elim (fun h=>by omega) (fun h=>hmem h.2)));go_wp2_with fail;go_ret;exact⟨JG ((beq_eq_false_iff_ne.2 (by assumption)).trans (G7 G)),hB⟩
open Go.WideMaps Go.Maps
theorem CV1:Keyed prog 9:=string_keyed underlying9
theorem CJ6(w:FW):(zeroValue 3).run prog w=.ok (.int .i64 0) w:=by kernel_rfl
def oH(w:FW)(B k:Nat)(ns:List Nd):Prop:=
 ∃D:DataW Unit,w.ownsMap prog 9 (plainElem prog 3) B k D/\IsMap D/\∀s:List UInt8,D.atKey (.string s) (.lit (.int .i64 0))=.lit (.int .i64 (NW ns s))
theorem AL8(ns:List Nd)(n:Nd)(s:List UInt8):NW (ns++[n]) s=NW ns s+(if IK n.p=s then 1 else 0):=by
 simp only[NW,List.countP_append,List.countP_cons,List.countP_nil,decide_eq_true_eq];omega
theorem BM2(ns:List Nd)(s:List UInt8):NW ns s<=ns.length:=List.countP_le_length
theorem A20{D:DataW Unit}(hm:IsMap D)(hD:∀s:List UInt8,D.atKey (.string s) (.lit (.int .i64 0))=.lit (.int .i64 (NW ns s)))(s:List UInt8):
  (D.put (.string (IK n.p)) (.lit (.int .i64 (NW ns (IK n.p)+1)))).atKey (.string s) (.lit (.int .i64 0))=.lit (.int .i64 (NW (ns++[n]) s)):=by
 rw[AL8];by_cases e:IK n.p=s
 .subst e;rw[atKey_put_same hm (show WideAt.IsKeyLit (.string _)from trivial)];simp
 .rw[atKey_put_other (by simpa using fun h=>e h.symm),hD,if_neg e];simp
theorem A21(b off cap:Nat)(ns:List Nd)(w:FW)(hl:ns.length<=400)(hb:b<w.heap.size)(hr:IC w b off (GI ns)):
  FZ prog 164 #[FU (G6 ⟨b,off,G5⟩) ns.length cap] w fun e w'=>e=.returned (.map (G6 w.heap.size))/\oH w' w.heap.size 400 ns/\Below w.heap.size w w':=by
 have H:=G8 hr;clear hr;have hmm:= @run_makeMap prog;go_enter func164,ntmps164;go_wp2_with fail
 go_loopg [12] ns.length (fun kx i wr=>∃k:Nat,i=.int .i64 k/\k<=ns.length/\ns.length-k<=kx/\Hid (oH wr w.heap.size k (ns.take k))/\Hid (Below w.heap.size w wr))
 case atStart=>exact⟨0,rfl,AZ _,A8 _,G8 ⟨_,World.ownsMap_made _ _ _ _,isMap_empty,fun s=>by rfl⟩,G8 (G9 _ _)⟩
 case round=>
  obtain⟨k,rfl,hk,hg,hC,hB⟩:=hrel;by_cases hlt:k<ns.length
  .obtain⟨x,hx⟩:∃x,ns[k]?=G6 x:=⟨_,AO hlt⟩;have q:=(G7 H).kept (G7 hB) hb;have d0:=q.n0 hx;have d1:=q.n1 hx;have d2:=q.n2 hx;have d3:=q.n3 hx;have d4:=q.n4 hx;have d5:=q.n5 hx;have d6:=q.n6 hx;have d7:=q.n7 hx;have d8:=q.n8 hx;have hbw:b<wr.heap.size:=AY hb (G7 hB).size;have hts:ns.take (k+1)=ns.take k++[x]:=by rw[List.take_add_one,hx];rfl
   have HT:=G8 hts;clear q hx hts;have CS:=fun W=>NH x.p W;have hdl:(IK x.p).length<=1000:=by
    cases hgb:J6 x.p with
    |false=>rw[aO hgb];simp
    |true=>
     by_cases hr:x.p=[47]
     .rw[hr,UF];simp
     .obtain⟨a,c,he,hc⟩:=aJ hgb;have:=MO hgb;rw[he]at hgb hr this⊢;rw[aK hgb hr hc,CG6]
      split
      .simp
      .simp at this;omega
   have HDL:=G8 hdl;clear hdl;obtain⟨D,ho,hm,hD⟩:=G7 hC;have HD:=G8 hD;have HM:=G8 hm;have hc1:=BM2 (ns.take k) (IK x.p);simp only[List.length_take]at hc1;have STEP:=G8 (fun s=>A20 (n:=x) hm hD s);obtain⟨cn,hcn⟩:∃cn,NW (ns.take k) (IK x.p)=cn:=⟨_,rfl⟩;rw[hcn]at hc1;have HCN:=G8 hcn;clear hD hm hcn;generalize hdp:IK x.p=dp at CS HDL;have HDP:=G8 hdp;clear hdp;generalize NU x.p=sp at CS;generalize AR6 x.p=ep at CS;go_wp2_with fail;refine(CS _).mono ?_;rintro e w1 ⟨rfl,hb1⟩;have hB1:Below w.heap.size w w1:=GH (G7 hB) (GX hb1);have ho1:w1.ownsMap prog 9 (plainElem prog 3) w.heap.size k D:=by
    have:Below wr.heap.size wr w1:=GX hb1;obtain⟨es,cl,h1,h2⟩:=ho;exact⟨es,cl,(this.block _ (AL.1 h1).1).trans h1,h2⟩
   have hkey:keyOf prog 9 (.string ⟨dp.toArray⟩)=G6 (.string dp):=by
    have:=keyOf_string_mk (P:=prog) underlying9 (s:=⟨dp.toArray⟩) (by have:=G7 HDL;simp only[maxLen,ByteArray.size,List.size_toArray];omega);simpa using this
   obtain⟨c,hrun,hat,_⟩:=ho1.lookup_int CV1 underlying240 underlying3 (CJ6 _) hkey;have hcc:c=(cn:Int):=by
    rw[G7 HD,<-G7 HDP,G7 HCN]at hat;simpa using hat.symm
   subst hcc;clear CS hat hb1 ho d0 d1 d2 d3 d4 d5 d6 d7 d8;go_wp2_with (first
    |(at_mapUpdate;refine wpList_mapUpdate_own _ rfl _ _ _ 240 rfl 9 3 CV1 underlying240 _ w.heap.size k _ rfl ho1 (by unfold maxLen;omega) _ _ _ rfl rfl hkey _ [] (plainElem_int underlying3 (WalkArith.wf_i64 (by omega))) ?_)
    |fail)
   intro w2 hown1 hgrow1;have B2:=hB1.grown hgrow1 hB1.size (fun j hj=>by cases hj;exact A8 _);have C2:oH w2 w.heap.size (k+1) (ns.take (k+1)):=by
    refine⟨_,hown1,(G7 HM).put _ _,fun s=>?_⟩;rw[G7 HT,<-G7 STEP s,G7 HCN,G7 HDP]
   have HC2:=G8 C2;have HB2:=G8 B2;clear C2 B2 hown1 hgrow1 ho1 hrun hB1;go_wp2_with fail
   go_roundg (ns.length-(k+1))
   case measure=>omega
   case rel=>exact⟨k+1,rfl,by omega,A8 _,HC2,HB2⟩
  .obtain rfl:k=ns.length:=by omega
   go_wp2_with fail;go_ret;obtain⟨D,ho,hm,hD⟩:=G7 hC;exact⟨rfl,⟨D,ho.mono (by omega),hm,fun s=>by rw[hD,List.take_length]⟩,G7 hB⟩
structure WfT(t:Tr):Prop where
 ses:∀s∈t.ss,-9223372036854775808<=s/\s<=9223372036854775807
 CJ7:∀n∈t.ns,n.p.length<=140737488355328/\n.d.length<=140737488355328
def OkG(t:Tr)(k:Nat):Prop:=∀i,i<k->∀n,t.ns[i]?=G6 n->BL6 t.z t.ns t.ss n
theorem BM3(h:OkG t k)(hn:t.ns[k]?=G6 n)(hp:BL6 t.z t.ns t.ss n):OkG t (k+1):=by
 intro i hi m hm;by_cases e:i=k
 .subst e;rw[hn]at hm;cases hm;exact hp
 .exact h i (by omega) m hm
theorem BM4(hz:KN t.z=true)(ho:AA8 t.ns)(hs:qG t.ss)(h:OkG t t.ns.length){r:Nd}(hr:t.ns[0]?=G6 r):UG t=decide (r.o=0):=by
 by_cases h0:r.o=0
 .rw[decide_eq_true h0,SC,YL];refine⟨hz,ho,hs,fun n hn=>?_,fun r' h=>by rw[hr]at h;cases h;exact h0⟩;obtain⟨i,hi,rfl⟩:=List.getElem_of_mem hn;exact h i hi _ (AO hi)
 .rw[decide_eq_false h0,ZH,YL];exact fun g=>h0 (g.2.2.2.2 r hr)
theorem A22(h:¬ (KN t.z=true/\AA8 t.ns/\qG t.ss)):UG t=false:=by
 rw[ZH,YL];exact fun g=>h ⟨g.1,g.2.1,g.2.2.1⟩
theorem B20(hn:t.ns[k]?=G6 n)(h:¬BL6 t.z t.ns t.ss n):UG t=false:=by
 rw[ZH,YL];exact fun g=>h (g.2.2.2.1 n (BA hn))
theorem kH{B:Nat}(h:oH w B k ns)(hb:Below w.heap.size w w'):oH w' B k ns:=by
 obtain⟨D,⟨es,cl,h1,h2⟩,h3⟩:=h;exact⟨D,⟨es,cl,(hb.block _ (AL.1 h1).1).trans h1,h2⟩,h3⟩
theorem AL9(t:Tr)(vn vs:FX)(w:FW)(hn:IL w vn t.ns)(hs:IL w vs t.ss)(hw:WfT t)(hz:KN t.z=true)(ho:AA8 t.ns)(ha:qG t.ss):
  FZ prog 116 #[.agg #[.int .i64 t.z,vn,vs]] w fun e w'=>e=.returned (.bool (UG t))/\Below w.heap.size w w':=by
 have hne:t.ns≠[]:=by obtain⟨r,rest,h,_⟩:=ho.root;rw[h];simp
 obtain⟨r0,hr0⟩:∃r0,t.ns[0]?=G6 r0:=by obtain⟨r,rest,h,_⟩:=ho.root;exact⟨r,by rw[h];rfl⟩
 have YES:=G8 (fun h=>BM4 hz ho ha h hr0);have NO:=G8 (fun n k h1 h2=>B20 (t:=t) (n:=n) (k:=k) h1 h2);have CZ:=fun W=>JJ t.z W;rw[hz]at CZ;have CO:=G8 (fun W (h:Below w.heap.size w W)=>ZN vn t.ns W (hn.next h));have CN:=G8 (fun W (h:Below w.heap.size w W)=>fM vs t.ss W (hs.next h) hw.ses);simp only[SV ho]at CO;simp only[SV ha]at CN;have CH:=G8 (fun p W (h:Below w.heap.size w W)=>BM1 vn t.ns p W (hn.next h) ho);have CSD:=G8 (fun n k W (h:Below w.heap.size w W)=>B19 t.z vn vs n k t.ss W (hs.next h) ha);have hl:=ho.few;have SL:=G8 hw.CJ7;obtain⟨sa,sc,rfl⟩:=GK hs;obtain⟨b,off,cap,rfl,hb,hr,hle,hcm⟩:=MV hn hne;have H:=G8 hr;have CC:=G8 (fun W (h:Below w.heap.size w W)=>A21 b off cap t.ns W hl (AY hb h.size) (hr.kept h hb));have HR0:=G8 hr0;have hpos:0<t.ns.length:=List.length_pos_iff.2 hne;clear hn hs hw hz ho ha hne hr hr0;generalize UG t=fin at YES NO⊢;go_enter func116,ntmps116;go_wp2_with fail;refine(CZ _).mono ?_;rintro e w0 ⟨rfl,rfl⟩;have B0:=G9 w (FV #[.int .i64 t.z,FU (G6 ⟨b,off,G5⟩) t.ns.length cap,FU sa t.ss.length sc] 37);generalize hW0:w.alloc (FV #[.int .i64 t.z,FU (G6 ⟨b,off,G5⟩) t.ns.length cap,FU sa t.ss.length sc] 37)=W0 at*;have b0:W0.cell? ⟨w.heap.size,0,G5⟩=G6 (.int .i64 t.z):=by rw[<-hW0];simp
 have b1:W0.cell? ⟨w.heap.size,1,G5⟩=G6 (FU (G6 ⟨b,off,G5⟩) t.ns.length cap):=by rw[<-hW0];simp
 have b2:W0.cell? ⟨w.heap.size,2,G5⟩=G6 (FU sa t.ss.length sc):=by rw[<-hW0];simp
 have hsz:w.heap.size<W0.heap.size:=by rw[<-hW0];simp
 have BX:=G8 (fun W (h:Below W0.heap.size W0 W)=>(⟨(h.cell (p:=⟨w.heap.size,0,G5⟩) hsz).trans b0,(h.cell (p:=⟨w.heap.size,1,G5⟩) hsz).trans b1,(h.cell (p:=⟨w.heap.size,2,G5⟩) hsz).trans b2⟩:W.cell? ⟨w.heap.size,0,G5⟩=G6 (.int .i64 t.z)/\W.cell? ⟨w.heap.size,1,G5⟩=G6 (FU (G6 ⟨b,off,G5⟩) t.ns.length cap)/\W.cell? ⟨w.heap.size,2,G5⟩=G6 (FU sa t.ss.length sc)));clear hW0;go_wp2_with fail;refine(G7 CO _ B0).mono ?_;rintro e w1 ⟨rfl,hb1⟩;obtain⟨c0,c1,c2⟩:=G7 BX w1 hb1;clear b0 b1 b2;go_wp2_with fail;refine(G7 CN _ (GH B0 hb1)).mono ?_;rintro e w2 ⟨rfl,rfl⟩;go_wp2_with fail;refine(G7 CC _ (GH B0 hb1)).mono ?_;rintro e w3 ⟨rfl,hC3,hb3⟩;have hb3':=GH hb1 hb3;obtain⟨d0,d1,d2⟩:=G7 BX w3 hb3';have HC:=G8 hC3;clear c0 c1 c2 CO CN CC CZ hC3;go_wp2_with fail
 go_loopg [28] t.ns.length (fun kx i wr=>∃k:Nat,i=.int .i64 k/\k<=t.ns.length/\t.ns.length-k<=kx/\Hid (Below W0.heap.size W0 wr)/\Hid (oH wr w2.heap.size 400 t.ns)/\Hid (OkG t k))
 case atStart=>exact⟨0,rfl,AZ _,A8 _,G8 hb3',HC,G8 (fun i hi=>absurd hi (Nat.not_lt_zero _))⟩
 case round=>
  obtain⟨k,rfl,hk,hg,hB,hC,hO⟩:=hrel;obtain⟨x0,x1,x2⟩:=G7 BX wr (G7 hB);clear d0 d1 d2;by_cases hlt:k<t.ns.length
  .obtain⟨x,hx⟩:∃x,t.ns[k]?=G6 x:=⟨_,AO hlt⟩;have hBw:Below w.heap.size w wr:=GH B0 (G7 hB);have q:=(G7 H).kept hBw hb;have d0:=q.n0 hx;have d1:=q.n1 hx;have d2:=q.n2 hx;have d3:=q.n3 hx;have d4:=q.n4 hx;have d5:=q.n5 hx;have d6:=q.n6 hx;have d7:=q.n7 hx;have d8:=q.n8 hx;have hbw:b<wr.heap.size:=AY hb hBw.size;have hww:w.heap.size<wr.heap.size:=AY hsz (G7 hB).size;have sl:=G7 SL x (BA hx);have sld:=sl.2;have HX:=G8 hx;have SLP:=G8 sl.1;clear q hx sl;by_cases hd:x.d.length<=256
   .have HD:=G8 hd
    cases hh:pd (BL5 t.ns x.p)with
    |false=>
     have G:=G8 (G7 NO x k (G7 HX) (fun p=>by have:=SV p.held;rw[hh]at this;cases this));go_wp2_with fail;refine(G7 CH x.p _ (GH hBw (G9 _ _))).mono ?_;rintro e w4 ⟨rfl,hb4⟩;have hB4:=GH hBw (GX hb4);rw[hh];clear hb4 d0 d1 d2 d3 d4 d5 d6 d7 d8 x0 x1 x2;go_wp2_with fail;go_ret;exact⟨JG (G7 G).symm,hB4⟩
    |true=>
     have HH:=G8 hh;go_wp2_with fail;refine(G7 CH x.p _ (GH hBw (G9 _ _))).mono ?_;rintro e w4 ⟨rfl,hb4⟩;have hB4:=GH hBw (GX hb4);have hB40:=GH (G7 hB) (GX hb4);rw[hh];clear hh;have r:=fun(j:Nat) (hj:j<9)=>hb4.cell (p:=⟨wr.heap.size,j,G5⟩) (by simp);have y0:w4.cell? ⟨wr.heap.size,0,G5⟩=G6 (.string ⟨x.p.toArray⟩):=by rw[r 0 (by omega)];simp
     have y2:w4.cell? ⟨wr.heap.size,2,G5⟩=G6 (.int .i64 x.c):=by rw[r 2 (by omega)];simp
     have y3:w4.cell? ⟨wr.heap.size,3,G5⟩=G6 (.int .i64 x.m):=by rw[r 3 (by omega)];simp
     have y4:w4.cell? ⟨wr.heap.size,4,G5⟩=G6 (.int .i64 x.q):=by rw[r 4 (by omega)];simp
     have y5:w4.cell? ⟨wr.heap.size,5,G5⟩=G6 (.int .i64 x.v):=by rw[r 5 (by omega)];simp
     have y6:w4.cell? ⟨wr.heap.size,6,G5⟩=G6 (.int .i64 x.k):=by rw[r 6 (by omega)];simp
     have y7:w4.cell? ⟨wr.heap.size,7,G5⟩=G6 (.int .i64 x.o):=by rw[r 7 (by omega)];simp
     have y8:w4.cell? ⟨wr.heap.size,8,G5⟩=G6 (.int .i64 x.n):=by rw[r 8 (by omega)];simp
     obtain⟨z0,z1,z2⟩:=G7 BX w4 hB40;have hC4:=kH (G7 hC) (GX hb4);have HC4:=G8 hC4;obtain⟨D,ho4,_,hD⟩:=hC4;have hkey:keyOf prog 9 (.string ⟨x.p.toArray⟩)=G6 (.string x.p):=by
      have:=keyOf_string_mk (P:=prog) underlying9 (s:=⟨x.p.toArray⟩) (by have:=G7 SLP;simp only[maxLen,ByteArray.size,List.size_toArray];omega);simpa using this
     obtain⟨c,hrun,hat,_⟩:=ho4.lookup_int CV1 underlying240 underlying3 (CJ6 _) hkey;have hcc:c=(NW t.ns x.p:Int):=by
      rw[hD]at hat;simpa using hat.symm
     subst hcc;clear r hat hD ho4 hkey hb4 d0 d1 d2 d3 d4 d5 d6 d7 d8 x0 x1 x2;have CSX:=G7 CSD x (NW t.ns x.p) w4 hB4;unfold C29 at CSX
     cases hs:pd (fK t.z x (NW t.ns x.p) t.ss)with
     |false=>
      have G:=G8 (G7 NO x k (G7 HX) (fun p=>by have:=SV p.sound;rw[hs]at this;cases this));rw[hs]at CSX;clear hs;go_wp2_with fail;refine CSX.mono ?_;rintro e w5 ⟨rfl,hb5⟩;have hB5:=GH hB4 hb5;clear CSX hrun z0 z1 z2 y0 y2 y3 y4 y5 y6 y7 y8;go_wp2_with fail;go_ret;exact⟨JG (G7 G).symm,hB5⟩
     |true=>
      have O2:=G8 (BM3 (G7 hO) (G7 HX) ⟨G7 HD,BX6.1 (G7 HH),BX6.1 hs⟩);rw[hs]at CSX;clear hs;go_wp2_with fail;refine CSX.mono ?_;rintro e w5 ⟨rfl,hb5⟩;have HB5:=G8 (GH hB40 hb5);have HC5:=G8 (kH (G7 HC4) hb5);clear CSX hrun z0 z1 z2 y0 y2 y3 y4 y5 y6 y7 y8 hb5;go_wp2_with fail
      go_roundg (t.ns.length-(k+1))
      case measure=>omega
      case rel=>exact⟨k+1,rfl,by omega,A8 _,HB5,HC5,O2⟩
   .have G:=G8 (G7 NO x k (G7 HX) (fun p=>hd p.data));go_wp2_with fail;go_ret;exact⟨JG (G7 G).symm,GH hBw (G9 _ _)⟩
  .obtain rfl:k=t.ns.length:=by omega
   have hBw:Below w.heap.size w wr:=GH B0 (G7 hB);have d7:=((G7 H).kept hBw hb).n7 (G7 HR0);have G:=G8 (G7 YES (G7 hO));simp only[Nat.zero_mul,Nat.add_zero]at d7;go_wp2_with fail;go_ret;exact⟨JG ((G7 G).trans (by rfl)).symm,hBw⟩
theorem bJ(t:Tr)(vn vs:FX)(w:FW)(hn:IL w vn t.ns)(hs:IL w vs t.ss)(hw:WfT t):
  FZ prog 116 #[.agg #[I0 t.z,vn,vs]] w (R0 w (.bool (UG t))):=by
 by_cases hz:KN t.z=true
 .by_cases ho:AA8 t.ns
  .by_cases ha:qG t.ss
   .exact AL9 t vn vs w hn hs hw hz ho ha
   .have F:=G8 (A22 (t:=t) (fun h=>ha h.2.2)).symm;have CZ:=fun W=>JJ t.z W;rw[hz]at CZ;have CO:=G8 (fun W (h:B0 w W)=>ZN vn t.ns W (hn.next h));have CN:=G8 (fun W (h:B0 w W)=>fM vs t.ss W (hs.next h) hw.ses);simp only[SV ho]at CO;simp only[RU ha]at CN;obtain⟨na,nc,rfl⟩:=GK hn;obtain⟨sa,sc,rfl⟩:=GK hs;clear hn hs hw hz ho ha;go_enter func116,ntmps116;go_wp2_with fail;refine(CZ _).mono ?_;rintro e w0 ⟨rfl,rfl⟩;go_wp2_with fail;refine(G7 CO _ (G9 _ _)).mono ?_;rintro e w1 ⟨rfl,hb1⟩;have c2:w1.cell? ⟨w.heap.size,2,G5⟩=G6 (FU sa t.ss.length sc):=by rw[hb1.cell (p:=⟨w.heap.size,2,G5⟩) (by simp)];simp
    have HB:=G8 (GX hb1);clear hb1;go_wp2_with fail;refine(G7 CN _ (G7 HB)).mono ?_;rintro e w2 ⟨rfl,rfl⟩;go_wp2_with fail;go_ret;exact⟨JG (G7 F),G7 HB⟩
  .have F:=G8 (A22 (t:=t) (fun h=>ho h.2.1)).symm;have CZ:=fun W=>JJ t.z W;rw[hz]at CZ;have CO:=G8 (fun W (h:B0 w W)=>ZN vn t.ns W (hn.next h));simp only[RU ho]at CO;obtain⟨na,nc,rfl⟩:=GK hn;obtain⟨sa,sc,rfl⟩:=GK hs;clear hn hs hw hz ho;go_enter func116,ntmps116;go_wp2_with fail;refine(CZ _).mono ?_;rintro e w0 ⟨rfl,rfl⟩;go_wp2_with fail;refine(G7 CO _ (G9 _ _)).mono ?_;rintro e w1 ⟨rfl,hb1⟩;have HB:=G8 (GX hb1);clear hb1;go_wp2_with fail;go_ret;exact⟨JG (G7 F),G7 HB⟩
 .have F:=G8 (A22 (t:=t) (fun h=>hz h.1)).symm;have hz':KN t.z=false:=by simpa using hz
  have CZ:=fun W=>JJ t.z W;rw[hz']at CZ;obtain⟨na,nc,rfl⟩:=GK hn;obtain⟨sa,sc,rfl⟩:=GK hs;clear hn hs hw hz hz';go_enter func116,ntmps116;go_wp2_with fail;refine(CZ _).mono ?_;rintro e w0 ⟨rfl,rfl⟩;go_wp2_with fail;go_ret;exact⟨JG (G7 F),G9 _ _⟩
theorem B21(h:UG t=false):WJ t x=3:=by rw[WJ,if_pos h]
theorem C51(h:UG t=true)(h1:gdE x≠0):WJ t x=gdE x:=by rw[WJ,if_neg (by simp[h]),if_pos h1]
theorem BM5(h:UG t=true)(h1:gdE x=0):WJ t x=(if x.z<=t.z then 13 else if x.o=1/\x.s∈t.ss then 8 else if x.o≠1/\x.s∉t.ss then 12 else 0):=by
 rw[WJ,if_neg (by simp[h]),if_neg (by omega)]
theorem A23(t:Tr)(vn vs:FX)(x:GN)(w:FW)(hn:IL w vn t.ns)(hs:IL w vs t.ss)(hw:WfT t)(hg:UG t=false):
  FZ prog 169 #[.agg #[I0 t.z,vn,vs],J9 x] w (R0 w (I0 3)):=by
 have CG:=G8 (fun W (hW:B0 w W)=>bJ t vn vs W (hn.next hW) (hs.next hW) hw);rw[hg]at CG;obtain⟨na,nc,rfl⟩:=GK hn;obtain⟨sa,sc,rfl⟩:=GK hs;clear hn hs hw hg;obtain⟨xz,xo,xs,xp,xd,xv,xw⟩:=x;unfold J9;go_enter func169,ntmps169;go_wp2_with fail;refine(G7 CG _ (GH (G9 _ _) (G9 _ _))).mono ?_;rintro e w1 ⟨rfl,hb1⟩;have HB:=G8 (GH (GH (G9 _ _) (G9 _ _)) hb1);clear hb1;go_wp2_with fail;go_ret;exact⟨rfl,G7 HB⟩
theorem B22(t:Tr)(vn vs:FX)(x:GN)(w:FW)(hn:IL w vn t.ns)(hs:IL w vs t.ss)(hw:WfT t)(hd:x.d.length<=140737488355328)(hg:UG t=true)(hx:gdE x≠0):
  FZ prog 169 #[.agg #[I0 t.z,vn,vs],J9 x] w (R0 w (I0 (gdE x))):=by
 have CG:=G8 (fun W (hW:B0 w W)=>bJ t vn vs W (hn.next hW) (hs.next hW) hw);rw[hg]at CG;have CW:=G8 (fun W=>XG x W hd);obtain⟨na,nc,rfl⟩:=GK hn;obtain⟨sa,sc,rfl⟩:=GK hs;have hxb:(gdE x !=0)=true:=by simpa using hx
 clear hn hs hw hg hx;have KX:∀W:FW,Below (w.alloc (FV #[I0 t.z,FU na t.ns.length nc,FU sa t.ss.length sc] 37)).heap.size (w.alloc (FV #[I0 t.z,FU na t.ns.length nc,FU sa t.ss.length sc] 37)) W->B0 w W:=fun W h=>GX h;have HKX:=G8 KX;generalize gdE x=E at hxb CW⊢;obtain⟨xz,xo,xs,xp,xd,xv,xw⟩:=x;unfold J9 at CW⊢;simp only at CW⊢;have KT:∀w1,Below ((w.alloc (FV #[I0 t.z,FU na t.ns.length nc,FU sa t.ss.length sc] 37)).alloc (FV #[I0 xz,I0 xo,I0 xs,S0 xp,S0 xd,I0 xv,I0 xw] 79)).heap.size ((w.alloc (FV #[I0 t.z,FU na t.ns.length nc,FU sa t.ss.length sc] 37)).alloc (FV #[I0 xz,I0 xo,I0 xs,S0 xp,S0 xd,I0 xv,I0 xw] 79)) w1->TAt w1 (w.heap.size+1) ⟨xz,xo,xs,xp,xd,xv,xw⟩:=fun w1 h1=>by
  have:=(TAt.new (w.alloc (FV #[I0 t.z,FU na t.ns.length nc,FU sa t.ss.length sc] 37)) ⟨xz,xo,xs,xp,xd,xv,xw⟩).next h1;simpa using this
 have HKT:=G8 KT;clear KX KT;go_enter func169,ntmps169;go_wp2_with fail;refine(G7 CG _ (GH (G9 _ _) (G9 _ _))).mono ?_;rintro e w1 ⟨rfl,hb1⟩;have HB:=G8 (GH (GH (G9 _ _) (G9 _ _)) hb1);have tx:=G7 HKT w1 hb1;have y0:=tx.c0;have y1:=tx.c1;have y2:=tx.c2;have y3:=tx.c3;have y4:=tx.c4;have y5:=tx.c5;have y6:=tx.c6;clear hb1 tx;go_wp2_with fail;refine(G7 CW _).mono ?_;rintro e w2 ⟨rfl,hb2⟩;have HB2:=G8 (GH (G7 HB) hb2);clear hb2;go_wp2_with fail;go_ret;exact⟨rfl,G7 HB2⟩
theorem AM0(t:Tr)(vn vs:FX)(x:GN)(w:FW)(hn:IL w vn t.ns)(hs:IL w vs t.ss)(hw:WfT t)(hd:x.d.length<=140737488355328)(hg:UG t=true)(hx:gdE x=0):
  FZ prog 169 #[.agg #[I0 t.z,vn,vs],J9 x] w (R0 w (I0 (WJ t x))):=by
 have CG:=G8 (fun W (hW:B0 w W)=>bJ t vn vs W (hn.next hW) (hs.next hW) hw);have CO:=fun W (hW:B0 w W)=>bH t.z vn vs t.ss x.s W (hs.next hW) (SC.1 hg).ses;rw[hg]at CG;have CW:=G8 (fun W=>XG x W hd);rw[hx]at CW;rw[BM5 hg hx];generalize hr:(if x.z<=t.z then(13:Int)else if x.o=1/\x.s∈t.ss then 8 else if x.o≠1/\x.s∉t.ss then 12 else 0)=r;have q:(decide (x.z<=t.z)=true/\r=13)\/(decide (x.z<=t.z)=false/\(((x.o==1)=true/\(x.o !=1)=false/\((decide (x.s∈t.ss)=true/\r=8)\/(decide (x.s∈t.ss)=false/\r=0)))\/((x.o==1)=false/\(x.o !=1)=true/\((decide (x.s∈t.ss)=true/\r=0)\/(decide (x.s∈t.ss)=false/\r=12))))):=by
  subst hr;by_cases h1:x.z<=t.z<;>by_cases h2:x.o=1<;>by_cases h3:x.s∈t.ss<;>simp[h1,h2,h3]
 generalize decide (x.s∈t.ss)=op at CO q;clear hr;rcases q with⟨q1,rfl⟩|⟨q1,⟨q2,q3,⟨rfl,rfl⟩|⟨rfl,rfl⟩⟩|⟨q2,q3,⟨rfl,rfl⟩|⟨rfl,rfl⟩⟩⟩
 all_goals
  have HCO:=G8 CO;obtain⟨na,nc,rfl⟩:=GK hn;obtain⟨sa,sc,rfl⟩:=GK hs;clear hn hs hw hg hx CO;obtain⟨xz,xo,xs,xp,xd,xv,xw⟩:=x;unfold J9 at CW⊢;simp only at*;have KT:∀w1,Below ((w.alloc (FV #[I0 t.z,FU na t.ns.length nc,FU sa t.ss.length sc] 37)).alloc (FV #[I0 xz,I0 xo,I0 xs,S0 xp,S0 xd,I0 xv,I0 xw] 79)).heap.size ((w.alloc (FV #[I0 t.z,FU na t.ns.length nc,FU sa t.ss.length sc] 37)).alloc (FV #[I0 xz,I0 xo,I0 xs,S0 xp,S0 xd,I0 xv,I0 xw] 79)) w1->TAt w1 (w.heap.size+1) ⟨xz,xo,xs,xp,xd,xv,xw⟩/\w1.heap[w.heap.size]?=G6 (FV #[I0 t.z,FU na t.ns.length nc,FU sa t.ss.length sc] 37 (0,0)):=fun w1 h1=>by
   have:=(TAt.new (w.alloc (FV #[I0 t.z,FU na t.ns.length nc,FU sa t.ss.length sc] 37)) ⟨xz,xo,xs,xp,xd,xv,xw⟩).next h1;refine⟨by simpa using this,?_⟩;rw[h1.block _ (by simp;omega)];rw[(G9 (w.alloc (FV #[I0 t.z,FU na t.ns.length nc,FU sa t.ss.length sc] 37)) (FV #[I0 xz,I0 xo,I0 xs,S0 xp,S0 xd,I0 xv,I0 xw] 79)).block _ (by simp)];exact heap_alloc_new w _
  have HKT:=G8 KT;clear KT;go_enter func169,ntmps169;go_wp2_with fail;refine(G7 CG _ (GH (G9 _ _) (G9 _ _))).mono ?_;rintro e w1 ⟨rfl,hb1⟩;have HB:=G8 (GH (GH (G9 _ _) (G9 _ _)) hb1);obtain⟨tx,tt⟩:=G7 HKT w1 hb1;have y0:=tx.c0;have y1:=tx.c1;have y2:=tx.c2;have y3:=tx.c3;have y4:=tx.c4;have y5:=tx.c5;have y6:=tx.c6;have HTX:=G8 tx;have HTT:=G8 tt;clear hb1 tx tt;go_wp2_with fail;refine(G7 CW _).mono ?_;rintro e w2 ⟨rfl,hb2⟩;have HB2:=G8 (GH (G7 HB) hb2);have tx2:=(G7 HTX).next hb2;have tt2:=(hb2.block _ (AL.1 (G7 HTT)).1).trans (G7 HTT);have u0:=tx2.c0;have u1:=tx2.c1;have u2:=tx2.c2;have v0:w2.cell? ⟨w.heap.size,0,G5⟩=G6 (I0 t.z):=by simp[World.cell?,tt2]
  have v1:w2.cell? ⟨w.heap.size,1,G5⟩=G6 (FU na t.ns.length nc):=by simp[World.cell?,tt2]
  have v2:w2.cell? ⟨w.heap.size,2,G5⟩=G6 (FU sa t.ss.length sc):=by simp[World.cell?,tt2]
  have A18:=G8 tx2;have HTT2:=G8 tt2;clear hb2 y0 y1 y2 y3 y4 y5 y6 tx2 tt2;go_wp2_with fail;refine(G7 HCO _ (G7 HB2)).mono ?_;rintro e w3 ⟨rfl,hb3⟩;have HB3:=G8 (GH (G7 HB2) hb3);have tx3:=(G7 A18).next hb3;have tt3:=(hb3.block _ (AL.1 (G7 HTT2)).1).trans (G7 HTT2);have z0:=tx3.c0;have z1:=tx3.c1;have r0:w3.cell? ⟨w.heap.size,0,G5⟩=G6 (I0 t.z):=by simp[World.cell?,tt3]
  clear hb3 u0 u1 u2 v0 v1 v2 tx3 tt3;go_wp2_with fail;go_ret;exact⟨rfl,G7 HB3⟩
theorem wI(t:Tr)(vn vs:FX)(x:GN)(w:FW)(hn:IL w vn t.ns)(hs:IL w vs t.ss)(hw:WfT t)(hd:x.d.length<=140737488355328):
  FZ prog 169 #[.agg #[I0 t.z,vn,vs],J9 x] w (R0 w (I0 (WJ t x))):=by
 cases hg:UG t with
 |false=>rw[B21 hg];exact A23 t vn vs x w hn hs hw hg
 |true=>
  by_cases hx:gdE x=0
  .exact AM0 t vn vs x w hn hs hw hd hg hx
  .rw[C51 hg hx];exact B22 t vn vs x w hn hs hw hd hg hx
