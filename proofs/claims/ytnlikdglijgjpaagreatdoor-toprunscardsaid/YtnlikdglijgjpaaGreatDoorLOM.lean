/-
  Part.
-/
import Derived.Test.YtnlikdglijgjpaaGreatDoorLOL
import Derived.Lib.ConvBytes
import Derived.Laws.EntriesVeiled
set_option maxRecDepth 20000
set_option maxHeartbeats 8000000
namespace Go.Proofs.YtnlikdglijgjpaaGreatDoor
open Go.RowKit Go.Proofs.Tryz
open _root_.Nat renaming le_refl->A8,lt_of_lt_of_le->AX,zero_le->AY,le_trans->BN
open Go.RowKit.Below renaming refl->AA
open _root_.Array renaming getElem?_eq_some_iff->AB
open _root_.List renaming getElem?_eq_getElem->AL,getElem?_eq_some_iff->AU,mem_of_getElem?->AZ,mem_cons->BP,mem_append->BZ,length_map->EH,mem_map->EW
open Go.World renaming cell?->AV
open _root_.And renaming intro->D8
open Go.Value renaming slice->FT
open Go.Obj renaming cells->FU
open Go renaming World->FV,Value->FW,Calls->FX
open _root_.Option renaming none->FZ,some->G5
variable{t:Tr}{x:GK}{E z more:Int}{p:List UInt8}{ns:List Nd}{n:Nd}{F:Nat->Prop}{b q k B:Nat}{w w' W V:FV}{e:Ending}{P:Prop}{ss:List Int}{vn vs:FW}
def nI(t:Tr)(x:GK):Int:=if l9 t x≠0 then l9 t x else if Y6 (fF t x)=true then 6 else 0
theorem BK0(h:VO t x≠0):Y7 t x=VO t x:=by rw[Y7,if_pos h]
theorem AA0(h:VO t x=0):Y7 t x=nI t x:=by rw[Y7,if_neg (by omega),nI]
theorem QB(h:l9 t x=E)(h0:E≠0):nI t x=E:=by rw[nI,if_pos (by omega),h]
theorem jP(h:l9 t x=0)(hf:Y6 (fF t x)=true):nI t x=6:=by rw[nI,if_neg (by omega),if_pos hf]
theorem dD(h:l9 t x=0)(hf:Y6 (fF t x)=false):nI t x=0:=by rw[nI,if_neg (by omega),if_neg (by simp[hf])]
theorem qK(p:List UInt8)(z more:Int)(ns:List Nd):(NZ p z more ns).length=ns.length:=by rw[NZ,EH]
theorem AK3(h:n∈NZ p z more ns):∃m∈ns,n=(if m.p=p then bump z more m else m):=by
 rw[NZ]at h;obtain⟨m,hm,rfl⟩:=EW.1 h;exact⟨m,hm,rfl⟩
theorem AK4{m:Nd}(h:m∈ns)(hp:m.p=p):bump z more m∈NZ p z more ns:=by
 rw[NZ];exact EW.2 ⟨m,h,by rw[if_pos hp]⟩
theorem B04{u:Nd}(h:u∈ns)(hp:u.p=p)(hk:u.k=2147483647):Y6 (NZ p z more ns)=true:=
 mJ.2 ⟨_,AK4 h hp,by show 2147483647<u.k+1;omega⟩
theorem B05{u:Nd}(ha:sF ns)(h:u∈ns)(hp:u.p=p)(hk:u.k<2147483647)(hc:∀n∈ns,n.k<=2147483647):Y6 (NZ p z more ns)=false:=by
 rw[OC];intro n hn;obtain⟨m,hm,rfl⟩:=AK3 hn
 split
 .rename_i e
  have:m=u:=TY ha hm h (by rw[e,hp]);subst this;show m.k+1<=_;omega
 .exact hc m hm
def Chg(F:Nat->Prop)(b:Nat)(t:Tr)(x:GK)(w:FV)(e:Ending)(w':FV):Prop:=
 e=.returned (I0 (nI t x))/\Touch F w w'/\(nI t x=0->∃vn vs ve,Grow w' F b x.z vn vs ve (fF t x) (pG t x) (pI t x))
theorem Chg.no(h:e=.returned (I0 E)/\Touch F w w')(hE:nI t x=E)(h0:E≠0):Chg F b t x w e w':=
 ⟨by rw[hE];exact h.1,h.2,fun h'=>by omega⟩
theorem C34(F:Nat->Prop)(b:Nat)(t:Tr)(vn vs ve:FW)(x:GK)(w:FV)(h:Grow w F b x.z vn vs ve t.ns t.ss [])(hF:∀k,w.heap.size<=k->F k)(ha:VO t x=0)(ho:x.o=3):
  FX prog 201 #[P0 b,J7 x] w (Chg F b t x w):=by
 obtain⟨g,hg,hz,h1,h2⟩:=PZ ha;have f:=YS hg;obtain⟨hp1,hp2⟩:=f.path (.inl ho);have hpl:=MP hp1;have hdl:=f.d;have hdo:=WC x.p;have hE:l9 t x=AG5 t x:=by rw[l9,if_pos ho]
 have hN:fF t x=tJ x.z t.ns (A73 x):=by rw[fF,if_neg (by omega),if_pos ho]
 have hS:pG t x=t.ss:=by rw[pG,if_neg (by omega),if_neg (by omega)]
 have hV:pI t x=[⟨1,x.p⟩,⟨4,II x.p⟩]:=by rw[pI,if_neg (by omega),if_pos ho]
 have few:=g.nod.few;rcases YB x.p t.ns g.nod.asc with⟨A,n,B,T⟩|⟨A,B,G⟩
 .refine(AZ7 F b x.z vn vs ve t.ns A B n t.ss [] x w h T few g.nod.asc).mono fun e w' q=>Chg.no q ?_ (by decide);exact QB (by rw[hE,AG5,T.look,if_pos (by rfl)]) (by decide)
 .rcases YB (II x.p) t.ns g.nod.asc with⟨A',u,B',U⟩|⟨A',B',U⟩
  .by_cases hu:u.o=0
   .have hum:u∈t.ns:=by rw[U.eq];simp
    have ku:=g.nod.ok u hum;have hkc:=g.cap u hum;have hkn:=ku.kids;have hkl:NV t.ns u.p<=t.ns.length:=List.countP_le_length;by_cases hw:x.w=0\/x.w=x.s
    .by_cases hf:t.ns.length=400
     .have hc:AG5 t x=6:=by
       rw[AG5,G.look,if_neg (by simp),U.look];simp only;rw[if_neg (by omega),if_neg (by rintro⟨a,c⟩;rcases hw with e|e<;>omega),if_pos hf]
      by_cases hw0:x.w=0
      .exact(AZ9 F b x.z vn vs ve t.ns A B A' B' u t.ss [] x w h G U hu hw0 hf).mono fun e w' q=>Chg.no q (QB (by rw[hE,hc]) (by decide)) (by decide)
      .exact(B00 F b x.z vn vs ve t.ns A B A' B' u t.ss [] x w h G U hu hw0 (by omega) hf).mono fun e w' q=>Chg.no q (QB (by rw[hE,hc]) (by decide)) (by decide)
     .have hc:AG5 t x=0:=by
       rw[AG5,G.look,if_neg (by simp),U.look];simp only;rw[if_neg (by omega),if_neg (by rintro⟨a,c⟩;rcases hw with e|e<;>omega),if_neg hf]
      have gn:PD x.z t.ns t.ss:=g.nod.mono (by omega);have hsm:x.s∈t.ss:=h2 (by omega);have ga:=A72 (x:=A73 x) gn G (by omega) hp1 hp2 ⟨u,hum,U.nm,hu⟩ f.d f.z.1 rfl rfl rfl rfl rfl rfl (by
       rcases hw with c|c
       .exact .inl c
       .exact .inr (by show x.w∈t.ss;rw[c];exact hsm))
      have hins:CQ7 t.ns (A73 x)=A++A73 x::B:=G.ins;have hasc:sF (A++A73 x::B):=by
       have:=(OG _).1 ga.asc;rw[tJ,WA,hins]at this;exact(OG _).2 this
      have CT5:u∈A++A73 x::B:=by
       have:=hum;rw[G.eq]at this;rcases BZ.1 this with e|e<;>simp[e]
      obtain⟨A2,B2,U2⟩:∃A2 B2,KG (A++A73 x::B) A2 u B2 (II x.p):=by
       rw[<-U.nm];exact RD hasc (ZQ hasc CT5)
      have hlen:(A++A73 x::B).length<=400:=by rw[<-hins,<-qK (II x.p) x.z 1];exact ga.few
      by_cases hk:u.k=2147483647
      .have hfu:nI t x=6:=jP (by rw[hE,hc]) (by rw[hN,tJ,hins];exact B04 CT5 U.nm hk);have P:∀W vn' ve',Grow W F b x.z vn' vs ve' (A++A73 x::B) t.ss ([]++[⟨1,x.p⟩])->w.heap.size<=W.heap.size->Touch F w W->FX prog 228 #[P0 b,S0 (II x.p),I0 1] W fun e w'=>e=.returned (I0 6)/\Touch F w w':=by
        intro W vn' ve' hG hs ht;refine(jL F b x.z vn' vs ve' _ A2 B2 u t.ss _ (II x.p) 1 W hG U2 hlen hk).mono ?_;rintro e w' ⟨rfl,t'⟩;exact⟨rfl,ht.trans t'⟩
       exact(A99 F b x.z vn vs ve t.ns A B A' B' u 6 _ t.ss [] x w h hF G U few hu hw (by omega) (by omega) (by omega) (by simp) P).mono fun e w' q=>Chg.no q hfu (by decide)
      .have CT6:∀n∈A++A73 x::B,n.k<=2147483647:=by
        intro n hn;rcases BZ.1 hn with e|e
        .exact g.cap n (by rw[G.eq];simp[e])
        .rcases BP.1 e with rfl|e
         .show (0:Int)<=_;decide
         .exact g.cap n (by rw[G.eq];simp[e])
       have hfu:nI t x=0:=dD (by rw[hE,hc]) (by rw[hN,tJ,hins];exact B05 hasc CT5 U.nm (by omega) CT6);have P:∀W vn' ve',Grow W F b x.z vn' vs ve' (A++A73 x::B) t.ss ([]++[⟨1,x.p⟩])->w.heap.size<=W.heap.size->Touch F w W->FX prog 228 #[P0 b,S0 (II x.p),I0 1] W fun e w'=>e=.returned (I0 0)/\((∃vn' ve',Grow w' F b x.z vn' vs ve' (fF t x) t.ss (pI t x))/\Touch F w w'):=by
        intro W vn' ve' hG hs ht;refine(vI F b x.z vn' vs ve' _ A2 B2 u t.ss _ (II x.p) 1 W hG (fun k hk=>hF k (by omega)) U2 hlen ⟨ku.k0,by omega⟩ (by omega) (by omega) (by omega) (by simp)).mono ?_;rintro e w' ⟨rfl,ve2,g',t'⟩;refine⟨rfl,⟨vn',ve2,?_⟩,ht.trans t'⟩;have e1:fF t x=A2++bump x.z 1 u::B2:=by
         rw[hN,tJ,hins];exact U2.bump x.z 1
        rw[e1,hV];exact g'
       have fin:∀ (e:Ending) (w':FV),(e=.returned (I0 0)/\((∃vn' ve',Grow w' F b x.z vn' vs ve' (fF t x) t.ss (pI t x))/\Touch F w w'))->Chg F b t x w e w':=by
        rintro e w' ⟨rfl,⟨vn',ve',g'⟩,t'⟩;exact⟨by rw[hfu],t',fun _=>⟨vn',vs,ve',by rw[hS];exact g'⟩⟩
       exact(A99 F b x.z vn vs ve t.ns A B A' B' u 0 _ t.ss [] x w h hF G U few hu hw (by omega) (by omega) (by omega) (by simp) P).mono fin
    .have hw1:x.w≠0:=fun e=>hw (.inl e);have hw2:x.w≠x.s:=fun e=>hw (.inr e);refine(C33 F b x.z vn vs ve t.ns A B A' B' u t.ss [] x w h G U few hu hw1 hw2).mono fun e w' q=>Chg.no q ?_ (by decide);refine QB ?_ (by decide);rw[hE,AG5,G.look,if_neg (by simp),U.look];simp only;rw[if_neg (by omega),if_pos ⟨hw1,hw2⟩]
   .refine(AZ8 F b x.z vn vs ve t.ns A B A' B' u t.ss [] x w h G U few hu).mono fun e w' q=>Chg.no q ?_ (by decide);refine QB ?_ (by decide);rw[hE,AG5,G.look,if_neg (by simp),U.look];simp only;rw[if_pos hu]
  .refine(BJ6 F b x.z vn vs ve t.ns A B A' B' t.ss [] x w h G U few).mono fun e w' q=>Chg.no q ?_ (by decide);refine QB ?_ (by decide);rw[hE,AG5,G.look,if_neg (by simp),U.look]
theorem C35(F:Nat->Prop)(b:Nat)(t:Tr)(vn vs ve:FW)(x:GK)(w:FV)(h:Grow w F b x.z vn vs ve t.ns t.ss [])(hF:∀k,w.heap.size<=k->F k)(ha:VO t x=0)(ho:x.o=4):
  FX prog 202 #[P0 b,S0 x.p] w (Chg F b t x w):=by
 obtain⟨g,hg,hz,h1,h2⟩:=PZ ha;have f:=YS hg;obtain⟨hp1,hp2⟩:=f.path (.inr ho);have hpl:=MP hp1;have hdo:=WC x.p;have few:=g.nod.few;have hE:l9 t x=BF2 t x:=by rw[l9,if_neg (by omega),if_pos ho]
 have hN:fF t x=rmN x.z t.ns x.p:=by rw[fF,if_neg (by omega),if_neg (by omega),if_pos ho]
 have hS:pG t x=t.ss:=by rw[pG,if_neg (by omega),if_neg (by omega)]
 have hV:pI t x=[⟨2,x.p⟩,⟨4,II x.p⟩]:=by rw[pI,if_neg (by omega),if_neg (by omega),if_pos ho]
 rcases YB x.p t.ns g.nod.asc with⟨A,n,B,T⟩|⟨A,B,G⟩
 .have hn:n∈t.ns:=by rw[T.eq];simp
  by_cases hk:n.n=0
  .have hd0:BF2 t x=0:=by rw[BF2,T.look];simp only;rw[if_neg (by omega)]
   have gn:PD x.z t.ns t.ss:=g.nod.mono (by omega);obtain⟨u,hu1,hu2,hu3,hu4,hu5⟩:=AU5 gn hn (by rw[T.nm];exact hp2);rw[T.nm]at hu1 hu3 hu4;obtain⟨A',B',T'⟩:=mP gn.asc T hu2 hu3 hu4;have ku:=gn.ok u hu2;have hkc:=g.cap u hu2;have hkn:=ku.kids;have hkl:NV t.ns u.p<=t.ns.length:=List.countP_le_length;by_cases hf:u.k=2147483647
   .refine(jO F b x.z vn vs ve t.ns A B A' B' n u t.ss [] x.p w h hF T T' few hk hf (by omega) (by simp)).mono fun e w' q=>Chg.no q ?_ (by decide);exact jP (by rw[hE,hd0]) (by rw[hN];exact AV0 hu2 hu3 hu4 hf [] (by simp))
   .refine(vJ F b x.z vn vs ve t.ns A B A' B' n u t.ss [] x.p w h hF T T' few hk ⟨ku.k0,by omega⟩ (by omega) (by omega) (by omega) (by simp)).mono ?_;rintro e w' ⟨rfl,vn',ve',g',t'⟩;have hc:nI t x=0:=dD (by rw[hE,hd0]) (by rw[hN,OC];exact BV5 gn.asc hu2 hu3 (by omega) g.cap);exact⟨by rw[hc],t',fun _=>⟨vn',vs,ve',by rw[hN,hS,hV];exact g'⟩⟩
  .refine(A04 F b x.z vn vs ve t.ns A B n t.ss [] x.p w h T few hk).mono fun e w' q=>Chg.no q ?_ (by decide);exact QB (by rw[hE,BF2,T.look];simp only;rw[if_pos hk]) (by decide)
 .refine(AK1 F b x.z vn vs ve t.ns A B t.ss [] x.p w h G few).mono fun e w' q=>Chg.no q ?_ (by decide);exact QB (by rw[hE,BF2,G.look]) (by decide)
theorem C36(F:Nat->Prop)(b:Nat)(t:Tr)(vn vs ve:FW)(x:GK)(w:FV)(h:Grow w F b x.z vn vs ve t.ns t.ss [])(hF:∀k,w.heap.size<=k->F k)(ha:VO t x=0)(ho:x.o=5):
  FX prog 203 #[P0 b,J7 x] w (Chg F b t x w):=by
 obtain⟨g,hg,hz,h1,h2⟩:=PZ ha;have f:=YS hg;have hpl:=MP (f.CS5 ho);have hdl:=f.d;have few:=g.nod.few;have hE:l9 t x=CE1 t x:=by rw[l9,if_neg (by omega),if_neg (by omega),if_pos ho]
 have hN:fF t x=AU3 x.p x.d x.v x.z t.ns:=by rw[fF,if_neg (by omega),if_neg (by omega),if_neg (by omega),if_pos ho]
 have hS:pG t x=t.ss:=by rw[pG,if_neg (by omega),if_neg (by omega)]
 have hV:pI t x=[⟨3,x.p⟩]:=by rw[pI,if_neg (by omega),if_neg (by omega),if_neg (by omega),if_pos ho]
 rcases YB x.p t.ns g.nod.asc with⟨A,n,B,T⟩|⟨A,B,G⟩
 .have hn:n∈t.ns:=by rw[T.eq];simp
  have kn:=g.nod.ok n hn;by_cases hv:x.v=n.v+1
  .refine(CI1 F b x.z vn vs ve t.ns A B n t.ss [] x w h hF T few ⟨kn.v0,kn.v1⟩ (by omega) (by omega) (by simp) hv).mono ?_;rintro e w' ⟨rfl,ve',g',t'⟩;have hc:nI t x=0:=dD (by rw[hE,CE1,T.look];simp only;rw[if_neg (by omega)]) (by
    rw[hN,OC];intro m hm;rw[AU3]at hm;obtain⟨m',hm',rfl⟩:=EW.1 hm
    split
    .exact g.cap m' hm'
    .exact g.cap m' hm')
   exact⟨by rw[hc],t',fun _=>⟨vn,vs,ve',by rw[hN,hS,hV,T.put];exact g'⟩⟩
  .refine(C32 F b x.z vn vs ve t.ns A B n t.ss [] x w h hF T few ⟨kn.v0,kn.v1⟩ (by omega) (by omega) (by simp) hv).mono fun e w' q=>Chg.no q ?_ (by decide);exact QB (by rw[hE,CE1,T.look];simp only;rw[if_pos hv]) (by decide)
 .refine(C31 F b x.z vn vs ve t.ns A B t.ss [] x w h G few).mono fun e w' q=>Chg.no q ?_ (by decide);exact QB (by rw[hE,CE1,G.look]) (by decide)
theorem C37(F:Nat->Prop)(b:Nat)(t:Tr)(vn vs ve:FW)(x:GK)(w:FV)(h:Grow w F b x.z vn vs ve t.ns t.ss [])(hF:∀k,w.heap.size<=k->F k)(ha:VO t x=0)(ho:x.o=2):
  FX prog 200 #[P0 b,I0 x.s] w (Chg F b t x w):=by
 obtain⟨g,hg,hz,h1,h2⟩:=PZ ha;have f:=YS hg;have gn:PD x.z t.ns t.ss:=g.nod.mono (by omega);have hE:l9 t x=0:=by rw[l9,if_neg (by omega),if_neg (by omega),if_neg (by omega)]
 have hN:fF t x=QS x.z t.ns (OH t.ns x.s):=by rw[fF,if_pos ho]
 have hS:pG t x=AG4 t.ss x.s:=by rw[pG,if_neg (by omega),if_pos ho]
 have hV:pI t x=AU7 (OH t.ns x.s):=by rw[pI,if_pos ho]
 have hm:=h2 (by omega);rcases tH x.s t.ss g.ses.1 with⟨A,B,T⟩|⟨A,B,G⟩
 .refine(B03 F b x.z vn vs ve t.ns t.ss A B t.ss x.s w h hF T (UO g.ses) ⟨gn,mM gn (by have:=f.s;omega),g.cap⟩).mono ?_;rintro e w' (⟨hf,rfl,t'⟩|⟨hf,rfl,vn',vs',ve',g',t'⟩)
  .exact Chg.no ⟨rfl,t'⟩ (jP hE (by rw[hN];exact hf)) (by decide)
  .have hc:nI t x=0:=dD hE (by rw[hN];exact hf);exact⟨by rw[hc],t',fun _=>⟨vn',vs',ve',by rw[hN,hS,hV,T.drop];exact g'⟩⟩
 .exact absurd hm G.not
theorem C38(F:Nat->Prop)(b:Nat)(t:Tr)(vn vs:FW)(x:GK)(w:FV)(h:Grow w F b x.z vn vs (N0) t.ns t.ss [])(hF:∀k,w.heap.size<=k->F k)(ha:VO t x=0)(ho:x.o=1):
  FX prog 199 #[P0 b,I0 x.s] w fun e w'=>e=.returned (.tuple #[])/\Chg F b t x w (.returned (I0 0)) w':=by
 obtain⟨g,hg,hz,h1,h2⟩:=PZ ha;have f:=YS hg;have hE:l9 t x=0:=by rw[l9,if_neg (by omega),if_neg (by omega),if_neg (by omega)]
 have hN:fF t x=t.ns:=by rw[fF,if_neg (by omega),if_neg (by omega),if_neg (by omega),if_neg (by omega)]
 have hS:pG t x=BZ7 t.ss x.s:=by rw[pG,if_pos ho]
 have hV:pI t x=[]:=by rw[pI,if_neg (by omega),if_neg (by omega),if_neg (by omega),if_neg (by omega)]
 have hm:=h1 ho;rcases tH x.s t.ss g.ses.1 with⟨A,B,T⟩|⟨A,B,G⟩
 .exact absurd T.mem hm
 .have hl:t.ss.length<=2147483646:=by
   have h3:=UO (A71 g.ses f.s hm);rw[G.ins]at h3;rw[G.eq];simp at h3⊢;omega
  refine(BJ8 F b x.z vn vs _ t.ns t.ss A B [] x.s w h hF G hl).mono ?_;rintro e w' ⟨rfl,vs',g',t'⟩;have hc:nI t x=0:=dD hE (by rw[hN,OC];exact g.cap);exact⟨rfl,by rw[hc],t',fun _=>⟨vn,vs',_,by rw[hN,hS,hV,G.ins];exact g'⟩⟩
theorem Chg.boxed{o:Obj}(h:Chg F b t x (w.alloc o) e w'):Chg F b t x w e w':=
 ⟨h.1,(Touch.of_below (G8 w o)).trans h.2.1,h.2.2⟩
theorem AK5(F:Nat->Prop)(b:Nat)(t:Tr)(vn vs:FW)(x:GK)(w:FV)(h:Grow w F b x.z vn vs (N0) t.ns t.ss [])(hF:∀k,w.heap.size<=k->F k)(ha:VO t x=0)(ho:x.o=1):
  FX prog 169 #[P0 b,J7 x] w (Chg F b t x w):=by
 have C:=C38 F b t vn vs x (w.alloc (FU #[I0 x.z,I0 x.o,I0 x.s,S0 x.p,S0 x.d,I0 x.v,I0 x.w] 65)) (h.next (G8 _ _)) (fun k hk=>hF k (by simp at hk;omega)) ha ho;clear h hF ha;have HO:=G7 ho;obtain⟨xz,xo,xs,xp,xd,xv,xw⟩:=x;unfold J7;simp only at C ho⊢;subst ho;have HC:=G7 C;clear C;go_enter func169,ntmps169;go_wp2_with fail;refine(G6 HC).mono ?_;rintro e w1 ⟨rfl,hc⟩;have HQ:=G7 hc.boxed;clear hc HC;go_wp2_with fail;go_ret;exact G6 HQ
theorem AK6(F:Nat->Prop)(b:Nat)(t:Tr)(vn vs:FW)(x:GK)(w:FV)(h:Grow w F b x.z vn vs (N0) t.ns t.ss [])(hF:∀k,w.heap.size<=k->F k)(ha:VO t x=0)(ho:x.o=2):
  FX prog 169 #[P0 b,J7 x] w (Chg F b t x w):=by
 have C:=C37 F b t vn vs _ x (w.alloc (FU #[I0 x.z,I0 x.o,I0 x.s,S0 x.p,S0 x.d,I0 x.v,I0 x.w] 65)) (h.next (G8 _ _)) (fun k hk=>hF k (by simp at hk;omega)) ha ho;clear h hF ha;have HO:=G7 ho;obtain⟨xz,xo,xs,xp,xd,xv,xw⟩:=x;unfold J7;simp only at C ho⊢;subst ho;have HC:=G7 C;clear C;go_enter func169,ntmps169;go_wp2_with fail;refine(G6 HC).mono ?_;rintro e w1 hc;obtain⟨rfl,hc'⟩:=hc.boxed;have HQ:=G7 hc';clear hc hc' HC;go_wp2_with fail;go_ret;exact⟨rfl,G6 HQ⟩
theorem AK7(F:Nat->Prop)(b:Nat)(t:Tr)(vn vs:FW)(x:GK)(w:FV)(h:Grow w F b x.z vn vs (N0) t.ns t.ss [])(hF:∀k,w.heap.size<=k->F k)(ha:VO t x=0)(ho:x.o=3):
  FX prog 169 #[P0 b,J7 x] w (Chg F b t x w):=by
 have C:=C34 F b t vn vs _ x (w.alloc (FU #[I0 x.z,I0 x.o,I0 x.s,S0 x.p,S0 x.d,I0 x.v,I0 x.w] 65)) (h.next (G8 _ _)) (fun k hk=>hF k (by simp at hk;omega)) ha ho;clear h hF ha;have HO:=G7 ho;obtain⟨xz,xo,xs,xp,xd,xv,xw⟩:=x;unfold J7 at C⊢;simp only at C ho⊢;subst ho;have HC:=G7 C;clear C;go_enter func169,ntmps169;go_wp2_with fail;refine(G6 HC).mono ?_;rintro e w1 hc;obtain⟨rfl,hc'⟩:=hc.boxed;have HQ:=G7 hc';clear hc hc' HC;go_wp2_with fail;go_ret;exact⟨rfl,G6 HQ⟩
theorem AK8(F:Nat->Prop)(b:Nat)(t:Tr)(vn vs:FW)(x:GK)(w:FV)(h:Grow w F b x.z vn vs (N0) t.ns t.ss [])(hF:∀k,w.heap.size<=k->F k)(ha:VO t x=0)(ho:x.o=4):
  FX prog 169 #[P0 b,J7 x] w (Chg F b t x w):=by
 have C:=C35 F b t vn vs _ x (w.alloc (FU #[I0 x.z,I0 x.o,I0 x.s,S0 x.p,S0 x.d,I0 x.v,I0 x.w] 65)) (h.next (G8 _ _)) (fun k hk=>hF k (by simp at hk;omega)) ha ho;clear h hF ha;have HO:=G7 ho;obtain⟨xz,xo,xs,xp,xd,xv,xw⟩:=x;unfold J7;simp only at C ho⊢;subst ho;have HC:=G7 C;clear C;go_enter func169,ntmps169;go_wp2_with fail;refine(G6 HC).mono ?_;rintro e w1 hc;obtain⟨rfl,hc'⟩:=hc.boxed;have HQ:=G7 hc';clear hc hc' HC;go_wp2_with fail;go_ret;exact⟨rfl,G6 HQ⟩
theorem AK9(F:Nat->Prop)(b:Nat)(t:Tr)(vn vs:FW)(x:GK)(w:FV)(h:Grow w F b x.z vn vs (N0) t.ns t.ss [])(hF:∀k,w.heap.size<=k->F k)(ha:VO t x=0)(ho:x.o=5):
  FX prog 169 #[P0 b,J7 x] w (Chg F b t x w):=by
 have C:=C36 F b t vn vs _ x (w.alloc (FU #[I0 x.z,I0 x.o,I0 x.s,S0 x.p,S0 x.d,I0 x.v,I0 x.w] 65)) (h.next (G8 _ _)) (fun k hk=>hF k (by simp at hk;omega)) ha ho;clear h hF ha;have HO:=G7 ho;obtain⟨xz,xo,xs,xp,xd,xv,xw⟩:=x;unfold J7 at C⊢;simp only at C ho⊢;subst ho;have HC:=G7 C;clear C;go_enter func169,ntmps169;go_wp2_with fail;refine(G6 HC).mono ?_;rintro e w1 hc;obtain⟨rfl,hc'⟩:=hc.boxed;have HQ:=G7 hc';clear hc hc' HC;go_wp2_with fail;go_ret;exact⟨rfl,G6 HQ⟩
theorem AL0(F:Nat->Prop)(b:Nat)(t:Tr)(vn vs:FW)(x:GK)(w:FV)(h:Grow w F b x.z vn vs (N0) t.ns t.ss [])(hF:∀k,w.heap.size<=k->F k)(ha:VO t x=0):
  FX prog 169 #[P0 b,J7 x] w (Chg F b t x w):=by
 have f:=(YS (PZ ha).2.1).op;by_cases h1:x.o=1
 .exact AK5 F b t vn vs x w h hF ha h1
 .by_cases h2:x.o=2
  .exact AK6 F b t vn vs x w h hF ha h2
  .by_cases h3:x.o=3
   .exact AK7 F b t vn vs x w h hF ha h3
   .by_cases h4:x.o=4
    .exact AK8 F b t vn vs x w h hF ha h4
    .exact AK9 F b t vn vs x w h hF ha (by omega)
noncomputable def pd(P:Prop):Bool:= @decide P (Classical.propDecidable _)
theorem SE(h:P):pd P=true:=by unfold pd;exact @decide_eq_true _ (Classical.propDecidable _) h
theorem RJ(h:¬P):pd P=false:=by unfold pd;exact @decide_eq_false _ (Classical.propDecidable _) h
theorem BW0:pd P=true↔P:=by unfold pd;exact @decide_eq_true_iff _ (Classical.propDecidable _)
theorem JE{a b:Bool}(h:a=b):Ending.returned (.bool a)=.returned (.bool b):=by rw[h]
structure AA1(ns:List Nd):Prop where
 few:ns.length<=400
 root:∃r rest,ns=r::rest/\r.p=[47]
 asc:sF ns
def BK1(ns:List Nd)(p:List UInt8):Prop:=(LQ ns (II p)).isSome=true\/AR2 p=7
structure dZ(z:Int)(n:Nd)(ks:Int)(ss:List Int):Prop where
 c0:0<=n.c
 cm:n.c<=n.m
 cq:n.c<=n.q
 mz:n.m<=z
 qz:n.q<=z
 v0:0<=n.v
 v1:n.v<=2147483647
 k0:0<=n.k
 k1:n.k<=2147483647
 kids:n.n=ks
 own:n.o=0\/ks=0/\n.o∈ss
structure BK2(z:Int)(ns:List Nd)(ss:List Int)(n:Nd):Prop where
 data:n.d.length<=256
 held:BK1 ns n.p
 sound:dZ z n (NV ns n.p) ss
theorem CI4{q:List UInt8}(h:bl [47] q=true):q≠[]:=by rintro rfl;simp[bl,Op.bytesLess]at h
theorem vM(h:AA1 ns)(hn:n∈ns):n.p≠[]:=by
 obtain⟨r,rest,rfl,hr⟩:=h.root;rcases BP.1 hn with rfl|hn
 .rw[hr];simp
 .have:=(List.pairwise_cons.1 h.asc).1 n hn;rw[hr]at this;exact CI4 this
theorem XV:QZ t↔KL t.z=true/\AA1 t.ns/\pF t.ss/\(∀n∈t.ns,BK2 t.z t.ns t.ss n)/\∀r,t.ns[0]?=G5 r->r.o=0:=by
 constructor
 .intro g;obtain⟨r,rest,hr,hp,ho⟩:=g.nod.root;refine⟨g.zx,⟨g.nod.few,⟨r,rest,hr,hp⟩,g.nod.asc⟩,g.ses,fun n hn=>?_,fun r' h=>by rw[hr]at h;simp at h;rw[<-h];exact ho⟩;have k:=g.nod.ok n hn;refine⟨k.data,?_,⟨k.c0,k.cm,k.cq,k.mz,k.qz,k.v0,k.v1,k.k0,g.cap n hn,k.kids,?_⟩⟩
  .by_cases h:n.p=[47]
   .exact .inr (by rw[h];exact sZ)
   .obtain⟨u,hu,he⟩:=k.up h;exact .inl (by rw[<-he,ZQ g.nod.asc hu];rfl)
  .rcases k.own with h|⟨h1,h2⟩
   .exact .inl h
   .exact .inr ⟨by rw[<-k.kids];exact h2,h1⟩
 .rintro⟨hz,ho,hs,hp,hr⟩;refine⟨hz,hs,⟨ho.few,?_,ho.asc,fun n hn=>?_⟩,fun n hn=>(hp n hn).sound.k1⟩
  .obtain⟨r,rest,h1,h2⟩:=ho.root;exact⟨r,rest,h1,h2,hr r (by rw[h1];rfl)⟩
  .have k:=hp n hn;have s:=k.sound;have hg:J4 n.p=true/\(n.p≠[47]->∃u∈t.ns,u.p=II n.p):=by
    rcases k.held with h|h
    .obtain⟨u,hu⟩:=Option.isSome_iff_exists.1 h;obtain⟨hu1,hu2⟩:=XK hu;have hne:II n.p≠[]:=by rw[<-hu2];exact vM ho hu1
     cases hb:J4 n.p with
     |false=>exact absurd (ZP hb) hne
     |true=>exact⟨rfl,fun _=>⟨u,hu1,hu2⟩⟩
    .cases hb:J4 n.p with
     |false=>rw[A69 hb]at h;omega
     |true=>
      by_cases h1:n.p=[47]
      .exact⟨rfl,fun h2=>absurd h1 h2⟩
      .rw[AU2 hb h1]at h;omega
   refine⟨k.data,hg.1,hg.2,s.c0,s.cm,s.cq,s.mz,s.qz,s.v0,s.v1,s.k0,s.kids,?_⟩;rcases s.own with h|⟨h1,h2⟩
   .exact .inl h
   .exact .inr ⟨h2,by rw[s.kids];exact h1⟩
def AA2(ns:List Nd)(k:Nat):Prop:=∀i,i<k->∀a b,ns[i]?=G5 a->ns[i+1]?=G5 b->bl a.p b.p=true
theorem B06(h:AA2 ns k){a b:Nd}(ha:ns[k]?=G5 a)(hb:ns[k+1]?=G5 b)(hl:bl a.p b.p=true):AA2 ns (k+1):=by
 intro i hi x y hx hy;by_cases e:i=k
 .subst e;rw[ha]at hx;rw[hb]at hy;cases hx;cases hy;exact hl
 .exact h i (by omega) x y hx hy
theorem A06(h:AA2 ns k)(hk:ns.length<=k+1):sF ns:=by
 have step:∀j i,(hij:i<j)->∀ (hj:j<ns.length),bl (ns[i]'(Nat.lt_trans hij hj)).p ns[j].p=true:=by
  intro j
  induction j with
  |zero=>intro i hi;omega
  |succ j ih=>
   intro i hi hj;have h1:=h j (by omega) ns[j] ns[j+1] (by simp) (by simp);by_cases e:i=j
   .subst e;exact h1
   .exact QX _ _ _ (ih i (by omega) (by omega)) h1
 exact List.pairwise_iff_getElem.2 fun i j hi hj hij=>step j i hij hj
theorem BK3(h:sF ns){i:Nat}{a b:Nd}(ha:ns[i]?=G5 a)(hb:ns[i+1]?=G5 b):bl a.p b.p=true:=by
 obtain⟨h1,rfl⟩:=AU.1 ha;obtain⟨h2,rfl⟩:=AU.1 hb;exact List.pairwise_iff_getElem.1 h i (i+1) h1 h2 (by omega)
theorem YX(v:FW)(ns:List Nd)(w:FV)(hv:IE w v ns):
  FX prog 160 #[v] w (R0 w (.bool (pd (AA1 ns)))):=by
 rcases hv with⟨a,cap,rfl,rfl,_⟩|⟨b,off,cap,rfl,hle,hm,hb,hne,hr⟩
 .have F:=G7 (RJ (P:=AA1 []) (fun h=>by obtain⟨r,rest,h,_⟩:=h.root;cases h)).symm;go_enter func160,ntmps160;go_wp2_with fail;go_ret;exact⟨JE (G6 F),AA _ _⟩
 .obtain⟨r,rest,rfl⟩:∃r rest,ns=r::rest:=by
   cases ns with
   |nil=>exact absurd rfl hne
   |cons r rest=>exact⟨r,rest,rfl⟩
  have e0:=hr.n0 (i:=0) (x:=r) rfl;have H:=G7 hr;simp only[List.length_cons]at hle⊢;simp only[maxLen]at hm;clear hr hne;by_cases hl:rest.length+1<=400
  .by_cases hp:r.p=[47]
   .have hp2:(r.p==[47])=true:=by rw[hp];rfl
    have HL:=G7 hl;have HP:=G7 hp;clear hp;simp only[Nat.zero_mul,Nat.add_zero]at e0;by_cases hc1:cap=1
    .obtain rfl:rest=[]:=List.eq_nil_of_length_eq_zero (by omega);subst hc1;have T:=G7 (SE (P:=AA1 [r]) ⟨by simp,⟨r,[],rfl,G6 HP⟩,List.pairwise_singleton _ _⟩).symm;clear hle hl;simp only[List.length_nil];go_enter func160,ntmps160;go_wp2_with fail
     go_loopg [23] 1 (fun _ s23 wr=>s23=I0 0/\wr=w)
     case atStart=>exact⟨rfl,rfl⟩
     case round=>
      obtain⟨rfl,rfl⟩:=hrel;go_wp2_with fail;go_ret;exact⟨JE (G6 T),AA _ _⟩
    .go_enter func160,ntmps160;go_wp2_with fail
     go_loopg [23] rest.length (fun kx s23 wr=>∃k:Nat,s23=I0 k/\k<=rest.length/\rest.length-k<=kx/\Hid (B0 w wr)/\Hid (AA2 (r::rest) k))
     case atStart=>exact⟨0,rfl,AY _,A8 _,G7 (AA _ _),G7 (fun i hi=>absurd hi (Nat.not_lt_zero _))⟩
     case round=>
      obtain⟨k,rfl,hk,hg,hB,hR⟩:=hrel;by_cases hlt:k<rest.length
      .obtain⟨x,hx⟩:∃x,(r::rest)[k+1]?=G5 x:=⟨_,AL (by simp;omega)⟩;obtain⟨y,hy⟩:∃y,(r::rest)[k]?=G5 y:=⟨_,AL (by simp;omega)⟩;have q:=(G6 H).kept (G6 hB) hb;have d0:=q.n0 hx;have d1:=q.n1 hx;have d2:=q.n2 hx;have d3:=q.n3 hx;have d4:=q.n4 hx;have d5:=q.n5 hx;have d6:=q.n6 hx;have d7:=q.n7 hx;have d8:=q.n8 hx;have c0:=q.n0 hy;have hbw:b<wr.heap.size:=AX hb (G6 hB).size;have hofs:off+9+k*9=off+(k+1)*9:=by omega
       rw[<-hofs]at d0 d1 d2 d3 d4 d5 d6 d7 d8;clear hofs;have hk1:(k:Int)<(rest.length:Int)+1:=by omega
       cases hbl:bl y.p x.p with
       |true=>
        have R2:=G7 (B06 (G6 hR) hy hx hbl);have hbl1:Op.bytesLess x.p y.p=false:=OB hbl;have hbl2:(x.p==y.p)=false:=by simpa using (VW hbl).symm
        clear hx hy q hbl;go_wp2_with fail;go_region;go_wp2_with fail
        go_roundg (rest.length-(k+1))
        case measure=>omega
        case rel=>exact⟨k+1,rfl,by omega,A8 _,G7 (G9 (G6 hB) ((G8 _ _).drew)),R2⟩
       |false=>
        have F:=G7 (RJ (P:=AA1 (r::rest)) (fun h=>by have:=BK3 h.asc hy hx;rw[hbl]at this;cases this)).symm;clear hx hy q
        cases hb1:bl x.p y.p with
        |true=>
         have hbl1:Op.bytesLess x.p y.p=true:=hb1;clear hbl hb1;go_wp2_with fail;go_region;go_wp2_with fail;go_ret;exact⟨JE (G6 F),G9 (G6 hB) ((G8 _ _).drew)⟩
        |false=>
         have hbl1:Op.bytesLess x.p y.p=false:=hb1;have hbl2:(x.p==y.p)=true:=by simpa using TA _ _ hb1 hbl
         clear hbl hb1;go_wp2_with fail;go_region;go_wp2_with fail;go_ret;exact⟨JE (G6 F),G9 (G6 hB) ((G8 _ _).drew)⟩
      .obtain rfl:k=rest.length:=by omega
       go_wp2_with fail;go_ret;exact⟨JE (SE (P:=AA1 (r::rest)) ⟨G6 HL,⟨r,rest,rfl,G6 HP⟩,A06 (G6 hR) (by simp)⟩).symm,G6 hB⟩
   .have hp2:(r.p==[47])=false:=by simpa using hp
    have F:=G7 (RJ (P:=AA1 (r::rest)) (fun h=>by obtain⟨r',s',h1,h2⟩:=h.root;cases h1;exact hp h2)).symm;clear hp;simp only[Nat.zero_mul,Nat.add_zero]at e0;go_enter func160,ntmps160;go_wp2_with fail;go_ret;exact⟨JE (G6 F),AA _ _⟩
  .have F:=G7 (RJ (P:=AA1 (r::rest)) (fun h=>hl (by simpa using h.few))).symm;go_enter func160,ntmps160;go_wp2_with fail;go_ret;exact⟨JE (G6 F),AA _ _⟩
def QT(ss:List Int):Nat->Int
 |0=>1
 |k+1=>ss.getD k 0+1
def OkS(ss:List Int)(k:Nat):Prop:=∀i,i<k->∀x,ss[i]?=G5 x->QT ss i<=x/\x<=2147483647
theorem BK4(h:OkS ss k){x:Int}(hx:ss[k]?=G5 x)(h1:QT ss k<=x)(h2:x<=2147483647):OkS ss (k+1):=by
 intro i hi y hy;by_cases e:i=k
 .subst e;rw[hx]at hy;cases hy;exact⟨h1,h2⟩
 .exact h i (by omega) y hy
theorem WR{x:Int}(hx:ss[k]?=G5 x):QT ss (k+1)=x+1:=by simp[QT,List.getD,hx]
theorem BK5(h:pF ss){x:Int}(hx:ss[k]?=G5 x):QT ss k<=x/\x<=2147483647:=by
 have hb:=h.2 x (AZ hx);refine⟨?_,hb.2⟩
 cases k with
 |zero=>simp only[QT];omega
 |succ k=>
  obtain⟨h1,rfl⟩:=AU.1 hx;rw[WR (AL (show k<ss.length by omega))];have:=List.pairwise_iff_getElem.1 h.1 k (k+1) (by omega) h1 (by omega);omega
theorem BK6(h:OkS ss ss.length):pF ss:=by
 have step:∀j i,(hij:i<j)->∀ (hj:j<ss.length),ss[i]'(Nat.lt_trans hij hj)<ss[j]:=by
  intro j
  induction j with
  |zero=>intro i hi;omega
  |succ j ih=>
   intro i hi hj;have h1:=(h (j+1) hj _ (AL hj)).1;rw[WR (AL (show j<ss.length by omega))]at h1;by_cases e:i=j
   .subst e;omega
   .have:=ih i (by omega) (by omega);omega
 have pos:∀i,(hi:i<ss.length)->1<=ss[i]:=by
  intro i
  induction i with
  |zero=>intro hi;exact(h 0 hi _ (AL hi)).1
  |succ i ih=>intro hi;have:=step (i+1) i (by omega) hi;have:=ih (by omega);omega
 refine⟨List.pairwise_iff_getElem.2 fun i j hi hj hij=>step j i hij hj,fun s hs=>?_⟩;obtain⟨i,hi,rfl⟩:=List.getElem_of_mem hs;exact⟨pos i hi,(h i hi _ (AL hi)).2⟩
theorem eG(v:FW)(ss:List Int)(w:FV)(hv:IE w v ss)(hi:∀s∈ss,-9223372036854775808<=s/\s<=9223372036854775807):
  FX prog 161 #[v] w fun e w'=>e=.returned (.bool (pd (pF ss)))/\w'=w:=by
 have T:=G7 (fun h:OkS ss ss.length=>(SE (BK6 h)).symm);have F:=G7 (fun(k:Nat) (x:Int) (hx:ss[k]?=G5 x) (h:¬ (QT ss k<=x/\x<=2147483647))=>(RJ (fun g:pF ss=>h (BK5 g hx))).symm);have HI:=G7 hi;clear hi;generalize pd (pF ss)=fin at T F⊢;have R:∀k x,ss[k]?=G5 x->∃b off cap,v=FT (G5 ⟨b,off,FZ⟩) ss.length cap/\w.cell? ⟨b,off+k,FZ⟩=G5 (I0 x):=fun k x hx=>by
  obtain⟨b,off,cap,rfl,_,hr,_,_⟩:=N8 hv (by rintro rfl;simp at hx);exact⟨b,off,cap,rfl,hr.i0 hx⟩
 have HR:=G7 R;have hml:ss.length<=9223372036854775807:=by
  rcases hv with⟨a,cap,rfl,rfl,_⟩|⟨b,off,cap,rfl,h1,h2,_⟩
  .simp
  .simp only[maxLen]at h2;omega
 obtain⟨a,c,rfl⟩:=GL hv;clear R hv;go_enter func161,ntmps161;go_wp2_with fail
 go_loopg [3,8] ss.length (fun kx s3 s8 wr=>∃k:Nat,s3=I0 (QT ss k)/\s8=I0 k/\k<=ss.length/\ss.length-k<=kx/\wr=w/\Hid (OkS ss k))
 case atStart=>exact⟨0,rfl,rfl,AY _,A8 _,rfl,G7 (fun i hi=>absurd hi (Nat.not_lt_zero _))⟩
 case round=>
  obtain⟨k,rfl,rfl,hk,hg,rfl,hO⟩:=hrel;by_cases hlt:k<ss.length
  .obtain⟨x,hx⟩:∃x,ss[k]?=G5 x:=⟨_,AL hlt⟩;obtain⟨b,off,cap,hv,e0⟩:=G6 HR k x hx;have hbx:=G6 HI x (AZ hx);simp only[Value.slice.injEq]at hv;obtain⟨rfl,_,rfl⟩:=hv;have HX:=G7 hx;clear hx;have LS:=G7 (WR (G6 HX));by_cases h1:QT ss k<=x
   .by_cases h2:x<=2147483647
    .have O2:=G7 (BK4 (G6 hO) (G6 HX) h1 h2);generalize QT ss k=ls at h1;go_wp2_with fail
     go_roundg (ss.length-(k+1))
     case measure=>omega
     case rel=>exact⟨k+1,by rw[G6 LS],rfl,by omega,A8 _,rfl,O2⟩
    .have G:=G7 (G6 F k x (G6 HX) (by omega));generalize QT ss k=ls at h1;go_wp2_with fail;go_ret;exact⟨JE (G6 G),rfl⟩
   .have G:=G7 (G6 F k x (G6 HX) (by omega));generalize QT ss k=ls at h1;go_wp2_with fail;go_ret;exact⟨JE (G6 G),rfl⟩
  .obtain rfl:k=ss.length:=by omega
   have G:=G7 (G6 T (G6 hO));go_wp2_with fail;go_ret;exact⟨JE (G6 G),rfl⟩
theorem BK7(v:FW)(ns:List Nd)(p:List UInt8)(w:FV)(hv:IE w v ns)(ha:AA1 ns):
  FX prog 163 #[v,S0 p] w (R0 w (.bool (pd (BK1 ns p)))):=by
 have C:∀W:FV,B0 w W->∃i:Nat,FX prog 87 #[v,S0 (II p)] W (R0 W (.tuple #[I0 i,.bool (LQ ns (II p)).isSome])):=fun W hW=>by
  obtain⟨i,_,h⟩:=uV v ns (II p) W (hv.next hW) (by have:=ha.few;omega) ha.asc;exact⟨i,h⟩
 have C':=G7 C;have F:pd (BK1 ns p)=((LQ ns (II p)).isSome||AR2 p==7):=by
  cases h:(LQ ns (II p)).isSome with
  |true=>exact SE (.inl h)
  |false=>
   by_cases h2:AR2 p=7
   .rw[SE (.inr h2),h2];rfl
   .rw[RJ (fun hh=>hh.elim (fun h1=>by rw[h]at h1;cases h1) h2)];simp[h2]
 rw[F];obtain⟨a,c,rfl⟩:=GL hv;have CS:=fun W=>ND p W;clear C hv ha F;generalize (LQ ns (II p)).isSome=hd at C'⊢;generalize II p=dp at C' CS;generalize NQ p=sp at CS;generalize AR2 p=ep at CS⊢;generalize ns.length=nl at C'⊢;go_enter func163,ntmps163;go_wp2_with fail;refine(CS _).mono ?_;rintro e w1 ⟨rfl,hb1⟩;go_wp2_with fail;obtain⟨i,C2⟩:=G6 C' _ hb1;refine C2.mono ?_;rintro e w2 ⟨rfl,hb2⟩;have hB:=G9 hb1 hb2;clear CS C2 C' hb1 hb2
 cases hd with
 |true=>
  go_wp2_with fail;go_ret;exact⟨rfl,hB⟩
 |false=>
  go_wp2_with fail;go_ret;exact⟨rfl,hB⟩
theorem B07(z:Int)(vn vs:FW)(n:Nd)(kids:Int)(ss:List Int)(w:FV)(hv:IE w vs ss)(hs:pF ss):
  FX prog 164 #[.agg #[I0 z,vn,vs],C11 n,I0 kids] w (R0 w (.bool (pd (dZ z n kids ss)))):=by
 have CO:∀W:FV,B0 w W->FX prog 197 #[.agg #[I0 z,vn,vs],I0 n.o] W (R0 W (.bool (decide (n.o∈ss)))):=fun W hW=>aH z vn vs ss n.o W (hv.next hW) hs;have C':=G7 CO;have F:=G7 (fun h:¬dZ z n kids ss=>(RJ h).symm);have T:=G7 (fun h:dZ z n kids ss=>(SE h).symm);have SP:=G7 (Iff.intro (fun h:dZ z n kids ss=>D8 h.c0 (D8 h.cm (D8 h.cq (D8 h.mz (D8 h.qz (D8 h.v0 (D8 h.v1 (D8 h.k0 (D8 h.k1 (D8 h.kids h.own)))))))))) (fun⟨a,b,c,d,e,f,g,h,i,j,k⟩=>(⟨a,b,c,d,e,f,g,h,i,j,k⟩:dZ z n kids ss)));generalize pd (dZ z n kids ss)=fin at F T⊢;obtain⟨a,c,rfl⟩:=GL hv;clear CO hv hs;unfold C11;obtain⟨np,nd,nc,nm,nq,nv,nk,no,nn⟩:=n;simp only at C' SP⊢;go_enter func164,ntmps164;go_wp2_with fail;go_region;go_wp2_with fail
 all_goals try simp only[bne_iff_ne,ne_eq,bne_eq_false_iff_eq]at*
 all_goals (first
  |(go_ret;exact⟨JE (G6 F (fun h=>by have:=(G6 SP).1 h;omega)),(((AA _ _).alloc (A8 _) _).alloc (by simp) _).drew⟩)
  |(go_ret;exact⟨JE (G6 T ((G6 SP).2 (by omega))),(((AA _ _).alloc (A8 _) _).alloc (by simp) _).drew⟩)
  |(go_ret;exact⟨JE ((beq_eq_false_iff_ne.2 (by assumption)).trans (G6 F (fun h=>by rcases((G6 SP).1 h).2.2.2.2.2.2.2.2.2.2 with h|h<;>omega))),(((AA _ _).alloc (A8 _) _).alloc (by simp) _).drew⟩)
  |skip)
 refine(G6 C' _ ((((AA _ _).alloc (A8 _) _).alloc (by simp) _).drew)).mono ?_;rintro e w1 ⟨rfl,hb1⟩;have hB:=G9 ((((AA w.heap.size w).alloc (A8 _) _).alloc (by simp) _).drew) hb1;by_cases hmem:no∈ss
 .have G:=G7 (G6 T ((G6 SP).2 ⟨by omega,by omega,by omega,by omega,by omega,by omega,by omega,by omega,by omega,by omega,.inr ⟨by omega,hmem⟩⟩));go_wp2_with fail;go_ret;exact⟨JE (G6 G),hB⟩
 .have G:=G7 (G6 F (fun h=>by have:=((G6 SP).1 h).2.2.2.2.2.2.2.2.2.2;exact this.elim (fun h=>by omega) (fun h=>hmem h.2)));go_wp2_with fail;go_ret;exact⟨JE ((beq_eq_false_iff_ne.2 (by assumption)).trans (G6 G)),hB⟩
open Go.WideMaps Go.Maps
theorem CT7:Keyed prog 9:=string_keyed underlying9
theorem CI5(w:FV):(zeroValue 3).run prog w=.ok (.int .i64 0) w:=by kernel_rfl
def nJ(w:FV)(B k:Nat)(ns:List Nd):Prop:=
 ∃D:DataW Unit,w.ownsMap prog 9 (plainElem prog 3) B k D/\IsMap D/\∀s:List UInt8,D.atKey (.string s) (.lit (.int .i64 0))=.lit (.int .i64 (NV ns s))
theorem AL1(ns:List Nd)(n:Nd)(s:List UInt8):NV (ns++[n]) s=NV ns s+(if II n.p=s then 1 else 0):=by
 simp only[NV,List.countP_append,List.countP_cons,List.countP_nil,decide_eq_true_eq];omega
theorem BK8(ns:List Nd)(s:List UInt8):NV ns s<=ns.length:=List.countP_le_length
theorem A07{D:DataW Unit}(hm:IsMap D)(hD:∀s:List UInt8,D.atKey (.string s) (.lit (.int .i64 0))=.lit (.int .i64 (NV ns s)))(s:List UInt8):
  (D.put (.string (II n.p)) (.lit (.int .i64 (NV ns (II n.p)+1)))).atKey (.string s) (.lit (.int .i64 0))=.lit (.int .i64 (NV (ns++[n]) s)):=by
 rw[AL1];by_cases e:II n.p=s
 .subst e;rw[atKey_put_same hm (show WideAt.IsKeyLit (.string _)from trivial)];simp
 .rw[atKey_put_other (by simpa using fun h=>e h.symm),hD,if_neg e];simp
theorem A08(b off cap:Nat)(ns:List Nd)(w:FV)(hl:ns.length<=400)(hb:b<w.heap.size)(hr:IC w b off (GH ns)):
  FX prog 162 #[FT (G5 ⟨b,off,FZ⟩) ns.length cap] w fun e w'=>e=.returned (.map (G5 w.heap.size))/\nJ w' w.heap.size 400 ns/\Below w.heap.size w w':=by
 have H:=G7 hr;clear hr;have hmm:= @run_makeMap prog;go_enter func162,ntmps162;go_wp2_with fail
 go_loopg [12] ns.length (fun kx i wr=>∃k:Nat,i=.int .i64 k/\k<=ns.length/\ns.length-k<=kx/\Hid (nJ wr w.heap.size k (ns.take k))/\Hid (Below w.heap.size w wr))
 case atStart=>exact⟨0,rfl,AY _,A8 _,G7 ⟨_,World.ownsMap_made _ _ _ _,isMap_empty,fun s=>by rfl⟩,G7 (G8 _ _)⟩
 case round=>
  obtain⟨k,rfl,hk,hg,hC,hB⟩:=hrel;by_cases hlt:k<ns.length
  .obtain⟨x,hx⟩:∃x,ns[k]?=G5 x:=⟨_,AL hlt⟩;have q:=(G6 H).kept (G6 hB) hb;have d0:=q.n0 hx;have d1:=q.n1 hx;have d2:=q.n2 hx;have d3:=q.n3 hx;have d4:=q.n4 hx;have d5:=q.n5 hx;have d6:=q.n6 hx;have d7:=q.n7 hx;have d8:=q.n8 hx;have hbw:b<wr.heap.size:=AX hb (G6 hB).size;have hts:ns.take (k+1)=ns.take k++[x]:=by rw[List.take_add_one,hx];rfl
   have HT:=G7 hts;clear q hx hts;have CS:=fun W=>ND x.p W;have hdl:(II x.p).length<=1000:=by
    cases hgb:J4 x.p with
    |false=>rw[ZP hgb];simp
    |true=>
     by_cases hr:x.p=[47]
     .rw[hr,TV];simp
     .obtain⟨a,c,he,hc⟩:=ZN hgb;have:=MP hgb;rw[he]at hgb hr this⊢;rw[ZO hgb hr hc,CF6]
      split
      .simp
      .simp at this;omega
   have HDL:=G7 hdl;clear hdl;obtain⟨D,ho,hm,hD⟩:=G6 hC;have HD:=G7 hD;have HM:=G7 hm;have hc1:=BK8 (ns.take k) (II x.p);simp only[List.length_take]at hc1;have STEP:=G7 (fun s=>A07 (n:=x) hm hD s);obtain⟨cn,hcn⟩:∃cn,NV (ns.take k) (II x.p)=cn:=⟨_,rfl⟩;rw[hcn]at hc1;have HCN:=G7 hcn;clear hD hm hcn;generalize hdp:II x.p=dp at CS HDL;have HDP:=G7 hdp;clear hdp;generalize NQ x.p=sp at CS;generalize AR2 x.p=ep at CS;go_wp2_with fail;refine(CS _).mono ?_;rintro e w1 ⟨rfl,hb1⟩;have hB1:Below w.heap.size w w1:=G9 (G6 hB) (GY hb1);have ho1:w1.ownsMap prog 9 (plainElem prog 3) w.heap.size k D:=by
    have:Below wr.heap.size wr w1:=GY hb1;obtain⟨es,cl,h1,h2⟩:=ho;exact⟨es,cl,(this.block _ (AB.1 h1).1).trans h1,h2⟩
   have hkey:keyOf prog 9 (.string ⟨dp.toArray⟩)=G5 (.string dp):=by
    have:=keyOf_string_mk (P:=prog) underlying9 (s:=⟨dp.toArray⟩) (by have:=G6 HDL;simp only[maxLen,ByteArray.size,List.size_toArray];omega);simpa using this
   obtain⟨c,hrun,hat,_⟩:=ho1.lookup_int CT7 underlying239 underlying3 (CI5 _) hkey;have hcc:c=(cn:Int):=by
    rw[G6 HD,<-G6 HDP,G6 HCN]at hat;simpa using hat.symm
   subst hcc;clear CS hat hb1 ho d0 d1 d2 d3 d4 d5 d6 d7 d8;go_wp2_with (first
    |(at_mapUpdate;refine wpList_mapUpdate_own _ rfl _ _ _ 239 rfl 9 3 CT7 underlying239 _ w.heap.size k _ rfl ho1 (by unfold maxLen;omega) _ _ _ rfl rfl hkey _ [] (plainElem_int underlying3 (WalkArith.wf_i64 (by omega))) ?_)
    |fail)
   intro w2 hown1 hgrow1;have B2:=hB1.grown hgrow1 hB1.size (fun j hj=>by cases hj;exact A8 _);have C2:nJ w2 w.heap.size (k+1) (ns.take (k+1)):=by
    refine⟨_,hown1,(G6 HM).put _ _,fun s=>?_⟩;rw[G6 HT,<-G6 STEP s,G6 HCN,G6 HDP]
   have HC2:=G7 C2;have HB2:=G7 B2;clear C2 B2 hown1 hgrow1 ho1 hrun hB1;go_wp2_with fail
   go_roundg (ns.length-(k+1))
   case measure=>omega
   case rel=>exact⟨k+1,rfl,by omega,A8 _,HC2,HB2⟩
  .obtain rfl:k=ns.length:=by omega
   go_wp2_with fail;go_ret;obtain⟨D,ho,hm,hD⟩:=G6 hC;exact⟨rfl,⟨D,ho.mono (by omega),hm,fun s=>by rw[hD,List.take_length]⟩,G6 hB⟩
structure WfT(t:Tr):Prop where
 ses:∀s∈t.ss,-9223372036854775808<=s/\s<=9223372036854775807
 CI7:∀n∈t.ns,n.p.length<=140737488355328/\n.d.length<=140737488355328
def OkG(t:Tr)(k:Nat):Prop:=∀i,i<k->∀n,t.ns[i]?=G5 n->BK2 t.z t.ns t.ss n
theorem BK9(h:OkG t k)(hn:t.ns[k]?=G5 n)(hp:BK2 t.z t.ns t.ss n):OkG t (k+1):=by
 intro i hi m hm;by_cases e:i=k
 .subst e;rw[hn]at hm;cases hm;exact hp
 .exact h i (by omega) m hm
theorem BL0(hz:KL t.z=true)(ho:AA1 t.ns)(hs:pF t.ss)(h:OkG t t.ns.length){r:Nd}(hr:t.ns[0]?=G5 r):TW t=decide (r.o=0):=by
 by_cases h0:r.o=0
 .rw[decide_eq_true h0,RV,XV];refine⟨hz,ho,hs,fun n hn=>?_,fun r' h=>by rw[hr]at h;cases h;exact h0⟩;obtain⟨i,hi,rfl⟩:=List.getElem_of_mem hn;exact h i hi _ (AL hi)
 .rw[decide_eq_false h0,YR,XV];exact fun g=>h0 (g.2.2.2.2 r hr)
theorem A09(h:¬ (KL t.z=true/\AA1 t.ns/\pF t.ss)):TW t=false:=by
 rw[YR,XV];exact fun g=>h ⟨g.1,g.2.1,g.2.2.1⟩
theorem B08(hn:t.ns[k]?=G5 n)(h:¬BK2 t.z t.ns t.ss n):TW t=false:=by
 rw[YR,XV];exact fun g=>h (g.2.2.2.1 n (AZ hn))
theorem jQ(h:nJ w B k ns)(hb:Below w.heap.size w w'):nJ w' B k ns:=by
 obtain⟨D,⟨es,cl,h1,h2⟩,h3⟩:=h;exact⟨D,⟨es,cl,(hb.block _ (AB.1 h1).1).trans h1,h2⟩,h3⟩
theorem AL2(t:Tr)(vn vs:FW)(w:FV)(hn:IE w vn t.ns)(hs:IE w vs t.ss)(hw:WfT t)(hz:KL t.z=true)(ho:AA1 t.ns)(ha:pF t.ss):
  FX prog 121 #[.agg #[.int .i64 t.z,vn,vs]] w fun e w'=>e=.returned (.bool (TW t))/\Below w.heap.size w w':=by
 have hne:t.ns≠[]:=by obtain⟨r,rest,h,_⟩:=ho.root;rw[h];simp
 obtain⟨r0,hr0⟩:∃r0,t.ns[0]?=G5 r0:=by obtain⟨r,rest,h,_⟩:=ho.root;exact⟨r,by rw[h];rfl⟩
 have YES:=G7 (fun h=>BL0 hz ho ha h hr0);have NO:=G7 (fun n k h1 h2=>B08 (t:=t) (n:=n) (k:=k) h1 h2);have CZ:=fun W=>JH t.z W;rw[hz]at CZ;have CO:=G7 (fun W (h:Below w.heap.size w W)=>YX vn t.ns W (hn.next h));have CN:=G7 (fun W (h:Below w.heap.size w W)=>eG vs t.ss W (hs.next h) hw.ses);simp only[SE ho]at CO;simp only[SE ha]at CN;have CH:=G7 (fun p W (h:Below w.heap.size w W)=>BK7 vn t.ns p W (hn.next h) ho);have CSD:=G7 (fun n k W (h:Below w.heap.size w W)=>B07 t.z vn vs n k t.ss W (hs.next h) ha);have hl:=ho.few;have SL:=G7 hw.CI7;obtain⟨sa,sc,rfl⟩:=GL hs;obtain⟨b,off,cap,rfl,hb,hr,hle,hcm⟩:=N8 hn hne;have H:=G7 hr;have CC:=G7 (fun W (h:Below w.heap.size w W)=>A08 b off cap t.ns W hl (AX hb h.size) (hr.kept h hb));have HR0:=G7 hr0;have hpos:0<t.ns.length:=List.length_pos_iff.2 hne;clear hn hs hw hz ho ha hne hr hr0;generalize TW t=fin at YES NO⊢;go_enter func121,ntmps121;go_wp2_with fail;refine(CZ _).mono ?_;rintro e w0 ⟨rfl,rfl⟩;have B0:=G8 w (FU #[.int .i64 t.z,FT (G5 ⟨b,off,FZ⟩) t.ns.length cap,FT sa t.ss.length sc] 58);generalize hW0:w.alloc (FU #[.int .i64 t.z,FT (G5 ⟨b,off,FZ⟩) t.ns.length cap,FT sa t.ss.length sc] 58)=W0 at*;have b0:W0.cell? ⟨w.heap.size,0,FZ⟩=G5 (.int .i64 t.z):=by rw[<-hW0];simp
 have b1:W0.cell? ⟨w.heap.size,1,FZ⟩=G5 (FT (G5 ⟨b,off,FZ⟩) t.ns.length cap):=by rw[<-hW0];simp
 have b2:W0.cell? ⟨w.heap.size,2,FZ⟩=G5 (FT sa t.ss.length sc):=by rw[<-hW0];simp
 have hsz:w.heap.size<W0.heap.size:=by rw[<-hW0];simp
 have BX:=G7 (fun W (h:Below W0.heap.size W0 W)=>(⟨(h.cell (p:=⟨w.heap.size,0,FZ⟩) hsz).trans b0,(h.cell (p:=⟨w.heap.size,1,FZ⟩) hsz).trans b1,(h.cell (p:=⟨w.heap.size,2,FZ⟩) hsz).trans b2⟩:W.cell? ⟨w.heap.size,0,FZ⟩=G5 (.int .i64 t.z)/\W.cell? ⟨w.heap.size,1,FZ⟩=G5 (FT (G5 ⟨b,off,FZ⟩) t.ns.length cap)/\W.cell? ⟨w.heap.size,2,FZ⟩=G5 (FT sa t.ss.length sc)));clear hW0;go_wp2_with fail;refine(G6 CO _ B0).mono ?_;rintro e w1 ⟨rfl,hb1⟩;obtain⟨c0,c1,c2⟩:=G6 BX w1 hb1;clear b0 b1 b2;go_wp2_with fail;refine(G6 CN _ (G9 B0 hb1)).mono ?_;rintro e w2 ⟨rfl,rfl⟩;go_wp2_with fail;refine(G6 CC _ (G9 B0 hb1)).mono ?_;rintro e w3 ⟨rfl,hC3,hb3⟩;have hb3':=G9 hb1 hb3;obtain⟨d0,d1,d2⟩:=G6 BX w3 hb3';have HC:=G7 hC3;clear c0 c1 c2 CO CN CC CZ hC3;go_wp2_with fail
 go_loopg [28] t.ns.length (fun kx i wr=>∃k:Nat,i=.int .i64 k/\k<=t.ns.length/\t.ns.length-k<=kx/\Hid (Below W0.heap.size W0 wr)/\Hid (nJ wr w2.heap.size 400 t.ns)/\Hid (OkG t k))
 case atStart=>exact⟨0,rfl,AY _,A8 _,G7 hb3',HC,G7 (fun i hi=>absurd hi (Nat.not_lt_zero _))⟩
 case round=>
  obtain⟨k,rfl,hk,hg,hB,hC,hO⟩:=hrel;obtain⟨x0,x1,x2⟩:=G6 BX wr (G6 hB);clear d0 d1 d2;by_cases hlt:k<t.ns.length
  .obtain⟨x,hx⟩:∃x,t.ns[k]?=G5 x:=⟨_,AL hlt⟩;have hBw:Below w.heap.size w wr:=G9 B0 (G6 hB);have q:=(G6 H).kept hBw hb;have d0:=q.n0 hx;have d1:=q.n1 hx;have d2:=q.n2 hx;have d3:=q.n3 hx;have d4:=q.n4 hx;have d5:=q.n5 hx;have d6:=q.n6 hx;have d7:=q.n7 hx;have d8:=q.n8 hx;have hbw:b<wr.heap.size:=AX hb hBw.size;have hww:w.heap.size<wr.heap.size:=AX hsz (G6 hB).size;have sl:=G6 SL x (AZ hx);have sld:=sl.2;have HX:=G7 hx;have SLP:=G7 sl.1;clear q hx sl;by_cases hd:x.d.length<=256
   .have HD:=G7 hd
    cases hh:pd (BK1 t.ns x.p)with
    |false=>
     have G:=G7 (G6 NO x k (G6 HX) (fun p=>by have:=SE p.held;rw[hh]at this;cases this));go_wp2_with fail;refine(G6 CH x.p _ (G9 hBw (G8 _ _))).mono ?_;rintro e w4 ⟨rfl,hb4⟩;have hB4:=G9 hBw (GY hb4);rw[hh];clear hb4 d0 d1 d2 d3 d4 d5 d6 d7 d8 x0 x1 x2;go_wp2_with fail;go_ret;exact⟨JE (G6 G).symm,hB4⟩
    |true=>
     have HH:=G7 hh;go_wp2_with fail;refine(G6 CH x.p _ (G9 hBw (G8 _ _))).mono ?_;rintro e w4 ⟨rfl,hb4⟩;have hB4:=G9 hBw (GY hb4);have hB40:=G9 (G6 hB) (GY hb4);rw[hh];clear hh;have r:=fun(j:Nat) (hj:j<9)=>hb4.cell (p:=⟨wr.heap.size,j,FZ⟩) (by simp);have y0:w4.cell? ⟨wr.heap.size,0,FZ⟩=G5 (.string ⟨x.p.toArray⟩):=by rw[r 0 (by omega)];simp
     have y2:w4.cell? ⟨wr.heap.size,2,FZ⟩=G5 (.int .i64 x.c):=by rw[r 2 (by omega)];simp
     have y3:w4.cell? ⟨wr.heap.size,3,FZ⟩=G5 (.int .i64 x.m):=by rw[r 3 (by omega)];simp
     have y4:w4.cell? ⟨wr.heap.size,4,FZ⟩=G5 (.int .i64 x.q):=by rw[r 4 (by omega)];simp
     have y5:w4.cell? ⟨wr.heap.size,5,FZ⟩=G5 (.int .i64 x.v):=by rw[r 5 (by omega)];simp
     have y6:w4.cell? ⟨wr.heap.size,6,FZ⟩=G5 (.int .i64 x.k):=by rw[r 6 (by omega)];simp
     have y7:w4.cell? ⟨wr.heap.size,7,FZ⟩=G5 (.int .i64 x.o):=by rw[r 7 (by omega)];simp
     have y8:w4.cell? ⟨wr.heap.size,8,FZ⟩=G5 (.int .i64 x.n):=by rw[r 8 (by omega)];simp
     obtain⟨z0,z1,z2⟩:=G6 BX w4 hB40;have hC4:=jQ (G6 hC) (GY hb4);have HC4:=G7 hC4;obtain⟨D,ho4,_,hD⟩:=hC4;have hkey:keyOf prog 9 (.string ⟨x.p.toArray⟩)=G5 (.string x.p):=by
      have:=keyOf_string_mk (P:=prog) underlying9 (s:=⟨x.p.toArray⟩) (by have:=G6 SLP;simp only[maxLen,ByteArray.size,List.size_toArray];omega);simpa using this
     obtain⟨c,hrun,hat,_⟩:=ho4.lookup_int CT7 underlying239 underlying3 (CI5 _) hkey;have hcc:c=(NV t.ns x.p:Int):=by
      rw[hD]at hat;simpa using hat.symm
     subst hcc;clear r hat hD ho4 hkey hb4 d0 d1 d2 d3 d4 d5 d6 d7 d8 x0 x1 x2;have CSX:=G6 CSD x (NV t.ns x.p) w4 hB4;unfold C11 at CSX
     cases hs:pd (dZ t.z x (NV t.ns x.p) t.ss)with
     |false=>
      have G:=G7 (G6 NO x k (G6 HX) (fun p=>by have:=SE p.sound;rw[hs]at this;cases this));rw[hs]at CSX;clear hs;go_wp2_with fail;refine CSX.mono ?_;rintro e w5 ⟨rfl,hb5⟩;have hB5:=G9 hB4 hb5;clear CSX hrun z0 z1 z2 y0 y2 y3 y4 y5 y6 y7 y8;go_wp2_with fail;go_ret;exact⟨JE (G6 G).symm,hB5⟩
     |true=>
      have O2:=G7 (BK9 (G6 hO) (G6 HX) ⟨G6 HD,BW0.1 (G6 HH),BW0.1 hs⟩);rw[hs]at CSX;clear hs;go_wp2_with fail;refine CSX.mono ?_;rintro e w5 ⟨rfl,hb5⟩;have HB5:=G7 (G9 hB40 hb5);have HC5:=G7 (jQ (G6 HC4) hb5);clear CSX hrun z0 z1 z2 y0 y2 y3 y4 y5 y6 y7 y8 hb5;go_wp2_with fail
      go_roundg (t.ns.length-(k+1))
      case measure=>omega
      case rel=>exact⟨k+1,rfl,by omega,A8 _,HB5,HC5,O2⟩
   .have G:=G7 (G6 NO x k (G6 HX) (fun p=>hd p.data));go_wp2_with fail;go_ret;exact⟨JE (G6 G).symm,G9 hBw (G8 _ _)⟩
  .obtain rfl:k=t.ns.length:=by omega
   have hBw:Below w.heap.size w wr:=G9 B0 (G6 hB);have d7:=((G6 H).kept hBw hb).n7 (G6 HR0);have G:=G7 (G6 YES (G6 hO));simp only[Nat.zero_mul,Nat.add_zero]at d7;go_wp2_with fail;go_ret;exact⟨JE ((G6 G).trans (by rfl)).symm,hBw⟩
theorem aJ(t:Tr)(vn vs:FW)(w:FV)(hn:IE w vn t.ns)(hs:IE w vs t.ss)(hw:WfT t):
  FX prog 121 #[.agg #[I0 t.z,vn,vs]] w (R0 w (.bool (TW t))):=by
 by_cases hz:KL t.z=true
 .by_cases ho:AA1 t.ns
  .by_cases ha:pF t.ss
   .exact AL2 t vn vs w hn hs hw hz ho ha
   .have F:=G7 (A09 (t:=t) (fun h=>ha h.2.2)).symm;have CZ:=fun W=>JH t.z W;rw[hz]at CZ;have CO:=G7 (fun W (h:B0 w W)=>YX vn t.ns W (hn.next h));have CN:=G7 (fun W (h:B0 w W)=>eG vs t.ss W (hs.next h) hw.ses);simp only[SE ho]at CO;simp only[RJ ha]at CN;obtain⟨na,nc,rfl⟩:=GL hn;obtain⟨sa,sc,rfl⟩:=GL hs;clear hn hs hw hz ho ha;go_enter func121,ntmps121;go_wp2_with fail;refine(CZ _).mono ?_;rintro e w0 ⟨rfl,rfl⟩;go_wp2_with fail;refine(G6 CO _ (G8 _ _)).mono ?_;rintro e w1 ⟨rfl,hb1⟩;have c2:w1.cell? ⟨w.heap.size,2,FZ⟩=G5 (FT sa t.ss.length sc):=by rw[hb1.cell (p:=⟨w.heap.size,2,FZ⟩) (by simp)];simp
    have HB:=G7 (GY hb1);clear hb1;go_wp2_with fail;refine(G6 CN _ (G6 HB)).mono ?_;rintro e w2 ⟨rfl,rfl⟩;go_wp2_with fail;go_ret;exact⟨JE (G6 F),G6 HB⟩
  .have F:=G7 (A09 (t:=t) (fun h=>ho h.2.1)).symm;have CZ:=fun W=>JH t.z W;rw[hz]at CZ;have CO:=G7 (fun W (h:B0 w W)=>YX vn t.ns W (hn.next h));simp only[RJ ho]at CO;obtain⟨na,nc,rfl⟩:=GL hn;obtain⟨sa,sc,rfl⟩:=GL hs;clear hn hs hw hz ho;go_enter func121,ntmps121;go_wp2_with fail;refine(CZ _).mono ?_;rintro e w0 ⟨rfl,rfl⟩;go_wp2_with fail;refine(G6 CO _ (G8 _ _)).mono ?_;rintro e w1 ⟨rfl,hb1⟩;have HB:=G7 (GY hb1);clear hb1;go_wp2_with fail;go_ret;exact⟨JE (G6 F),G6 HB⟩
 .have F:=G7 (A09 (t:=t) (fun h=>hz h.1)).symm;have hz':KL t.z=false:=by simpa using hz
  have CZ:=fun W=>JH t.z W;rw[hz']at CZ;obtain⟨na,nc,rfl⟩:=GL hn;obtain⟨sa,sc,rfl⟩:=GL hs;clear hn hs hw hz hz';go_enter func121,ntmps121;go_wp2_with fail;refine(CZ _).mono ?_;rintro e w0 ⟨rfl,rfl⟩;go_wp2_with fail;go_ret;exact⟨JE (G6 F),G8 _ _⟩
theorem B09(h:TW t=false):VO t x=3:=by rw[VO,if_pos h]
theorem C39(h:TW t=true)(h1:gdE x≠0):VO t x=gdE x:=by rw[VO,if_neg (by simp[h]),if_pos h1]
theorem BL1(h:TW t=true)(h1:gdE x=0):VO t x=(if x.z<=t.z then 13 else if x.o=1/\x.s∈t.ss then 8 else if x.o≠1/\x.s∉t.ss then 12 else 0):=by
 rw[VO,if_neg (by simp[h]),if_neg (by omega)]
theorem A10(t:Tr)(vn vs:FW)(x:GK)(w:FV)(hn:IE w vn t.ns)(hs:IE w vs t.ss)(hw:WfT t)(hg:TW t=false):
  FX prog 167 #[.agg #[I0 t.z,vn,vs],J7 x] w (R0 w (I0 3)):=by
 have CG:=G7 (fun W (hW:B0 w W)=>aJ t vn vs W (hn.next hW) (hs.next hW) hw);rw[hg]at CG;obtain⟨na,nc,rfl⟩:=GL hn;obtain⟨sa,sc,rfl⟩:=GL hs;clear hn hs hw hg;obtain⟨xz,xo,xs,xp,xd,xv,xw⟩:=x;unfold J7;go_enter func167,ntmps167;go_wp2_with fail;refine(G6 CG _ (G9 (G8 _ _) (G8 _ _))).mono ?_;rintro e w1 ⟨rfl,hb1⟩;have HB:=G7 (G9 (G9 (G8 _ _) (G8 _ _)) hb1);clear hb1;go_wp2_with fail;go_ret;exact⟨rfl,G6 HB⟩
theorem B12(t:Tr)(vn vs:FW)(x:GK)(w:FV)(hn:IE w vn t.ns)(hs:IE w vs t.ss)(hw:WfT t)(hd:x.d.length<=140737488355328)(hg:TW t=true)(hx:gdE x≠0):
  FX prog 167 #[.agg #[I0 t.z,vn,vs],J7 x] w (R0 w (I0 (gdE x))):=by
 have CG:=G7 (fun W (hW:B0 w W)=>aJ t vn vs W (hn.next hW) (hs.next hW) hw);rw[hg]at CG;have CW:=G7 (fun W=>WO x W hd);obtain⟨na,nc,rfl⟩:=GL hn;obtain⟨sa,sc,rfl⟩:=GL hs;have hxb:(gdE x !=0)=true:=by simpa using hx
 clear hn hs hw hg hx;have KX:∀W:FV,Below (w.alloc (FU #[I0 t.z,FT na t.ns.length nc,FT sa t.ss.length sc] 58)).heap.size (w.alloc (FU #[I0 t.z,FT na t.ns.length nc,FT sa t.ss.length sc] 58)) W->B0 w W:=fun W h=>GY h;have HKX:=G7 KX;generalize gdE x=E at hxb CW⊢;obtain⟨xz,xo,xs,xp,xd,xv,xw⟩:=x;unfold J7 at CW⊢;simp only at CW⊢;have KT:∀w1,Below ((w.alloc (FU #[I0 t.z,FT na t.ns.length nc,FT sa t.ss.length sc] 58)).alloc (FU #[I0 xz,I0 xo,I0 xs,S0 xp,S0 xd,I0 xv,I0 xw] 65)).heap.size ((w.alloc (FU #[I0 t.z,FT na t.ns.length nc,FT sa t.ss.length sc] 58)).alloc (FU #[I0 xz,I0 xo,I0 xs,S0 xp,S0 xd,I0 xv,I0 xw] 65)) w1->TAt w1 (w.heap.size+1) ⟨xz,xo,xs,xp,xd,xv,xw⟩:=fun w1 h1=>by
  have:=(TAt.new (w.alloc (FU #[I0 t.z,FT na t.ns.length nc,FT sa t.ss.length sc] 58)) ⟨xz,xo,xs,xp,xd,xv,xw⟩).next h1;simpa using this
 have HKT:=G7 KT;clear KX KT;go_enter func167,ntmps167;go_wp2_with fail;refine(G6 CG _ (G9 (G8 _ _) (G8 _ _))).mono ?_;rintro e w1 ⟨rfl,hb1⟩;have HB:=G7 (G9 (G9 (G8 _ _) (G8 _ _)) hb1);have tx:=G6 HKT w1 hb1;have y0:=tx.c0;have y1:=tx.c1;have y2:=tx.c2;have y3:=tx.c3;have y4:=tx.c4;have y5:=tx.c5;have y6:=tx.c6;clear hb1 tx;go_wp2_with fail;refine(G6 CW _).mono ?_;rintro e w2 ⟨rfl,hb2⟩;have HB2:=G7 (G9 (G6 HB) hb2);clear hb2;go_wp2_with fail;go_ret;exact⟨rfl,G6 HB2⟩
theorem AL3(t:Tr)(vn vs:FW)(x:GK)(w:FV)(hn:IE w vn t.ns)(hs:IE w vs t.ss)(hw:WfT t)(hd:x.d.length<=140737488355328)(hg:TW t=true)(hx:gdE x=0):
  FX prog 167 #[.agg #[I0 t.z,vn,vs],J7 x] w (R0 w (I0 (VO t x))):=by
 have CG:=G7 (fun W (hW:B0 w W)=>aJ t vn vs W (hn.next hW) (hs.next hW) hw);have CO:=fun W (hW:B0 w W)=>aH t.z vn vs t.ss x.s W (hs.next hW) (RV.1 hg).ses;rw[hg]at CG;have CW:=G7 (fun W=>WO x W hd);rw[hx]at CW;rw[BL1 hg hx];generalize hr:(if x.z<=t.z then(13:Int)else if x.o=1/\x.s∈t.ss then 8 else if x.o≠1/\x.s∉t.ss then 12 else 0)=r;have q:(decide (x.z<=t.z)=true/\r=13)\/(decide (x.z<=t.z)=false/\(((x.o==1)=true/\(x.o !=1)=false/\((decide (x.s∈t.ss)=true/\r=8)\/(decide (x.s∈t.ss)=false/\r=0)))\/((x.o==1)=false/\(x.o !=1)=true/\((decide (x.s∈t.ss)=true/\r=0)\/(decide (x.s∈t.ss)=false/\r=12))))):=by
  subst hr;by_cases h1:x.z<=t.z<;>by_cases h2:x.o=1<;>by_cases h3:x.s∈t.ss<;>simp[h1,h2,h3]
 generalize decide (x.s∈t.ss)=op at CO q;clear hr;rcases q with⟨q1,rfl⟩|⟨q1,⟨q2,q3,⟨rfl,rfl⟩|⟨rfl,rfl⟩⟩|⟨q2,q3,⟨rfl,rfl⟩|⟨rfl,rfl⟩⟩⟩
 all_goals
  have HCO:=G7 CO;obtain⟨na,nc,rfl⟩:=GL hn;obtain⟨sa,sc,rfl⟩:=GL hs;clear hn hs hw hg hx CO;obtain⟨xz,xo,xs,xp,xd,xv,xw⟩:=x;unfold J7 at CW⊢;simp only at*;have KT:∀w1,Below ((w.alloc (FU #[I0 t.z,FT na t.ns.length nc,FT sa t.ss.length sc] 58)).alloc (FU #[I0 xz,I0 xo,I0 xs,S0 xp,S0 xd,I0 xv,I0 xw] 65)).heap.size ((w.alloc (FU #[I0 t.z,FT na t.ns.length nc,FT sa t.ss.length sc] 58)).alloc (FU #[I0 xz,I0 xo,I0 xs,S0 xp,S0 xd,I0 xv,I0 xw] 65)) w1->TAt w1 (w.heap.size+1) ⟨xz,xo,xs,xp,xd,xv,xw⟩/\w1.heap[w.heap.size]?=G5 (FU #[I0 t.z,FT na t.ns.length nc,FT sa t.ss.length sc] 58 (0,0)):=fun w1 h1=>by
   have:=(TAt.new (w.alloc (FU #[I0 t.z,FT na t.ns.length nc,FT sa t.ss.length sc] 58)) ⟨xz,xo,xs,xp,xd,xv,xw⟩).next h1;refine⟨by simpa using this,?_⟩;rw[h1.block _ (by simp;omega)];rw[(G8 (w.alloc (FU #[I0 t.z,FT na t.ns.length nc,FT sa t.ss.length sc] 58)) (FU #[I0 xz,I0 xo,I0 xs,S0 xp,S0 xd,I0 xv,I0 xw] 65)).block _ (by simp)];exact heap_alloc_new w _
  have HKT:=G7 KT;clear KT;go_enter func167,ntmps167;go_wp2_with fail;refine(G6 CG _ (G9 (G8 _ _) (G8 _ _))).mono ?_;rintro e w1 ⟨rfl,hb1⟩;have HB:=G7 (G9 (G9 (G8 _ _) (G8 _ _)) hb1);obtain⟨tx,tt⟩:=G6 HKT w1 hb1;have y0:=tx.c0;have y1:=tx.c1;have y2:=tx.c2;have y3:=tx.c3;have y4:=tx.c4;have y5:=tx.c5;have y6:=tx.c6;have HTX:=G7 tx;have HTT:=G7 tt;clear hb1 tx tt;go_wp2_with fail;refine(G6 CW _).mono ?_;rintro e w2 ⟨rfl,hb2⟩;have HB2:=G7 (G9 (G6 HB) hb2);have tx2:=(G6 HTX).next hb2;have tt2:=(hb2.block _ (AB.1 (G6 HTT)).1).trans (G6 HTT);have u0:=tx2.c0;have u1:=tx2.c1;have u2:=tx2.c2;have v0:w2.cell? ⟨w.heap.size,0,FZ⟩=G5 (I0 t.z):=by simp[AV,tt2]
  have v1:w2.cell? ⟨w.heap.size,1,FZ⟩=G5 (FT na t.ns.length nc):=by simp[AV,tt2]
  have v2:w2.cell? ⟨w.heap.size,2,FZ⟩=G5 (FT sa t.ss.length sc):=by simp[AV,tt2]
  have A05:=G7 tx2;have HTT2:=G7 tt2;clear hb2 y0 y1 y2 y3 y4 y5 y6 tx2 tt2;go_wp2_with fail;refine(G6 HCO _ (G6 HB2)).mono ?_;rintro e w3 ⟨rfl,hb3⟩;have HB3:=G7 (G9 (G6 HB2) hb3);have tx3:=(G6 A05).next hb3;have tt3:=(hb3.block _ (AB.1 (G6 HTT2)).1).trans (G6 HTT2);have z0:=tx3.c0;have z1:=tx3.c1;have r0:w3.cell? ⟨w.heap.size,0,FZ⟩=G5 (I0 t.z):=by simp[AV,tt3]
  clear hb3 u0 u1 u2 v0 v1 v2 tx3 tt3;go_wp2_with fail;go_ret;exact⟨rfl,G6 HB3⟩
theorem vO(t:Tr)(vn vs:FW)(x:GK)(w:FV)(hn:IE w vn t.ns)(hs:IE w vs t.ss)(hw:WfT t)(hd:x.d.length<=140737488355328):
  FX prog 167 #[.agg #[I0 t.z,vn,vs],J7 x] w (R0 w (I0 (VO t x))):=by
 cases hg:TW t with
 |false=>rw[B09 hg];exact A10 t vn vs x w hn hs hw hg
 |true=>
  by_cases hx:gdE x=0
  .exact AL3 t vn vs x w hn hs hw hd hg hx
  .rw[C39 hg hx];exact B12 t vn vs x w hn hs hw hd hg hx
theorem H7.raise{α:Type}[Lay α]{v:FW}{xs:List α}(h:H7 W 0 v xs)(hb:∀k,v.ownBlock=G5 k->B<=k):H7 W B v xs:=by
 rcases h with h|⟨g,cap,rfl,_,h⟩
 .exact .inl h
 .exact .inr ⟨g,cap,rfl,hb g rfl,h⟩
def aK(w:FV)(t:Tr)(x:GK)(e:Ending)(w':FV):Prop:=
 ∃vn vs ve,e=.returned (.tuple #[.agg #[I0 (iR t x).z,vn,vs],ve,I0 (Y7 t x)])/\H7 w' w.heap.size vn (iR t x).ns/\H7 w' w.heap.size vs (iR t x).ss/\H7 w' w.heap.size ve (YD t x)/\B0 w w'
theorem AA3(hE:Y7 t x=E)(h0:E≠0)(he:e=.returned (.tuple #[.agg #[I0 0,N0,N0],N0,I0 E]))(hb:B0 w w'):aK w t x e w':=by
 have h1:iR t x=tr0:=by rw[iR,if_neg (by omega)]
 have h2:YD t x=[]:=by rw[YD,if_neg (by omega)]
 refine⟨N0,N0,N0,?_,?_,?_,?_,hb⟩
 .rw[hE,h1];exact he
 .rw[h1];exact .inl ⟨rfl,rfl⟩
 .rw[h1];exact .inl ⟨rfl,rfl⟩
 .rw[h2];exact .inl ⟨rfl,rfl⟩
structure yG(W:FV)(q:Nat)(z:Int)(vn vs:FW)(x:GK):Prop where
 t:W.heap[q]?=G5 (FU #[I0 z,vn,vs] 58 (0,0))
 x:TAt W (q+1) x
 r:W.heap[q+2]?=G5 (FU #[I0 0,N0,N0] 58 (0,0))
theorem yG.new(w:FV)(z:Int)(vn vs:FW)(x:GK):yG (((w.alloc (FU #[I0 z,vn,vs] 58)).alloc (FU #[I0 x.z,I0 x.o,I0 x.s,S0 x.p,S0 x.d,I0 x.v,I0 x.w] 65)).alloc (FU #[I0 0,N0,N0] 58)) w.heap.size z vn vs x:=by
 refine⟨?_,?_,?_⟩
 .rw[(G8 _ _).block _ (by simp;omega),(G8 _ _).block _ (by simp)];exact heap_alloc_new w _
 .have h:=(TAt.new (w.alloc (FU #[I0 z,vn,vs] 58)) x).next (G8 _ (FU #[I0 0,N0,N0] 58));simpa using h
 .have h:=heap_alloc_new ((w.alloc (FU #[I0 z,vn,vs] 58)).alloc (FU #[I0 x.z,I0 x.o,I0 x.s,S0 x.p,S0 x.d,I0 x.v,I0 x.w] 65)) (FU #[I0 0,N0,N0] 58);rw[show ((w.alloc (FU #[I0 z,vn,vs] 58)).alloc (FU #[I0 x.z,I0 x.o,I0 x.s,S0 x.p,S0 x.d,I0 x.v,I0 x.w] 65)).heap.size=w.heap.size+2 by simp]at h;exact h
theorem yG.lt(h:yG W q z vn vs x):q+2<W.heap.size:=(AB.1 h.r).1
theorem yG.touch(h:yG W q z vn vs x)(ht:Touch F W V)(hf:∀k,F k->q+3<=k):yG V q z vn vs x:=by
 have:=h.lt;have n0:∀k,k<q+3->¬F k:=fun k hk hF=>by have:=hf k hF;omega
 exact⟨(ht.block _ (by omega) (n0 _ (by omega))).trans h.t,(ht.block _ (by omega) (n0 _ (by omega))).trans h.x,(ht.block _ (by omega) (n0 _ (by omega))).trans h.r⟩
theorem yG.next(h:yG W q z vn vs x)(hb:B0 W V):yG V q z vn vs x:=h.touch (F:=fun _=>False) (Touch.of_below hb) (fun _ hF=>hF.elim)
theorem yG.cells(h:yG W q z vn vs x):W.cell? ⟨q,0,FZ⟩=G5 (I0 z)/\W.cell? ⟨q,1,FZ⟩=G5 vn/\W.cell? ⟨q,2,FZ⟩=G5 vs/\W.cell? ⟨q+2,0,FZ⟩=G5 (I0 0)/\W.cell? ⟨q+2,1,FZ⟩=G5 (N0)/\W.cell? ⟨q+2,2,FZ⟩=G5 (N0)/\W.frozen? ⟨q+2,0,FZ⟩=false/\W.frozen? ⟨q+2,1,FZ⟩=false/\W.frozen? ⟨q+2,2,FZ⟩=false:=by
 have h1:=h.t;have h2:=h.r;refine⟨?_,?_,?_,?_,?_,?_,?_,?_,?_⟩<;>simp[AV,World.frozen?,h1,h2]
theorem B13(t:Tr)(vn vs:FW)(x:GK)(w:FV)(hn:IE w vn t.ns)(hs:IE w vs t.ss)(hw:WfT t)(hd:x.d.length<=140737488355328)(ha:VO t x≠0):
  FX prog 123 #[.agg #[I0 t.z,vn,vs],J7 x] w (aK w t x):=by
 have CA:=G7 (fun W (hW:B0 w W)=>vO t vn vs x W (hn.next hW) (hs.next hW) hw hd);have FIN:=G7 (fun w' e h hb=>AA3 (w:=w) (w':=w') (e:=e) (BK0 ha) ha h hb);have hab:(VO t x !=0)=true:=by simpa using ha
 obtain⟨na,nc,rfl⟩:=GL hn;obtain⟨sa,sc,rfl⟩:=GL hs;clear hn hs hw ha;generalize VO t x=E at hab CA FIN;generalize hQ:aK w t x=Q at FIN⊢;clear hQ;obtain⟨xz,xo,xs,xp,xd,xv,xw⟩:=x;unfold J7 at*;simp only at*;have KB:∀W,Below (((w.alloc (FU #[I0 t.z,FT na t.ns.length nc,FT sa t.ss.length sc] 58)).alloc (FU #[I0 xz,I0 xo,I0 xs,S0 xp,S0 xd,I0 xv,I0 xw] 65)).alloc (FU #[I0 0,N0,N0] 58)).heap.size (((w.alloc (FU #[I0 t.z,FT na t.ns.length nc,FT sa t.ss.length sc] 58)).alloc (FU #[I0 xz,I0 xo,I0 xs,S0 xp,S0 xd,I0 xv,I0 xw] 65)).alloc (FU #[I0 0,N0,N0] 58)) W->yG W w.heap.size t.z (FT na t.ns.length nc) (FT sa t.ss.length sc) ⟨xz,xo,xs,xp,xd,xv,xw⟩/\B0 w W:=fun W h=>⟨(yG.new w _ _ _ ⟨xz,xo,xs,xp,xd,xv,xw⟩).next h,GY (GY (GY h))⟩;have HKB:=G7 KB;clear KB;go_enter func123,ntmps123;go_wp2_with fail;refine(G6 CA _ (G9 (G9 (G8 _ _) (G8 _ _)) (G8 _ _))).mono ?_;rintro e w1 ⟨rfl,hb1⟩;obtain⟨b1,B1⟩:=G6 HKB w1 hb1;obtain⟨k0,k1,k2,k3,k4,k5,k6,k7,k8⟩:=b1.cells;have j0:=b1.x.c0;have j1:=b1.x.c1;have j2:=b1.x.c2;have j3:=b1.x.c3;have j4:=b1.x.c4;have j5:=b1.x.c5;have j6:=b1.x.c6;have HB1:=G7 B1;have HX1:=G7 b1;clear hb1 b1 B1;go_wp2_with fail;exact bodyPost_ret (v:=.tuple #[.agg #[I0 0,N0,N0],N0,I0 E]) (by simp[results,results123,go_sem,k3,k4,k5]) rfl (G6 FIN _ _ rfl ((((G6 HB1).setCell (by show w.heap.size<=w.heap.size+1+1;omega) _).setCell (by show w.heap.size<=w.heap.size+1+1;omega) _).setCell (by show w.heap.size<=w.heap.size+1+1;omega) _))
theorem B14{ve:FW}{v0 v1 v2:FW}(ha:Y7 t x=0)(hg:Grow W (fun k=>B<=k) b x.z vn vs ve (fF t x) (pG t x) (pI t x))(hq:w.heap.size+3<=B)(hb:B0 w W):
  aK w t x (.returned (.tuple #[.agg #[I0 x.z,vn,vs],ve,I0 0])) (((W.setCell ⟨w.heap.size+2,0,FZ⟩ v0).setCell ⟨w.heap.size+2,1,FZ⟩ v1).setCell ⟨w.heap.size+2,2,FZ⟩ v2).drew:=by
 have h1:iR t x=⟨x.z,fF t x,pG t x⟩:=by rw[iR,if_pos ha]
 have h2:YD t x=pI t x:=by rw[YD,if_pos ha]
 have nn:∀k,vn.ownBlock=G5 k->w.heap.size+3<=k:=fun k hk=>BN hq (hg.fn k hk).1;have ns:∀k,vs.ownBlock=G5 k->w.heap.size+3<=k:=fun k hk=>BN hq (hg.fs k hk).1;have ne:∀k,ve.ownBlock=G5 k->w.heap.size+3<=k:=fun k hk=>BN hq (hg.fe k hk).1;have no:∀ {v:FW},(∀k,v.ownBlock=G5 k->w.heap.size+3<=k)->v.ownBlock≠G5 (w.heap.size+2):=fun h e=>by have:=h _ e;omega
 refine⟨vn,vs,ve,by rw[h1,ha],?_,?_,?_,?_⟩
 .rw[h1];exact(((hg.n.raise (fun k hk=>by have:=nn k hk;omega)).other (no nn) _).other (no nn) _).other (no nn) _|>.next (AA _ _).drew
 .rw[h1];exact(((hg.s.raise (fun k hk=>by have:=ns k hk;omega)).other (no ns) _).other (no ns) _).other (no ns) _|>.next (AA _ _).drew
 .rw[h2];exact(((hg.e.raise (fun k hk=>by have:=ne k hk;omega)).other (no ne) _).other (no ne) _).other (no ne) _|>.next (AA _ _).drew
 .exact(((hb.setCell (by simp) _).setCell (by simp) _).setCell (by simp) _).drew
theorem B15(t:Tr)(vn vs:FW)(x:GK)(w:FV)(hn:IE w vn t.ns)(hs:IE w vs t.ss)(hw:WfT t)(hd:x.d.length<=140737488355328)(ha:VO t x=0):
  FX prog 123 #[.agg #[I0 t.z,vn,vs],J7 x] w (aK w t x):=by
 have CA:=G7 (fun W (hW:B0 w W)=>vO t vn vs x W (hn.next hW) (hs.next hW) hw hd);rw[ha]at CA;obtain⟨g,_⟩:=PZ ha;have few:=g.nod.few;have sl:=UO g.ses;have CB:=G7 (fun W (hW:B0 w W)=>AZ6 t vn vs x.z W (hn.next hW) (hs.next hW) few sl hw.CI7);have CC:=G7 (fun(F:Nat->Prop) b vn' vs' W (hG:Grow W F b x.z vn' vs' (N0) t.ns t.ss []) hF=>AL0 F b t vn' vs' x W hG hF ha);have hap:=AA0 ha;have FNO:=G7 (fun w' e (h0:nI t x≠0) h hb=>AA3 (w:=w) (w':=w') (e:=e) hap h0 h hb);have FYE:=G7 (fun(W:FV) (B b:Nat) (vn vs ve v0 v1 v2:FW) (h0:nI t x=0) hg hq hb=>B14 (w:=w) (W:=W) (t:=t) (x:=x) (B:=B) (b:=b) (vn:=vn) (vs:=vs) (ve:=ve) (v0:=v0) (v1:=v1) (v2:=v2) (hap.trans h0) hg hq hb);obtain⟨na,nc,rfl⟩:=GL hn;obtain⟨sa,sc,rfl⟩:=GL hs;clear hn hs hw ha hap g few sl;generalize hQ:aK w t x=Q at FNO FYE⊢;clear hQ;obtain⟨E,hE⟩:∃E,nI t x=E:=⟨_,rfl⟩;unfold Chg at CC;rw[hE]at CC FNO FYE;clear hE;obtain⟨xz,xo,xs,xp,xd,xv,xw⟩:=x;unfold J7 at*;simp only at*;have KB:∀W,Below (((w.alloc (FU #[I0 t.z,FT na t.ns.length nc,FT sa t.ss.length sc] 58)).alloc (FU #[I0 xz,I0 xo,I0 xs,S0 xp,S0 xd,I0 xv,I0 xw] 65)).alloc (FU #[I0 0,N0,N0] 58)).heap.size (((w.alloc (FU #[I0 t.z,FT na t.ns.length nc,FT sa t.ss.length sc] 58)).alloc (FU #[I0 xz,I0 xo,I0 xs,S0 xp,S0 xd,I0 xv,I0 xw] 65)).alloc (FU #[I0 0,N0,N0] 58)) W->yG W w.heap.size t.z (FT na t.ns.length nc) (FT sa t.ss.length sc) ⟨xz,xo,xs,xp,xd,xv,xw⟩/\B0 w W:=fun W h=>⟨(yG.new w _ _ _ ⟨xz,xo,xs,xp,xd,xv,xw⟩).next h,GY (GY (GY h))⟩;have HKB:=G7 KB;clear KB;go_enter func123,ntmps123;go_wp2_with fail;refine(G6 CA _ (G9 (G9 (G8 _ _) (G8 _ _)) (G8 _ _))).mono ?_;rintro e w1 ⟨rfl,hb1⟩;obtain⟨b1,B1⟩:=G6 HKB w1 hb1;obtain⟨k0,k1,k2,k3,k4,k5,k6,k7,k8⟩:=b1.cells;have j0:=b1.x.c0;have j1:=b1.x.c1;have j2:=b1.x.c2;have j3:=b1.x.c3;have j4:=b1.x.c4;have j5:=b1.x.c5;have j6:=b1.x.c6;have HB1:=G7 B1;have HX1:=G7 b1;clear hb1 b1 B1;go_wp2_with fail;refine(G6 CB _ (G6 HB1)).mono ?_;rintro e w2 ⟨b,vn2,vs2,rfl,g2,hb2⟩;have b2:=(G6 HX1).next hb2;obtain⟨m0,m1,m2,m3,m4,m5,m6,m7,m8⟩:=b2.cells;have i0:=b2.x.c0;have i1:=b2.x.c1;have i2:=b2.x.c2;have i3:=b2.x.c3;have i4:=b2.x.c4;have i5:=b2.x.c5;have i6:=b2.x.c6;have HB2:=G7 (G9 (G6 HB1) hb2);have HX2:=G7 b2;have HG2:=G7 g2;have hsz2:=hb2.size;clear hb2 g2 b2 k0 k1 k2 k3 k4 k5 k6 k7 k8 j0 j1 j2 j3 j4 j5 j6 CB CA;go_wp2_with fail;refine(G6 CC _ _ _ _ _ (G6 HG2) (fun k hk=>BN hsz2 hk)).mono ?_;rintro e w3 ⟨rfl,t3,g3⟩;have q1:=(G6 HX1).lt;have b3:=(G6 HX2).touch t3 (fun k hk=>by omega);obtain⟨n0,n1,n2,n3,n4,n5,n6,n7,n8⟩:=b3.cells;have B3:B0 w w3:=(G6 HB2).trans (t3.below (by omega) (fun k hk=>by omega));have HB3:=G7 B3;clear CC b3 B3 t3 m0 m1 m2 m3 m4 m5 m6 m7 m8 i0 i1 i2 i3 i4 i5 i6;by_cases h0:E=0
 .obtain⟨vn3,vs3,ve3,g3⟩:=g3 h0;have d0:=g3.c0;have d1:=g3.c1;have d2:=g3.c2;have d3:=g3.c3;obtain⟨na3,nc3,hn3,_⟩:=g3.n.slice;obtain⟨sa3,sc3,hs3,_⟩:=g3.s.slice;obtain⟨ea3,ec3,he3,_⟩:=g3.e.slice;have HG3:=G7 g3;have hbl:=g3.lt;have hbq:w1.heap.size<=b:=g3.fb;have hne:b≠w.heap.size+2:=by omega
  have FY:=G7 (fun(v0 v1 v2:FW)=>G6 FYE w3 w1.heap.size b vn3 vs3 ve3 v0 v1 v2 h0 (G6 HG3) (by omega) (G6 HB3));subst hn3 hs3 he3 h0;clear g3 FYE FNO HG3;go_wp2_with fail;go_region;go_wp2_with fail;exact bodyPost_ret (v:=.tuple #[.agg #[I0 xz,FT na3 (fF t ⟨xz,xo,xs,xp,xd,xv,xw⟩).length nc3,FT sa3 (pG t ⟨xz,xo,xs,xp,xd,xv,xw⟩).length sc3],FT ea3 (pI t ⟨xz,xo,xs,xp,xd,xv,xw⟩).length ec3,I0 0]) (by simp[results,results123,go_sem,n3,n4,n5]) rfl (G6 FY _ _ _)
 .have h0b:(E !=0)=true:=by simpa using h0
  have FN:=G7 (fun w' e h hb=>G6 FNO w' e h0 h hb);clear g3 FYE FNO h0;go_wp2_with fail;exact bodyPost_ret (v:=.tuple #[.agg #[I0 0,N0,N0],N0,I0 E]) (by simp[results,results123,go_sem,n3,n4,n5]) rfl (G6 FN _ _ rfl ((((G6 HB3).setCell (by show w.heap.size<=w.heap.size+1+1;omega) _).setCell (by show w.heap.size<=w.heap.size+1+1;omega) _).setCell (by show w.heap.size<=w.heap.size+1+1;omega) _))
theorem vP(t:Tr)(vn vs:FW)(x:GK)(w:FV)(hn:IE w vn t.ns)(hs:IE w vs t.ss)(hw:WfT t)(hd:x.d.length<=140737488355328):
  FX prog 123 #[.agg #[I0 t.z,vn,vs],J7 x] w (aK w t x):=by
 by_cases ha:VO t x=0
 .exact B15 t vn vs x w hn hs hw hd ha
 .exact B13 t vn vs x w hn hs hw hd ha
def B16(w:FV)(t:Tr)(e:Ending)(w':FV):Prop:=
 ∃vn vs,e=.returned (.agg #[I0 t.z,vn,vs])/\H7 w' w.heap.size vn t.ns/\H7 w' w.heap.size vs t.ss/\B0 w w'
theorem BL2(w:FV):H7 (w.alloc (FU #[.string ⟨#[47]⟩,.string ⟨#[]⟩,I0 0,I0 0,I0 0,I0 0,I0 0,I0 0,I0 0] 67)) w.heap.size (FT (G5 ⟨w.heap.size,0,FZ⟩) 1 1) [tC]:=
 .inr ⟨w.heap.size,1,rfl,A8 _,[],by rw[heap_alloc_new];rfl,by decide,by decide,by decide⟩
theorem AA4(w:FV):FX prog 36 #[] w (B16 w QI):=by
 have H:Hid (B16 w QI (.returned (.agg #[I0 0,FT (G5 ⟨w.heap.size+1,0,FZ⟩) 1 1,N0])) ((w.alloc (FU #[I0 0,FT (G5 ⟨w.heap.size+1,0,FZ⟩) 1 1,N0] 58)).alloc (FU #[.string ⟨#[47]⟩,.string ⟨#[]⟩,I0 0,I0 0,I0 0,I0 0,I0 0,I0 0,I0 0] 67))):=by
  have h:=BL2 (w.alloc (FU #[I0 0,FT (G5 ⟨w.heap.size+1,0,FZ⟩) 1 1,N0] 58));rw[show (w.alloc (FU #[I0 0,FT (G5 ⟨w.heap.size+1,0,FZ⟩) 1 1,N0] 58)).heap.size=w.heap.size+1 by simp]at h;exact⟨_,_,rfl,h.lower (by omega),.inl ⟨rfl,rfl⟩,G9 (G8 _ _) (G8 _ _)⟩
 go_enter func36,ntmps36;go_wp2_with fail;exact bodyPost_ret (v:=.agg #[I0 0,FT (G5 ⟨w.heap.size+1,0,FZ⟩) 1 1,N0]) (by simp[results,results36,go_sem]) rfl (G6 H)
structure GB(w W:FV)(z:Int)(vn vs:FW):Prop where
 t:W.heap[w.heap.size]?=G5 (FU #[I0 z,vn,vs] 58 (0,0))
 r:W.heap[w.heap.size+1]?=G5 (FU #[.string ⟨#[]⟩,.string ⟨#[]⟩,I0 0,I0 0,I0 0,I0 0,I0 0,I0 0,I0 0] 67 (0,0))
 b:B0 w W
theorem GB.new(w:FV)(z:Int)(vn vs:FW):GB w ((w.alloc (FU #[I0 z,vn,vs] 58)).alloc (FU #[.string ⟨#[]⟩,.string ⟨#[]⟩,I0 0,I0 0,I0 0,I0 0,I0 0,I0 0,I0 0] 67)) z vn vs:=by
 refine⟨?_,?_,G9 (G8 _ _) (G8 _ _)⟩
 .rw[(G8 _ _).block _ (by simp)];exact heap_alloc_new w _
 .have h:=heap_alloc_new (w.alloc (FU #[I0 z,vn,vs] 58)) (FU #[.string ⟨#[]⟩,.string ⟨#[]⟩,I0 0,I0 0,I0 0,I0 0,I0 0,I0 0,I0 0] 67);rw[show (w.alloc (FU #[I0 z,vn,vs] 58)).heap.size=w.heap.size+1 by simp]at h;exact h
theorem GB.lt(h:GB w W z vn vs):w.heap.size+1<W.heap.size:=(AB.1 h.r).1
theorem GB.next(h:GB w W z vn vs)(hb:B0 W V):GB w V z vn vs:=by
 have:=h.lt;exact⟨(hb.block _ (by omega)).trans h.t,(hb.block _ (by omega)).trans h.r,G9 h.b hb⟩
theorem GB.c1(h:GB w W z vn vs):W.cell? ⟨w.heap.size,1,FZ⟩=G5 vn:=by simp[AV,h.t]
theorem GB.one(h:GB w W z vn vs):JM W (w.heap.size+1) VK:=h.r
theorem BL3(z:Int)(vn vs:FW)(ns A B:List Nd)(p:List UInt8)(w:FV)(hn:IE w vn ns)(hl:ns.length<=100000)(G:mF ns A B p):
  FX prog 55 #[.agg #[I0 z,vn,vs],S0 p] w (R0 w (.tuple #[TM VK,I0 7])):=by
 have CF:=G7 (fun W (hW:B0 w W)=>NG vn ns A B p W (hn.next hW) hl G);have B0:=G7 (GB.new w z vn vs);obtain⟨na,nc,rfl⟩:=GL hn;clear hn G;go_enter func55,ntmps55;go_wp2_with fail;refine(G6 CF _ (G6 B0).b).mono ?_;rintro e w1 ⟨rfl,hb1⟩;have b1:=(G6 B0).next hb1;have o1:=b1.one;have c0:=o1.JI 0 _ rfl;have c1:=o1.JI 1 _ rfl;have c2:=o1.JI 2 _ rfl;have c3:=o1.JI 3 _ rfl;have c4:=o1.JI 4 _ rfl;have c5:=o1.JI 5 _ rfl;have c6:=o1.JI 6 _ rfl;have c7:=o1.JI 7 _ rfl;have c8:=o1.JI 8 _ rfl;have f0:=o1.J6 0;have f1:=o1.J6 1;have f2:=o1.J6 2;have f3:=o1.J6 3;have f4:=o1.J6 4;have f5:=o1.J6 5;have f6:=o1.J6 6;have f7:=o1.J6 7;have f8:=o1.J6 8;have BB:=b1.b;have HBB:=G7 BB;clear CF B0 hb1 b1 o1 BB;go_wp2_with fail;have BB:=G6 HBB;exact bodyPost_ret (v:=.tuple #[TM VK,I0 7]) (by simp[results,results55,go_sem,TM,VK,c0,c1,c2,c3,c4,c5,c6,c7,c8]) rfl
  ⟨rfl,((((((((BB.setCell (by simp) _).setCell (by simp) _).setCell (by simp) _).setCell (by simp) _).setCell (by simp) _).setCell (by simp) _).setCell (by simp) _).setCell (by simp) _).setCell (by simp) _⟩
theorem AL4(z:Int)(vn vs:FW)(ns A B:List Nd)(n:Nd)(p:List UInt8)(w:FV)(hn:IE w vn ns)(hl:ns.length<=100000)(T:KG ns A n B p)(hp:n.p.length<=140737488355328)(hd:n.d.length<=140737488355328):
  FX prog 55 #[.agg #[I0 z,vn,vs],S0 p] w (R0 w (.tuple #[TM n,I0 0])):=by
 have CF:=G7 (fun W (hW:B0 w W)=>JR vn ns A B n p W (hn.next hW) hl T);have CC:=G7 (fun W=>YV n W hp hd);unfold TM at CC;have hlt:A.length<ns.length:=by rw[T.eq];simp
 have hat:ns[A.length]?=G5 n:=by rw[T.eq];exact U5 A n B
 obtain⟨b,off,cap,rfl,hb,hr,_,_⟩:=N8 hn (by rw[T.eq];simp);have HR:=G7 (fun W (hW:B0 w W)=>hr.kept hW hb);have B0:=G7 (GB.new w z (FT (G5 ⟨b,off,FZ⟩) ns.length cap) vs);clear hn T hr;have HAT:=G7 hat;clear hat;go_enter func55,ntmps55;go_wp2_with fail;refine(G6 CF _ (G6 B0).b).mono ?_;rintro e w1 ⟨rfl,hb1⟩;have b1:=(G6 B0).next hb1;have HB1:=G7 b1;have e1:=b1.c1;have q:=G6 HR w1 b1.b;have d0:=q.n0 (G6 HAT);have d1:=q.n1 (G6 HAT);have d2:=q.n2 (G6 HAT);have d3:=q.n3 (G6 HAT);have d4:=q.n4 (G6 HAT);have d5:=q.n5 (G6 HAT);have d6:=q.n6 (G6 HAT);have d7:=q.n7 (G6 HAT);have d8:=q.n8 (G6 HAT);clear q CF b1 hb1;go_wp2_with fail;refine(G6 CC _).mono ?_;rintro e w2 ⟨rfl,hb2⟩;have b2:=(G6 HB1).next hb2;have o1:=b2.one;have c0:=o1.JI 0 _ rfl;have c1:=o1.JI 1 _ rfl;have c2:=o1.JI 2 _ rfl;have c3:=o1.JI 3 _ rfl;have c4:=o1.JI 4 _ rfl;have c5:=o1.JI 5 _ rfl;have c6:=o1.JI 6 _ rfl;have c7:=o1.JI 7 _ rfl;have c8:=o1.JI 8 _ rfl;have f0:=o1.J6 0;have f1:=o1.J6 1;have f2:=o1.J6 2;have f3:=o1.J6 3;have f4:=o1.J6 4;have f5:=o1.J6 5;have f6:=o1.J6 6;have f7:=o1.J6 7;have f8:=o1.J6 8;have HBB:=G7 b2.b;clear b2 hb2 o1 CC d0 d1 d2 d3 d4 d5 d6 d7 d8 e1;go_wp2_with fail;have BB:=G6 HBB;exact bodyPost_ret (v:=.tuple #[TM n,I0 0]) (by simp[results,results55,go_sem,TM,c0,c1,c2,c3,c4,c5,c6,c7,c8]) rfl
  ⟨rfl,((((((((BB.setCell (by simp) _).setCell (by simp) _).setCell (by simp) _).setCell (by simp) _).setCell (by simp) _).setCell (by simp) _).setCell (by simp) _).setCell (by simp) _).setCell (by simp) _⟩
theorem aO:QZ QI:=by
 refine⟨by decide,⟨List.Pairwise.nil,by simp[QI]⟩,⟨by decide,⟨tC,[],rfl,rfl,rfl⟩,List.pairwise_singleton _ _,?_⟩,?_⟩
 .intro n hn;obtain rfl:n=tC:=by simpa [QI]using hn
  refine⟨by decide,bY,fun h=>absurd rfl h,by decide,by decide,by decide,by decide,by decide,by decide,by decide,by decide,?_,.inl rfl⟩;show (0:Int)=NV [tC] [47];simp[NV,tC,TV]
 .intro n hn;obtain rfl:n=tC:=by simpa [QI]using hn
  decide
theorem QZ.wf(g:QZ t):WfT t:=by
 refine⟨fun s hs=>by have:=g.ses.2 s hs;omega,fun n hn=>?_⟩;have k:=g.nod.ok n hn;have:=MP k.path;have:=k.data;omega
theorem B17(t:Tr)(x:GK):(iR t x).ns.length<=140737488355328/\(iR t x).ss.length<=140737488355328/\(YD t x).length<=140737488355328:=by
 by_cases h:Y7 t x=0
 .obtain⟨g2,_,_⟩:=ZT h;obtain⟨ha,_⟩:=pJ h;obtain⟨g,_,_⟩:=PZ ha;have few:=g.nod.few;refine⟨by have:=g2.nod.few;omega,by have:=UO g2.ses;omega,?_⟩;rw[YD,if_pos h,pI]
  split
  .rw[A74];have:(OH t.ns x.s).length<=t.ns.length:=by
    rw[OH,EH];exact List.length_filter_le _ _
   omega
  .split
   .simp
   .split
    .simp
    .split<;>simp
 .rw[iR,if_neg h,YD,if_neg h];exact⟨by decide,by decide,by decide⟩
