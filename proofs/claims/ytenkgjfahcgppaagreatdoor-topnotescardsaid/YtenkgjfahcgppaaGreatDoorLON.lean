/-
  Part.
-/
import Derived.Test.YtenkgjfahcgppaaGreatDoorLOM
set_option maxRecDepth 20000
set_option maxHeartbeats 8000000
namespace Go.Proofs.YtenkgjfahcgppaaGreatDoor
open Go.RowKit Go.Proofs.Tryz
variable{t:Tr}{x:AQ}{E z more:Int}{p:List UInt8}{ns:List Nd}{n:Nd}{F:Nat->Prop}{b q k B:Nat}{w w' W V:World}{e:Ending}{P:Prop}{ss:List Int}{vn vs:Value}
def jU(t:Tr)(x:AQ):Int:=if iH t x≠0 then iH t x else if VB (aJ t x)=true then 6 else 0
theorem BD7(h:SI t x≠0):UL t x=SI t x:=by rw[UL,if_pos h]
theorem A39(h:SI t x=0):UL t x=jU t x:=by rw[UL,if_neg (by omega),jU]
theorem MK(h:iH t x=E)(h0:E≠0):jU t x=E:=by rw[jU,if_pos (by omega),h]
theorem fA(h:iH t x=0)(hf:VB (aJ t x)=true):jU t x=6:=by rw[jU,if_neg (by omega),if_pos hf]
theorem Z5(h:iH t x=0)(hf:VB (aJ t x)=false):jU t x=0:=by rw[jU,if_neg (by omega),if_neg (by simp[hf])]
theorem mX(p:List UInt8)(z more:Int)(ns:List Nd):(JR p z more ns).length=ns.length:=by rw[JR,List.length_map]
theorem AD8(h:n∈JR p z more ns):∃m∈ns,n=(if m.p=p then bump z more m else m):=by
 rw[JR]at h;obtain⟨m,hm,rfl⟩:=List.mem_map.1 h;exact⟨m,hm,rfl⟩
theorem AD9{m:Nd}(h:m∈ns)(hp:m.p=p):bump z more m∈JR p z more ns:=by
 rw[JR];exact List.mem_map.2 ⟨m,h,by rw[if_pos hp]⟩
theorem AT6{u:Nd}(h:u∈ns)(hp:u.p=p)(hk:u.k=2147483647):VB (JR p z more ns)=true:=
 jG.2 ⟨_,AD9 h hp,by show 2147483647<u.k+1;omega⟩
theorem AT7{u:Nd}(ha:oQ ns)(h:u∈ns)(hp:u.p=p)(hk:u.k<2147483647)(hc:∀n∈ns,n.k<=2147483647):VB (JR p z more ns)=false:=by
 rw[JY];intro n hn;obtain⟨m,hm,rfl⟩:=AD8 hn
 split
 .rename_i e
  have:m=u:=QD ha hm h (by rw[e,hp]);subst this;show m.k+1<=_;omega
 .exact hc m hm
def Chg(F:Nat->Prop)(b:Nat)(t:Tr)(x:AQ)(w:World)(e:Ending)(w':World):Prop:=
 e=.returned (I0 (jU t x))/\Touch F w w'/\(jU t x=0->∃vn vs ve,Grow w' F b x.z vn vs ve (aJ t x) (lM t x) (lN t x))
theorem Chg.no(h:e=.returned (I0 E)/\Touch F w w')(hE:jU t x=E)(h0:E≠0):Chg F b t x w e w':=
 ⟨by rw[hE];exact h.1,h.2,fun h'=>by omega⟩
theorem BX1(F:Nat->Prop)(b:Nat)(t:Tr)(vn vs ve:Value)(x:AQ)(w:World)(h:Grow w F b x.z vn vs ve t.ns t.ss [])(hF:∀k,w.heap.size<=k->F k)(ha:SI t x=0)(ho:x.o=3):
  Calls prog 59 #[P0 b,DW x] w (Chg F b t x w):=by
 obtain⟨g,hg,hz,h1,h2⟩:=MI ha;have f:=WA hg;obtain⟨hp1,hp2⟩:=f.path (.inl ho);have hpl:=IU hp1;have hdl:=f.d;have hdo:=TF x.p;have hE:iH t x=AA0 t x:=by rw[iH,if_pos ho]
 have hN:aJ t x=pW x.z t.ns (A12 x):=by rw[aJ,if_neg (by omega),if_pos ho]
 have hS:lM t x=t.ss:=by rw[lM,if_neg (by omega),if_neg (by omega)]
 have hV:lN t x=[⟨1,x.p⟩,⟨4,BU x.p⟩]:=by rw[lN,if_neg (by omega),if_pos ho]
 have few:=g.nod.few;rcases VF x.p t.ns g.nod.asc with⟨A,n,B,T⟩|⟨A,B,G⟩
 .refine(AS9 F b x.z vn vs ve t.ns A B n t.ss [] x w h T few g.nod.asc).mono fun e w' q=>Chg.no q ?_ (by decide);exact MK (by rw[hE,AA0,T.look,if_pos (by rfl)]) (by decide)
 .rcases VF (BU x.p) t.ns g.nod.asc with⟨A',u,B',U⟩|⟨A',B',U⟩
  .by_cases hu:u.o=0
   .have hum:u∈t.ns:=by rw[U.eq];simp
    have ku:=g.nod.ok u hum;have hkc:=g.cap u hum;have hkn:=ku.kids;have hkl:JL t.ns u.p<=t.ns.length:=List.countP_le_length;by_cases hw:x.w=0\/x.w=x.s
    .by_cases hf:t.ns.length=400
     .have hc:AA0 t x=6:=by
       rw[AA0,G.look,if_neg (by simp),U.look];simp only;rw[if_neg (by omega),if_neg (by rintro⟨a,c⟩;rcases hw with e|e<;>omega),if_pos hf]
      by_cases hw0:x.w=0
      .exact(AT1 F b x.z vn vs ve t.ns A B A' B' u t.ss [] x w h G U hu hw0 hf).mono fun e w' q=>Chg.no q (MK (by rw[hE,hc]) (by decide)) (by decide)
      .exact(AT2 F b x.z vn vs ve t.ns A B A' B' u t.ss [] x w h G U hu hw0 (by omega) hf).mono fun e w' q=>Chg.no q (MK (by rw[hE,hc]) (by decide)) (by decide)
     .have hc:AA0 t x=0:=by
       rw[AA0,G.look,if_neg (by simp),U.look];simp only;rw[if_neg (by omega),if_neg (by rintro⟨a,c⟩;rcases hw with e|e<;>omega),if_neg hf]
      have gn:LJ x.z t.ns t.ss:=g.nod.mono (by omega);have hsm:x.s∈t.ss:=h2 (by omega);have ga:=A11 (x:=A12 x) gn G (by omega) hp1 hp2 ⟨u,hum,U.nm,hu⟩ f.d f.z.1 rfl rfl rfl rfl rfl rfl (by
       rcases hw with c|c
       .exact .inl c
       .exact .inr (by show x.w∈t.ss;rw[c];exact hsm))
      have hins:CL2 t.ns (A12 x)=A++A12 x::B:=G.ins;have hasc:oQ (A++A12 x::B):=by
       have:=(KD _).1 ga.asc;rw[pW,TD,hins]at this;exact(KD _).2 this
      have CO0:u∈A++A12 x::B:=by
       have:=hum;rw[G.eq]at this;rcases List.mem_append.1 this with e|e<;>simp[e]
      obtain⟨A2,B2,U2⟩:∃A2 B2,FQ (A++A12 x::B) A2 u B2 (BU x.p):=by
       rw[<-U.nm];exact NY hasc (XH hasc CO0)
      have hlen:(A++A12 x::B).length<=400:=by rw[<-hins,<-mX (BU x.p) x.z 1];exact ga.few
      by_cases hk:u.k=2147483647
      .have hfu:jU t x=6:=fA (by rw[hE,hc]) (by rw[hN,pW,hins];exact AT6 CO0 U.nm hk);have P:∀W vn' ve',Grow W F b x.z vn' vs ve' (A++A12 x::B) t.ss ([]++[⟨1,x.p⟩])->w.heap.size<=W.heap.size->Touch F w W->Calls prog 89 #[P0 b,S0 (BU x.p),I0 1] W fun e w'=>e=.returned (I0 6)/\Touch F w w':=by
        intro W vn' ve' hG hs ht;refine(eU F b x.z vn' vs ve' _ A2 B2 u t.ss _ (BU x.p) 1 W hG U2 hlen hk).mono ?_;rintro e w' ⟨rfl,t'⟩;exact⟨rfl,ht.trans t'⟩
       exact(A38 F b x.z vn vs ve t.ns A B A' B' u 6 _ t.ss [] x w h hF G U few hu hw (by omega) (by omega) (by omega) (by simp) P).mono fun e w' q=>Chg.no q hfu (by decide)
      .have CO1:∀n∈A++A12 x::B,n.k<=2147483647:=by
        intro n hn;rcases List.mem_append.1 hn with e|e
        .exact g.cap n (by rw[G.eq];simp[e])
        .rcases List.mem_cons.1 e with rfl|e
         .show (0:Int)<=_;decide
         .exact g.cap n (by rw[G.eq];simp[e])
       have hfu:jU t x=0:=Z5 (by rw[hE,hc]) (by rw[hN,pW,hins];exact AT7 hasc CO0 U.nm (by omega) CO1);have P:∀W vn' ve',Grow W F b x.z vn' vs ve' (A++A12 x::B) t.ss ([]++[⟨1,x.p⟩])->w.heap.size<=W.heap.size->Touch F w W->Calls prog 89 #[P0 b,S0 (BU x.p),I0 1] W fun e w'=>e=.returned (I0 0)/\((∃vn' ve',Grow w' F b x.z vn' vs ve' (aJ t x) t.ss (lN t x))/\Touch F w w'):=by
        intro W vn' ve' hG hs ht;refine(rG F b x.z vn' vs ve' _ A2 B2 u t.ss _ (BU x.p) 1 W hG (fun k hk=>hF k (by omega)) U2 hlen ⟨ku.k0,by omega⟩ (by omega) (by omega) (by omega) (by simp)).mono ?_;rintro e w' ⟨rfl,ve2,g',t'⟩;refine⟨rfl,⟨vn',ve2,?_⟩,ht.trans t'⟩;have e1:aJ t x=A2++bump x.z 1 u::B2:=by
         rw[hN,pW,hins];exact U2.bump x.z 1
        rw[e1,hV];exact g'
       have fin:∀ (e:Ending) (w':World),(e=.returned (I0 0)/\((∃vn' ve',Grow w' F b x.z vn' vs ve' (aJ t x) t.ss (lN t x))/\Touch F w w'))->Chg F b t x w e w':=by
        rintro e w' ⟨rfl,⟨vn',ve',g'⟩,t'⟩;exact⟨by rw[hfu],t',fun _=>⟨vn',vs,ve',by rw[hS];exact g'⟩⟩
       exact(A38 F b x.z vn vs ve t.ns A B A' B' u 0 _ t.ss [] x w h hF G U few hu hw (by omega) (by omega) (by omega) (by simp) P).mono fin
    .have hw1:x.w≠0:=fun e=>hw (.inl e);have hw2:x.w≠x.s:=fun e=>hw (.inr e);refine(BX0 F b x.z vn vs ve t.ns A B A' B' u t.ss [] x w h G U few hu hw1 hw2).mono fun e w' q=>Chg.no q ?_ (by decide);refine MK ?_ (by decide);rw[hE,AA0,G.look,if_neg (by simp),U.look];simp only;rw[if_neg (by omega),if_pos ⟨hw1,hw2⟩]
   .refine(AT0 F b x.z vn vs ve t.ns A B A' B' u t.ss [] x w h G U few hu).mono fun e w' q=>Chg.no q ?_ (by decide);refine MK ?_ (by decide);rw[hE,AA0,G.look,if_neg (by simp),U.look];simp only;rw[if_pos hu]
  .refine(BD3 F b x.z vn vs ve t.ns A B A' B' t.ss [] x w h G U few).mono fun e w' q=>Chg.no q ?_ (by decide);refine MK ?_ (by decide);rw[hE,AA0,G.look,if_neg (by simp),U.look]
theorem BX2(F:Nat->Prop)(b:Nat)(t:Tr)(vn vs ve:Value)(x:AQ)(w:World)(h:Grow w F b x.z vn vs ve t.ns t.ss [])(hF:∀k,w.heap.size<=k->F k)(ha:SI t x=0)(ho:x.o=4):
  Calls prog 60 #[P0 b,S0 x.p] w (Chg F b t x w):=by
 obtain⟨g,hg,hz,h1,h2⟩:=MI ha;have f:=WA hg;obtain⟨hp1,hp2⟩:=f.path (.inr ho);have hpl:=IU hp1;have hdo:=TF x.p;have few:=g.nod.few;have hE:iH t x=B89 t x:=by rw[iH,if_neg (by omega),if_pos ho]
 have hN:aJ t x=rmN x.z t.ns x.p:=by rw[aJ,if_neg (by omega),if_neg (by omega),if_pos ho]
 have hS:lM t x=t.ss:=by rw[lM,if_neg (by omega),if_neg (by omega)]
 have hV:lN t x=[⟨2,x.p⟩,⟨4,BU x.p⟩]:=by rw[lN,if_neg (by omega),if_neg (by omega),if_pos ho]
 rcases VF x.p t.ns g.nod.asc with⟨A,n,B,T⟩|⟨A,B,G⟩
 .have hn:n∈t.ns:=by rw[T.eq];simp
  by_cases hk:n.n=0
  .have hd0:B89 t x=0:=by rw[B89,T.look];simp only;rw[if_neg (by omega)]
   have gn:LJ x.z t.ns t.ss:=g.nod.mono (by omega);obtain⟨u,hu1,hu2,hu3,hu4,hu5⟩:=AN8 gn hn (by rw[T.nm];exact hp2);rw[T.nm]at hu1 hu3 hu4;obtain⟨A',B',T'⟩:=jJ gn.asc T hu2 hu3 hu4;have ku:=gn.ok u hu2;have hkc:=g.cap u hu2;have hkn:=ku.kids;have hkl:JL t.ns u.p<=t.ns.length:=List.countP_le_length;by_cases hf:u.k=2147483647
   .refine(eY F b x.z vn vs ve t.ns A B A' B' n u t.ss [] x.p w h hF T T' few hk hf (by omega) (by simp)).mono fun e w' q=>Chg.no q ?_ (by decide);exact fA (by rw[hE,hd0]) (by rw[hN];exact AO3 hu2 hu3 hu4 hf [] (by simp))
   .refine(rH F b x.z vn vs ve t.ns A B A' B' n u t.ss [] x.p w h hF T T' few hk ⟨ku.k0,by omega⟩ (by omega) (by omega) (by omega) (by simp)).mono ?_;rintro e w' ⟨rfl,vn',ve',g',t'⟩;have hc:jU t x=0:=Z5 (by rw[hE,hd0]) (by rw[hN,JY];exact BP6 gn.asc hu2 hu3 (by omega) g.cap);exact⟨by rw[hc],t',fun _=>⟨vn',vs,ve',by rw[hN,hS,hV];exact g'⟩⟩
  .refine(xO F b x.z vn vs ve t.ns A B n t.ss [] x.p w h T few hk).mono fun e w' q=>Chg.no q ?_ (by decide);exact MK (by rw[hE,B89,T.look];simp only;rw[if_pos hk]) (by decide)
 .refine(AD6 F b x.z vn vs ve t.ns A B t.ss [] x.p w h G few).mono fun e w' q=>Chg.no q ?_ (by decide);exact MK (by rw[hE,B89,G.look]) (by decide)
theorem BX3(F:Nat->Prop)(b:Nat)(t:Tr)(vn vs ve:Value)(x:AQ)(w:World)(h:Grow w F b x.z vn vs ve t.ns t.ss [])(hF:∀k,w.heap.size<=k->F k)(ha:SI t x=0)(ho:x.o=5):
  Calls prog 61 #[P0 b,DW x] w (Chg F b t x w):=by
 obtain⟨g,hg,hz,h1,h2⟩:=MI ha;have f:=WA hg;have hpl:=IU (f.CN2 ho);have hdl:=f.d;have few:=g.nod.few;have hE:iH t x=C74 t x:=by rw[iH,if_neg (by omega),if_neg (by omega),if_pos ho]
 have hN:aJ t x=AN6 x.p x.d x.v x.z t.ns:=by rw[aJ,if_neg (by omega),if_neg (by omega),if_neg (by omega),if_pos ho]
 have hS:lM t x=t.ss:=by rw[lM,if_neg (by omega),if_neg (by omega)]
 have hV:lN t x=[⟨3,x.p⟩]:=by rw[lN,if_neg (by omega),if_neg (by omega),if_neg (by omega),if_pos ho]
 rcases VF x.p t.ns g.nod.asc with⟨A,n,B,T⟩|⟨A,B,G⟩
 .have hn:n∈t.ns:=by rw[T.eq];simp
  have kn:=g.nod.ok n hn;by_cases hv:x.v=n.v+1
  .refine(CB6 F b x.z vn vs ve t.ns A B n t.ss [] x w h hF T few ⟨kn.v0,kn.v1⟩ (by omega) (by omega) (by simp) hv).mono ?_;rintro e w' ⟨rfl,ve',g',t'⟩;have hc:jU t x=0:=Z5 (by rw[hE,C74,T.look];simp only;rw[if_neg (by omega)]) (by
    rw[hN,JY];intro m hm;rw[AN6]at hm;obtain⟨m',hm',rfl⟩:=List.mem_map.1 hm
    split
    .exact g.cap m' hm'
    .exact g.cap m' hm')
   exact⟨by rw[hc],t',fun _=>⟨vn,vs,ve',by rw[hN,hS,hV,T.put];exact g'⟩⟩
  .refine(BW9 F b x.z vn vs ve t.ns A B n t.ss [] x w h hF T few ⟨kn.v0,kn.v1⟩ (by omega) (by omega) (by simp) hv).mono fun e w' q=>Chg.no q ?_ (by decide);exact MK (by rw[hE,C74,T.look];simp only;rw[if_pos hv]) (by decide)
 .refine(BW8 F b x.z vn vs ve t.ns A B t.ss [] x w h G few).mono fun e w' q=>Chg.no q ?_ (by decide);exact MK (by rw[hE,C74,G.look]) (by decide)
theorem BX4(F:Nat->Prop)(b:Nat)(t:Tr)(vn vs ve:Value)(x:AQ)(w:World)(h:Grow w F b x.z vn vs ve t.ns t.ss [])(hF:∀k,w.heap.size<=k->F k)(ha:SI t x=0)(ho:x.o=2):
  Calls prog 58 #[P0 b,I0 x.s] w (Chg F b t x w):=by
 obtain⟨g,hg,hz,h1,h2⟩:=MI ha;have f:=WA hg;have gn:LJ x.z t.ns t.ss:=g.nod.mono (by omega);have hE:iH t x=0:=by rw[iH,if_neg (by omega),if_neg (by omega),if_neg (by omega)]
 have hN:aJ t x=NK x.z t.ns (KF t.ns x.s):=by rw[aJ,if_pos ho]
 have hS:lM t x=A99 t.ss x.s:=by rw[lM,if_neg (by omega),if_pos ho]
 have hV:lN t x=AO0 (KF t.ns x.s):=by rw[lN,if_pos ho]
 have hm:=h2 (by omega);rcases pV x.s t.ss g.ses.1 with⟨A,B,T⟩|⟨A,B,G⟩
 .refine(AT5 F b x.z vn vs ve t.ns t.ss A B t.ss x.s w h hF T (NZ g.ses) ⟨gn,jH gn (by have:=f.s;omega),g.cap⟩).mono ?_;rintro e w' (⟨hf,rfl,t'⟩|⟨hf,rfl,vn',vs',ve',g',t'⟩)
  .exact Chg.no ⟨rfl,t'⟩ (fA hE (by rw[hN];exact hf)) (by decide)
  .have hc:jU t x=0:=Z5 hE (by rw[hN];exact hf);exact⟨by rw[hc],t',fun _=>⟨vn',vs',ve',by rw[hN,hS,hV,T.drop];exact g'⟩⟩
 .exact absurd hm G.not
theorem BX5(F:Nat->Prop)(b:Nat)(t:Tr)(vn vs:Value)(x:AQ)(w:World)(h:Grow w F b x.z vn vs (N0) t.ns t.ss [])(hF:∀k,w.heap.size<=k->F k)(ha:SI t x=0)(ho:x.o=1):
  Calls prog 57 #[P0 b,I0 x.s] w fun e w'=>e=.returned (.tuple #[])/\Chg F b t x w (.returned (I0 0)) w':=by
 obtain⟨g,hg,hz,h1,h2⟩:=MI ha;have f:=WA hg;have hE:iH t x=0:=by rw[iH,if_neg (by omega),if_neg (by omega),if_neg (by omega)]
 have hN:aJ t x=t.ns:=by rw[aJ,if_neg (by omega),if_neg (by omega),if_neg (by omega),if_neg (by omega)]
 have hS:lM t x=BU1 t.ss x.s:=by rw[lM,if_pos ho]
 have hV:lN t x=[]:=by rw[lN,if_neg (by omega),if_neg (by omega),if_neg (by omega),if_neg (by omega)]
 have hm:=h1 ho;rcases pV x.s t.ss g.ses.1 with⟨A,B,T⟩|⟨A,B,G⟩
 .exact absurd T.mem hm
 .have hl:t.ss.length<=2147483646:=by
   have h3:=NZ (A10 g.ses f.s hm);rw[G.ins]at h3;rw[G.eq];simp at h3⊢;omega
  refine(BD5 F b x.z vn vs _ t.ns t.ss A B [] x.s w h hF G hl).mono ?_;rintro e w' ⟨rfl,vs',g',t'⟩;have hc:jU t x=0:=Z5 hE (by rw[hN,JY];exact g.cap);exact⟨rfl,by rw[hc],t',fun _=>⟨vn,vs',_,by rw[hN,hS,hV,G.ins];exact g'⟩⟩
theorem Chg.boxed{o:Obj}(h:Chg F b t x (w.alloc o) e w'):Chg F b t x w e w':=
 ⟨h.1,(Touch.of_below (AB w o)).trans h.2.1,h.2.2⟩
theorem AE0(F:Nat->Prop)(b:Nat)(t:Tr)(vn vs:Value)(x:AQ)(w:World)(h:Grow w F b x.z vn vs (N0) t.ns t.ss [])(hF:∀k,w.heap.size<=k->F k)(ha:SI t x=0)(ho:x.o=1):
  Calls prog 34 #[P0 b,DW x] w (Chg F b t x w):=by
 have C:=BX5 F b t vn vs x (w.alloc (.cells #[I0 x.z,I0 x.o,I0 x.s,S0 x.p,S0 x.d,I0 x.v,I0 x.w] 49)) (h.next (AB _ _)) (fun k hk=>hF k (by simp at hk;omega)) ha ho;clear h hF ha;have HO:=AA ho;obtain⟨xz,xo,xs,xp,xd,xv,xw⟩:=x;unfold DW;simp only at C ho⊢;subst ho;have HC:=AA C;clear C;go_enter func34,ntmps34;go_wp2_with fail;refine(A8 HC).mono ?_;rintro e w1 ⟨rfl,hc⟩;have HQ:=AA hc.boxed;clear hc HC;go_wp2_with fail;go_ret;exact A8 HQ
theorem AE1(F:Nat->Prop)(b:Nat)(t:Tr)(vn vs:Value)(x:AQ)(w:World)(h:Grow w F b x.z vn vs (N0) t.ns t.ss [])(hF:∀k,w.heap.size<=k->F k)(ha:SI t x=0)(ho:x.o=2):
  Calls prog 34 #[P0 b,DW x] w (Chg F b t x w):=by
 have C:=BX4 F b t vn vs _ x (w.alloc (.cells #[I0 x.z,I0 x.o,I0 x.s,S0 x.p,S0 x.d,I0 x.v,I0 x.w] 49)) (h.next (AB _ _)) (fun k hk=>hF k (by simp at hk;omega)) ha ho;clear h hF ha;have HO:=AA ho;obtain⟨xz,xo,xs,xp,xd,xv,xw⟩:=x;unfold DW;simp only at C ho⊢;subst ho;have HC:=AA C;clear C;go_enter func34,ntmps34;go_wp2_with fail;refine(A8 HC).mono ?_;rintro e w1 hc;obtain⟨rfl,hc'⟩:=hc.boxed;have HQ:=AA hc';clear hc hc' HC;go_wp2_with fail;go_ret;exact⟨rfl,A8 HQ⟩
theorem AE2(F:Nat->Prop)(b:Nat)(t:Tr)(vn vs:Value)(x:AQ)(w:World)(h:Grow w F b x.z vn vs (N0) t.ns t.ss [])(hF:∀k,w.heap.size<=k->F k)(ha:SI t x=0)(ho:x.o=3):
  Calls prog 34 #[P0 b,DW x] w (Chg F b t x w):=by
 have C:=BX1 F b t vn vs _ x (w.alloc (.cells #[I0 x.z,I0 x.o,I0 x.s,S0 x.p,S0 x.d,I0 x.v,I0 x.w] 49)) (h.next (AB _ _)) (fun k hk=>hF k (by simp at hk;omega)) ha ho;clear h hF ha;have HO:=AA ho;obtain⟨xz,xo,xs,xp,xd,xv,xw⟩:=x;unfold DW at C⊢;simp only at C ho⊢;subst ho;have HC:=AA C;clear C;go_enter func34,ntmps34;go_wp2_with fail;refine(A8 HC).mono ?_;rintro e w1 hc;obtain⟨rfl,hc'⟩:=hc.boxed;have HQ:=AA hc';clear hc hc' HC;go_wp2_with fail;go_ret;exact⟨rfl,A8 HQ⟩
theorem AE3(F:Nat->Prop)(b:Nat)(t:Tr)(vn vs:Value)(x:AQ)(w:World)(h:Grow w F b x.z vn vs (N0) t.ns t.ss [])(hF:∀k,w.heap.size<=k->F k)(ha:SI t x=0)(ho:x.o=4):
  Calls prog 34 #[P0 b,DW x] w (Chg F b t x w):=by
 have C:=BX2 F b t vn vs _ x (w.alloc (.cells #[I0 x.z,I0 x.o,I0 x.s,S0 x.p,S0 x.d,I0 x.v,I0 x.w] 49)) (h.next (AB _ _)) (fun k hk=>hF k (by simp at hk;omega)) ha ho;clear h hF ha;have HO:=AA ho;obtain⟨xz,xo,xs,xp,xd,xv,xw⟩:=x;unfold DW;simp only at C ho⊢;subst ho;have HC:=AA C;clear C;go_enter func34,ntmps34;go_wp2_with fail;refine(A8 HC).mono ?_;rintro e w1 hc;obtain⟨rfl,hc'⟩:=hc.boxed;have HQ:=AA hc';clear hc hc' HC;go_wp2_with fail;go_ret;exact⟨rfl,A8 HQ⟩
theorem AE4(F:Nat->Prop)(b:Nat)(t:Tr)(vn vs:Value)(x:AQ)(w:World)(h:Grow w F b x.z vn vs (N0) t.ns t.ss [])(hF:∀k,w.heap.size<=k->F k)(ha:SI t x=0)(ho:x.o=5):
  Calls prog 34 #[P0 b,DW x] w (Chg F b t x w):=by
 have C:=BX3 F b t vn vs _ x (w.alloc (.cells #[I0 x.z,I0 x.o,I0 x.s,S0 x.p,S0 x.d,I0 x.v,I0 x.w] 49)) (h.next (AB _ _)) (fun k hk=>hF k (by simp at hk;omega)) ha ho;clear h hF ha;have HO:=AA ho;obtain⟨xz,xo,xs,xp,xd,xv,xw⟩:=x;unfold DW at C⊢;simp only at C ho⊢;subst ho;have HC:=AA C;clear C;go_enter func34,ntmps34;go_wp2_with fail;refine(A8 HC).mono ?_;rintro e w1 hc;obtain⟨rfl,hc'⟩:=hc.boxed;have HQ:=AA hc';clear hc hc' HC;go_wp2_with fail;go_ret;exact⟨rfl,A8 HQ⟩
theorem AE5(F:Nat->Prop)(b:Nat)(t:Tr)(vn vs:Value)(x:AQ)(w:World)(h:Grow w F b x.z vn vs (N0) t.ns t.ss [])(hF:∀k,w.heap.size<=k->F k)(ha:SI t x=0):
  Calls prog 34 #[P0 b,DW x] w (Chg F b t x w):=by
 have f:=(WA (MI ha).2.1).op;by_cases h1:x.o=1
 .exact AE0 F b t vn vs x w h hF ha h1
 .by_cases h2:x.o=2
  .exact AE1 F b t vn vs x w h hF ha h2
  .by_cases h3:x.o=3
   .exact AE2 F b t vn vs x w h hF ha h3
   .by_cases h4:x.o=4
    .exact AE3 F b t vn vs x w h hF ha h4
    .exact AE4 F b t vn vs x w h hF ha (by omega)
noncomputable def pd(P:Prop):Bool:= @decide P (Classical.propDecidable _)
theorem OQ(h:P):pd P=true:=by unfold pd;exact @decide_eq_true _ (Classical.propDecidable _) h
theorem OA(h:¬P):pd P=false:=by unfold pd;exact @decide_eq_false _ (Classical.propDecidable _) h
theorem BQ1:pd P=true↔P:=by unfold pd;exact @decide_eq_true_iff _ (Classical.propDecidable _)
theorem EJ{a b:Bool}(h:a=b):Ending.returned (.bool a)=.returned (.bool b):=by rw[h]
structure A40(ns:List Nd):Prop where
 few:ns.length<=400
 root:∃r rest,ns=r::rest/\r.p=[47]
 asc:oQ ns
def BD8(ns:List Nd)(p:List UInt8):Prop:=(H7 ns (BU p)).isSome=true\/AK4 p=7
structure ZX(z:Int)(n:Nd)(ks:Int)(ss:List Int):Prop where
 c0:0<=n.c
 cm:n.c<=n.m
 cq:n.c<=n.q
 mz:n.m<=z
 qz:n.q<=z
 v0:0<=n.v
 v1:n.v<=2147483647
 k0:0<=n.k
 k1:n.k<=2147483647
 kids:n.n=ks
 own:n.o=0\/ks=0/\n.o∈ss
structure BD9(z:Int)(ns:List Nd)(ss:List Int)(n:Nd):Prop where
 data:n.d.length<=256
 held:BD8 ns n.p
 sound:ZX z n (JL ns n.p) ss
theorem CB9{q:List UInt8}(h:bl [47] q=true):q≠[]:=by rintro rfl;simp[bl,Op.bytesLess]at h
theorem rM(h:A40 ns)(hn:n∈ns):n.p≠[]:=by
 obtain⟨r,rest,rfl,hr⟩:=h.root;rcases List.mem_cons.1 hn with rfl|hn
 .rw[hr];simp
 .have:=(List.pairwise_cons.1 h.asc).1 n hn;rw[hr]at this;exact CB9 this
theorem UY:NI t↔FU t.z=true/\A40 t.ns/\lK t.ss/\(∀n∈t.ns,BD9 t.z t.ns t.ss n)/\∀r,t.ns[0]?=some r->r.o=0:=by
 constructor
 .intro g;obtain⟨r,rest,hr,hp,ho⟩:=g.nod.root;refine⟨g.zx,⟨g.nod.few,⟨r,rest,hr,hp⟩,g.nod.asc⟩,g.ses,fun n hn=>?_,fun r' h=>by rw[hr]at h;simp at h;rw[<-h];exact ho⟩;have k:=g.nod.ok n hn;refine⟨k.data,?_,⟨k.c0,k.cm,k.cq,k.mz,k.qz,k.v0,k.v1,k.k0,g.cap n hn,k.kids,?_⟩⟩
  .by_cases h:n.p=[47]
   .exact .inr (by rw[h];exact pU)
   .obtain⟨u,hu,he⟩:=k.up h;exact .inl (by rw[<-he,XH g.nod.asc hu];rfl)
  .rcases k.own with h|⟨h1,h2⟩
   .exact .inl h
   .exact .inr ⟨by rw[<-k.kids];exact h2,h1⟩
 .rintro⟨hz,ho,hs,hp,hr⟩;refine⟨hz,hs,⟨ho.few,?_,ho.asc,fun n hn=>?_⟩,fun n hn=>(hp n hn).sound.k1⟩
  .obtain⟨r,rest,h1,h2⟩:=ho.root;exact⟨r,rest,h1,h2,hr r (by rw[h1];rfl)⟩
  .have k:=hp n hn;have s:=k.sound;have hg:DN n.p=true/\(n.p≠[47]->∃u∈t.ns,u.p=BU n.p):=by
    rcases k.held with h|h
    .obtain⟨u,hu⟩:=Option.isSome_iff_exists.1 h;obtain⟨hu1,hu2⟩:=UK hu;have hne:BU n.p≠[]:=by rw[<-hu2];exact rM ho hu1
     cases hb:DN n.p with
     |false=>exact absurd (XG hb) hne
     |true=>exact⟨rfl,fun _=>⟨u,hu1,hu2⟩⟩
    .cases hb:DN n.p with
     |false=>rw[A08 hb]at h;omega
     |true=>
      by_cases h1:n.p=[47]
      .exact⟨rfl,fun h2=>absurd h1 h2⟩
      .rw[AN5 hb h1]at h;omega
   refine⟨k.data,hg.1,hg.2,s.c0,s.cm,s.cq,s.mz,s.qz,s.v0,s.v1,s.k0,s.kids,?_⟩;rcases s.own with h|⟨h1,h2⟩
   .exact .inl h
   .exact .inr ⟨h2,by rw[s.kids];exact h1⟩
def A41(ns:List Nd)(k:Nat):Prop:=∀i,i<k->∀a b,ns[i]?=some a->ns[i+1]?=some b->bl a.p b.p=true
theorem AT8(h:A41 ns k){a b:Nd}(ha:ns[k]?=some a)(hb:ns[k+1]?=some b)(hl:bl a.p b.p=true):A41 ns (k+1):=by
 intro i hi x y hx hy;by_cases e:i=k
 .subst e;rw[ha]at hx;rw[hb]at hy;cases hx;cases hy;exact hl
 .exact h i (by omega) x y hx hy
theorem xQ(h:A41 ns k)(hk:ns.length<=k+1):oQ ns:=by
 have step:∀j i,(hij:i<j)->∀ (hj:j<ns.length),bl (ns[i]'(Nat.lt_trans hij hj)).p ns[j].p=true:=by
  intro j
  induction j with
  |zero=>intro i hi;omega
  |succ j ih=>
   intro i hi hj;have h1:=h j (by omega) ns[j] ns[j+1] (by simp) (by simp);by_cases e:i=j
   .subst e;exact h1
   .exact NV _ _ _ (ih i (by omega) (by omega)) h1
 exact List.pairwise_iff_getElem.2 fun i j hi hj hij=>step j i hij hj
theorem BE0(h:oQ ns){i:Nat}{a b:Nd}(ha:ns[i]?=some a)(hb:ns[i+1]?=some b):bl a.p b.p=true:=by
 obtain⟨h1,rfl⟩:=List.getElem?_eq_some_iff.1 ha;obtain⟨h2,rfl⟩:=List.getElem?_eq_some_iff.1 hb;exact List.pairwise_iff_getElem.1 h i (i+1) h1 h2 (by omega)
theorem WH(v:Value)(ns:List Nd)(w:World)(hv:BQ w v ns):
  Calls prog 36 #[v] w (R0 w (.bool (pd (A40 ns)))):=by
 rcases hv with⟨a,cap,rfl,rfl,_⟩|⟨b,off,cap,rfl,hle,hm,hb,hne,hr⟩
 .have F:=AA (OA (P:=A40 []) (fun h=>by obtain⟨r,rest,h,_⟩:=h.root;cases h)).symm;go_enter func36,ntmps36;go_wp2_with fail;go_ret;exact⟨EJ (A8 F),Below.refl _ _⟩
 .obtain⟨r,rest,rfl⟩:∃r rest,ns=r::rest:=by
   cases ns with
   |nil=>exact absurd rfl hne
   |cons r rest=>exact⟨r,rest,rfl⟩
  have e0:=hr.n0 (i:=0) (x:=r) rfl;have H:=AA hr;simp only[List.length_cons]at hle⊢;simp only[maxLen]at hm;clear hr hne;by_cases hl:rest.length+1<=400
  .by_cases hp:r.p=[47]
   .have hp2:(r.p==[47])=true:=by rw[hp];rfl
    have HL:=AA hl;have HP:=AA hp;clear hp;simp only[Nat.zero_mul,Nat.add_zero]at e0;by_cases hc1:cap=1
    .obtain rfl:rest=[]:=List.eq_nil_of_length_eq_zero (by omega);subst hc1;have T:=AA (OQ (P:=A40 [r]) ⟨by simp,⟨r,[],rfl,A8 HP⟩,List.pairwise_singleton _ _⟩).symm;clear hle hl;simp only[List.length_nil];go_enter func36,ntmps36;go_wp2_with fail
     go_loopg [23] 1 (fun _ s23 wr=>s23=I0 0/\wr=w)
     case atStart=>exact⟨rfl,rfl⟩
     case round=>
      obtain⟨rfl,rfl⟩:=hrel;go_wp2_with fail;go_ret;exact⟨EJ (A8 T),Below.refl _ _⟩
    .go_enter func36,ntmps36;go_wp2_with fail
     go_loopg [23] rest.length (fun kx s23 wr=>∃k:Nat,s23=I0 k/\k<=rest.length/\rest.length-k<=kx/\Hid (B0 w wr)/\Hid (A41 (r::rest) k))
     case atStart=>exact⟨0,rfl,Nat.zero_le _,Nat.le_refl _,AA (Below.refl _ _),AA (fun i hi=>absurd hi (Nat.not_lt_zero _))⟩
     case round=>
      obtain⟨k,rfl,hk,hg,hB,hR⟩:=hrel;by_cases hlt:k<rest.length
      .obtain⟨x,hx⟩:∃x,(r::rest)[k+1]?=some x:=⟨_,List.getElem?_eq_getElem (by simp;omega)⟩;obtain⟨y,hy⟩:∃y,(r::rest)[k]?=some y:=⟨_,List.getElem?_eq_getElem (by simp;omega)⟩;have q:=(A8 H).kept (A8 hB) hb;have d0:=q.n0 hx;have d1:=q.n1 hx;have d2:=q.n2 hx;have d3:=q.n3 hx;have d4:=q.n4 hx;have d5:=q.n5 hx;have d6:=q.n6 hx;have d7:=q.n7 hx;have d8:=q.n8 hx;have c0:=q.n0 hy;have hbw:b<wr.heap.size:=Nat.lt_of_lt_of_le hb (A8 hB).size;have hofs:off+9+k*9=off+(k+1)*9:=by omega
       rw[<-hofs]at d0 d1 d2 d3 d4 d5 d6 d7 d8;clear hofs;have hk1:(k:Int)<(rest.length:Int)+1:=by omega
       cases hbl:bl y.p x.p with
       |true=>
        have R2:=AA (AT8 (A8 hR) hy hx hbl);have hbl1:Op.bytesLess x.p y.p=false:=JW hbl;have hbl2:(x.p==y.p)=false:=by simpa using (PZ hbl).symm
        clear hx hy q hbl;go_wp2_with fail;go_region;go_wp2_with fail
        go_roundg (rest.length-(k+1))
        case measure=>omega
        case rel=>exact⟨k+1,rfl,by omega,Nat.le_refl _,AA (AL (A8 hB) ((AB _ _).drew)),R2⟩
       |false=>
        have F:=AA (OA (P:=A40 (r::rest)) (fun h=>by have:=BE0 h.asc hy hx;rw[hbl]at this;cases this)).symm;clear hx hy q
        cases hb1:bl x.p y.p with
        |true=>
         have hbl1:Op.bytesLess x.p y.p=true:=hb1;clear hbl hb1;go_wp2_with fail;go_region;go_wp2_with fail;go_ret;exact⟨EJ (A8 F),AL (A8 hB) ((AB _ _).drew)⟩
        |false=>
         have hbl1:Op.bytesLess x.p y.p=false:=hb1;have hbl2:(x.p==y.p)=true:=by simpa using P6 _ _ hb1 hbl
         clear hbl hb1;go_wp2_with fail;go_region;go_wp2_with fail;go_ret;exact⟨EJ (A8 F),AL (A8 hB) ((AB _ _).drew)⟩
      .obtain rfl:k=rest.length:=by omega
       go_wp2_with fail;go_ret;exact⟨EJ (OQ (P:=A40 (r::rest)) ⟨A8 HL,⟨r,rest,rfl,A8 HP⟩,xQ (A8 hR) (by simp)⟩).symm,A8 hB⟩
   .have hp2:(r.p==[47])=false:=by simpa using hp
    have F:=AA (OA (P:=A40 (r::rest)) (fun h=>by obtain⟨r',s',h1,h2⟩:=h.root;cases h1;exact hp h2)).symm;clear hp;simp only[Nat.zero_mul,Nat.add_zero]at e0;go_enter func36,ntmps36;go_wp2_with fail;go_ret;exact⟨EJ (A8 F),Below.refl _ _⟩
  .have F:=AA (OA (P:=A40 (r::rest)) (fun h=>hl (by simpa using h.few))).symm;go_enter func36,ntmps36;go_wp2_with fail;go_ret;exact⟨EJ (A8 F),Below.refl _ _⟩
def NM(ss:List Int):Nat->Int
 |0=>1
 |k+1=>ss.getD k 0+1
def OkS(ss:List Int)(k:Nat):Prop:=∀i,i<k->∀x,ss[i]?=some x->NM ss i<=x/\x<=2147483647
theorem BE1(h:OkS ss k){x:Int}(hx:ss[k]?=some x)(h1:NM ss k<=x)(h2:x<=2147483647):OkS ss (k+1):=by
 intro i hi y hy;by_cases e:i=k
 .subst e;rw[hx]at hy;cases hy;exact⟨h1,h2⟩
 .exact h i (by omega) y hy
theorem TQ{x:Int}(hx:ss[k]?=some x):NM ss (k+1)=x+1:=by simp[NM,List.getD,hx]
theorem BE2(h:lK ss){x:Int}(hx:ss[k]?=some x):NM ss k<=x/\x<=2147483647:=by
 have hb:=h.2 x (List.mem_of_getElem? hx);refine⟨?_,hb.2⟩
 cases k with
 |zero=>simp only[NM];omega
 |succ k=>
  obtain⟨h1,rfl⟩:=List.getElem?_eq_some_iff.1 hx;rw[TQ (List.getElem?_eq_getElem (show k<ss.length by omega))];have:=List.pairwise_iff_getElem.1 h.1 k (k+1) (by omega) h1 (by omega);omega
theorem BE3(h:OkS ss ss.length):lK ss:=by
 have step:∀j i,(hij:i<j)->∀ (hj:j<ss.length),ss[i]'(Nat.lt_trans hij hj)<ss[j]:=by
  intro j
  induction j with
  |zero=>intro i hi;omega
  |succ j ih=>
   intro i hi hj;have h1:=(h (j+1) hj _ (List.getElem?_eq_getElem hj)).1;rw[TQ (List.getElem?_eq_getElem (show j<ss.length by omega))]at h1;by_cases e:i=j
   .subst e;omega
   .have:=ih i (by omega) (by omega);omega
 have pos:∀i,(hi:i<ss.length)->1<=ss[i]:=by
  intro i
  induction i with
  |zero=>intro hi;exact(h 0 hi _ (List.getElem?_eq_getElem hi)).1
  |succ i ih=>intro hi;have:=step (i+1) i (by omega) hi;have:=ih (by omega);omega
 refine⟨List.pairwise_iff_getElem.2 fun i j hi hj hij=>step j i hij hj,fun s hs=>?_⟩;obtain⟨i,hi,rfl⟩:=List.getElem_of_mem hs;exact⟨pos i hi,(h i hi _ (List.getElem?_eq_getElem hi)).2⟩
theorem ZY(v:Value)(ss:List Int)(w:World)(hv:BQ w v ss)(hi:∀s∈ss,-9223372036854775808<=s/\s<=9223372036854775807):
  Calls prog 37 #[v] w fun e w'=>e=.returned (.bool (pd (lK ss)))/\w'=w:=by
 have T:=AA (fun h:OkS ss ss.length=>(OQ (BE3 h)).symm);have F:=AA (fun(k:Nat) (x:Int) (hx:ss[k]?=some x) (h:¬ (NM ss k<=x/\x<=2147483647))=>(OA (fun g:lK ss=>h (BE2 g hx))).symm);have HI:=AA hi;clear hi;generalize pd (lK ss)=fin at T F⊢;have R:∀k x,ss[k]?=some x->∃b off cap,v=.slice (some ⟨b,off,none⟩) ss.length cap/\w.cell? ⟨b,off+k,none⟩=some (I0 x):=fun k x hx=>by
  obtain⟨b,off,cap,rfl,_,hr,_,_⟩:=J7 hv (by rintro rfl;simp at hx);exact⟨b,off,cap,rfl,hr.i0 hx⟩
 have HR:=AA R;have hml:ss.length<=9223372036854775807:=by
  rcases hv with⟨a,cap,rfl,rfl,_⟩|⟨b,off,cap,rfl,h1,h2,_⟩
  .simp
  .simp only[maxLen]at h2;omega
 obtain⟨a,c,rfl⟩:=AU hv;clear R hv;go_enter func37,ntmps37;go_wp2_with fail
 go_loopg [3,8] ss.length (fun kx s3 s8 wr=>∃k:Nat,s3=I0 (NM ss k)/\s8=I0 k/\k<=ss.length/\ss.length-k<=kx/\wr=w/\Hid (OkS ss k))
 case atStart=>exact⟨0,rfl,rfl,Nat.zero_le _,Nat.le_refl _,rfl,AA (fun i hi=>absurd hi (Nat.not_lt_zero _))⟩
 case round=>
  obtain⟨k,rfl,rfl,hk,hg,rfl,hO⟩:=hrel;by_cases hlt:k<ss.length
  .obtain⟨x,hx⟩:∃x,ss[k]?=some x:=⟨_,List.getElem?_eq_getElem hlt⟩;obtain⟨b,off,cap,hv,e0⟩:=A8 HR k x hx;have hbx:=A8 HI x (List.mem_of_getElem? hx);simp only[Value.slice.injEq]at hv;obtain⟨rfl,_,rfl⟩:=hv;have HX:=AA hx;clear hx;have LS:=AA (TQ (A8 HX));by_cases h1:NM ss k<=x
   .by_cases h2:x<=2147483647
    .have O2:=AA (BE1 (A8 hO) (A8 HX) h1 h2);generalize NM ss k=ls at h1;go_wp2_with fail
     go_roundg (ss.length-(k+1))
     case measure=>omega
     case rel=>exact⟨k+1,by rw[A8 LS],rfl,by omega,Nat.le_refl _,rfl,O2⟩
    .have G:=AA (A8 F k x (A8 HX) (by omega));generalize NM ss k=ls at h1;go_wp2_with fail;go_ret;exact⟨EJ (A8 G),rfl⟩
   .have G:=AA (A8 F k x (A8 HX) (by omega));generalize NM ss k=ls at h1;go_wp2_with fail;go_ret;exact⟨EJ (A8 G),rfl⟩
  .obtain rfl:k=ss.length:=by omega
   have G:=AA (A8 T (A8 hO));go_wp2_with fail;go_ret;exact⟨EJ (A8 G),rfl⟩
theorem BE4(v:Value)(ns:List Nd)(p:List UInt8)(w:World)(hv:BQ w v ns)(ha:A40 ns):
  Calls prog 39 #[v,S0 p] w (R0 w (.bool (pd (BD8 ns p)))):=by
 have C:∀W:World,B0 w W->∃i:Nat,Calls prog 63 #[v,S0 (BU p)] W (R0 W (.tuple #[I0 i,.bool (H7 ns (BU p)).isSome])):=fun W hW=>by
  obtain⟨i,_,h⟩:=qW v ns (BU p) W (hv.next hW) (by have:=ha.few;omega) ha.asc;exact⟨i,h⟩
 have C':=AA C;have F:pd (BD8 ns p)=((H7 ns (BU p)).isSome||AK4 p==7):=by
  cases h:(H7 ns (BU p)).isSome with
  |true=>exact OQ (.inl h)
  |false=>
   by_cases h2:AK4 p=7
   .rw[OQ (.inr h2),h2];rfl
   .rw[OA (fun hh=>hh.elim (fun h1=>by rw[h]at h1;cases h1) h2)];simp[h2]
 rw[F];obtain⟨a,c,rfl⟩:=AU hv;have CS:=fun W=>JA p W;clear C hv ha F;generalize (H7 ns (BU p)).isSome=hd at C'⊢;generalize BU p=dp at C' CS;generalize JH p=sp at CS;generalize AK4 p=ep at CS⊢;generalize ns.length=nl at C'⊢;go_enter func39,ntmps39;go_wp2_with fail;refine(CS _).mono ?_;rintro e w1 ⟨rfl,hb1⟩;go_wp2_with fail;obtain⟨i,C2⟩:=A8 C' _ hb1;refine C2.mono ?_;rintro e w2 ⟨rfl,hb2⟩;have hB:=AL hb1 hb2;clear CS C2 C' hb1 hb2
 cases hd with
 |true=>
  go_wp2_with fail;go_ret;exact⟨rfl,hB⟩
 |false=>
  go_wp2_with fail;go_ret;exact⟨rfl,hB⟩
theorem AT9(z:Int)(vn vs:Value)(n:Nd)(kids:Int)(ss:List Int)(w:World)(hv:BQ w vs ss)(hs:lK ss):
  Calls prog 40 #[.agg #[I0 z,vn,vs],BV3 n,I0 kids] w (R0 w (.bool (pd (ZX z n kids ss)))):=by
 have CO:∀W:World,B0 w W->Calls prog 55 #[.agg #[I0 z,vn,vs],I0 n.o] W (R0 W (.bool (decide (n.o∈ss)))):=fun W hW=>XY z vn vs ss n.o W (hv.next hW) hs;have C':=AA CO;have F:=AA (fun h:¬ZX z n kids ss=>(OA h).symm);have T:=AA (fun h:ZX z n kids ss=>(OQ h).symm);have SP:=AA (Iff.intro (fun h:ZX z n kids ss=>And.intro h.c0 (And.intro h.cm (And.intro h.cq (And.intro h.mz (And.intro h.qz (And.intro h.v0 (And.intro h.v1 (And.intro h.k0 (And.intro h.k1 (And.intro h.kids h.own)))))))))) (fun⟨a,b,c,d,e,f,g,h,i,j,k⟩=>(⟨a,b,c,d,e,f,g,h,i,j,k⟩:ZX z n kids ss)));generalize pd (ZX z n kids ss)=fin at F T⊢;obtain⟨a,c,rfl⟩:=AU hv;clear CO hv hs;unfold BV3;obtain⟨np,nd,nc,nm,nq,nv,nk,no,nn⟩:=n;simp only at C' SP⊢;go_enter func40,ntmps40;go_wp2_with fail;go_region;go_wp2_with fail
 all_goals try simp only[bne_iff_ne,ne_eq,bne_eq_false_iff_eq]at*
 all_goals (first
  |(go_ret;exact⟨EJ (A8 F (fun h=>by have:=(A8 SP).1 h;omega)),(((Below.refl _ _).alloc (Nat.le_refl _) _).alloc (by simp) _).drew⟩)
  |(go_ret;exact⟨EJ (A8 T ((A8 SP).2 (by omega))),(((Below.refl _ _).alloc (Nat.le_refl _) _).alloc (by simp) _).drew⟩)
  |(go_ret;exact⟨EJ ((beq_eq_false_iff_ne.2 (by assumption)).trans (A8 F (fun h=>by rcases((A8 SP).1 h).2.2.2.2.2.2.2.2.2.2 with h|h<;>omega))),(((Below.refl _ _).alloc (Nat.le_refl _) _).alloc (by simp) _).drew⟩)
  |skip)
 refine(A8 C' _ ((((Below.refl _ _).alloc (Nat.le_refl _) _).alloc (by simp) _).drew)).mono ?_;rintro e w1 ⟨rfl,hb1⟩;have hB:=AL ((((Below.refl w.heap.size w).alloc (Nat.le_refl _) _).alloc (by simp) _).drew) hb1;by_cases hmem:no∈ss
 .have G:=AA (A8 T ((A8 SP).2 ⟨by omega,by omega,by omega,by omega,by omega,by omega,by omega,by omega,by omega,by omega,.inr ⟨by omega,hmem⟩⟩));go_wp2_with fail;go_ret;exact⟨EJ (A8 G),hB⟩
 .have G:=AA (A8 F (fun h=>by have:=((A8 SP).1 h).2.2.2.2.2.2.2.2.2.2;exact this.elim (fun h=>by omega) (fun h=>hmem h.2)));go_wp2_with fail;go_ret;exact⟨EJ ((beq_eq_false_iff_ne.2 (by assumption)).trans (A8 G)),hB⟩
open Go.WideMaps Go.Maps
theorem CO2:Keyed prog 9:=string_keyed underlying9
theorem CC3(w:World):(zeroValue 3).run prog w=.ok (.int .i64 0) w:=by kernel_rfl
def jV(w:World)(B k:Nat)(ns:List Nd):Prop:=
 ∃D:DataW Unit,w.ownsMap prog 9 (plainElem prog 3) B k D/\IsMap D/\∀s:List UInt8,D.atKey (.string s) (.lit (.int .i64 0))=.lit (.int .i64 (JL ns s))
theorem AE6(ns:List Nd)(n:Nd)(s:List UInt8):JL (ns++[n]) s=JL ns s+(if BU n.p=s then 1 else 0):=by
 simp only[JL,List.countP_append,List.countP_cons,List.countP_nil,decide_eq_true_eq];omega
theorem BE5(ns:List Nd)(s:List UInt8):JL ns s<=ns.length:=List.countP_le_length
theorem xR{D:DataW Unit}(hm:IsMap D)(hD:∀s:List UInt8,D.atKey (.string s) (.lit (.int .i64 0))=.lit (.int .i64 (JL ns s)))(s:List UInt8):
  (D.put (.string (BU n.p)) (.lit (.int .i64 (JL ns (BU n.p)+1)))).atKey (.string s) (.lit (.int .i64 0))=.lit (.int .i64 (JL (ns++[n]) s)):=by
 rw[AE6];by_cases e:BU n.p=s
 .subst e;rw[atKey_put_same hm (show WideAt.IsKeyLit (.string _)from trivial)];simp
 .rw[atKey_put_other (by simpa using fun h=>e h.symm),hD,if_neg e];simp
theorem xU(b off cap:Nat)(ns:List Nd)(w:World)(hl:ns.length<=400)(hb:b<w.heap.size)(hr:BL w b off (AO ns)):
  Calls prog 38 #[.slice (some ⟨b,off,none⟩) ns.length cap] w fun e w'=>e=.returned (.map (some w.heap.size))/\jV w' w.heap.size 400 ns/\Below w.heap.size w w':=by
 have H:=AA hr;clear hr;have hmm:= @run_makeMap prog;go_enter func38,ntmps38;go_wp2_with fail
 go_loopg [12] ns.length (fun kx i wr=>∃k:Nat,i=.int .i64 k/\k<=ns.length/\ns.length-k<=kx/\Hid (jV wr w.heap.size k (ns.take k))/\Hid (Below w.heap.size w wr))
 case atStart=>exact⟨0,rfl,Nat.zero_le _,Nat.le_refl _,AA ⟨_,World.ownsMap_made _ _ _ _,isMap_empty,fun s=>by rfl⟩,AA (AB _ _)⟩
 case round=>
  obtain⟨k,rfl,hk,hg,hC,hB⟩:=hrel;by_cases hlt:k<ns.length
  .obtain⟨x,hx⟩:∃x,ns[k]?=some x:=⟨_,List.getElem?_eq_getElem hlt⟩;have q:=(A8 H).kept (A8 hB) hb;have d0:=q.n0 hx;have d1:=q.n1 hx;have d2:=q.n2 hx;have d3:=q.n3 hx;have d4:=q.n4 hx;have d5:=q.n5 hx;have d6:=q.n6 hx;have d7:=q.n7 hx;have d8:=q.n8 hx;have hbw:b<wr.heap.size:=Nat.lt_of_lt_of_le hb (A8 hB).size;have hts:ns.take (k+1)=ns.take k++[x]:=by rw[List.take_add_one,hx];rfl
   have HT:=AA hts;clear q hx hts;have CS:=fun W=>JA x.p W;have hdl:(BU x.p).length<=1000:=by
    cases hgb:DN x.p with
    |false=>rw[XG hgb];simp
    |true=>
     by_cases hr:x.p=[47]
     .rw[hr,QB];simp
     .obtain⟨a,c,he,hc⟩:=XE hgb;have:=IU hgb;rw[he]at hgb hr this⊢;rw[XF hgb hr hc,C91]
      split
      .simp
      .simp at this;omega
   have HDL:=AA hdl;clear hdl;obtain⟨D,ho,hm,hD⟩:=A8 hC;have HD:=AA hD;have HM:=AA hm;have hc1:=BE5 (ns.take k) (BU x.p);simp only[List.length_take]at hc1;have STEP:=AA (fun s=>xR (n:=x) hm hD s);obtain⟨cn,hcn⟩:∃cn,JL (ns.take k) (BU x.p)=cn:=⟨_,rfl⟩;rw[hcn]at hc1;have HCN:=AA hcn;clear hD hm hcn;generalize hdp:BU x.p=dp at CS HDL;have HDP:=AA hdp;clear hdp;generalize JH x.p=sp at CS;generalize AK4 x.p=ep at CS;go_wp2_with fail;refine(CS _).mono ?_;rintro e w1 ⟨rfl,hb1⟩;have hB1:Below w.heap.size w w1:=AL (A8 hB) (AY hb1);have ho1:w1.ownsMap prog 9 (plainElem prog 3) w.heap.size k D:=by
    have:Below wr.heap.size wr w1:=AY hb1;obtain⟨es,cl,h1,h2⟩:=ho;exact⟨es,cl,(this.block _ (Array.getElem?_eq_some_iff.1 h1).1).trans h1,h2⟩
   have hkey:keyOf prog 9 (.string ⟨dp.toArray⟩)=some (.string dp):=by
    have:=keyOf_string_mk (P:=prog) underlying9 (s:=⟨dp.toArray⟩) (by have:=A8 HDL;simp only[maxLen,ByteArray.size,List.size_toArray];omega);simpa using this
   obtain⟨c,hrun,hat,_⟩:=ho1.lookup_int CO2 underlying110 underlying3 (CC3 _) hkey;have hcc:c=(cn:Int):=by
    rw[A8 HD,<-A8 HDP,A8 HCN]at hat;simpa using hat.symm
   subst hcc;clear CS hat hb1 ho d0 d1 d2 d3 d4 d5 d6 d7 d8;go_wp2_with (first
    |(at_mapUpdate;refine wpList_mapUpdate_own _ rfl _ _ _ 110 rfl 9 3 CO2 underlying110 _ w.heap.size k _ rfl ho1 (by unfold maxLen;omega) _ _ _ rfl rfl hkey _ [] (plainElem_int underlying3 (WalkArith.wf_i64 (by omega))) ?_)
    |fail)
   intro w2 hown1 hgrow1;have B2:=hB1.grown hgrow1 hB1.size (fun j hj=>by cases hj;exact Nat.le_refl _);have C2:jV w2 w.heap.size (k+1) (ns.take (k+1)):=by
    refine⟨_,hown1,(A8 HM).put _ _,fun s=>?_⟩;rw[A8 HT,<-A8 STEP s,A8 HCN,A8 HDP]
   have HC2:=AA C2;have HB2:=AA B2;clear C2 B2 hown1 hgrow1 ho1 hrun hB1;go_wp2_with fail
   go_roundg (ns.length-(k+1))
   case measure=>omega
   case rel=>exact⟨k+1,rfl,by omega,Nat.le_refl _,HC2,HB2⟩
  .obtain rfl:k=ns.length:=by omega
   go_wp2_with fail;go_ret;obtain⟨D,ho,hm,hD⟩:=A8 hC;exact⟨rfl,⟨D,ho.mono (by omega),hm,fun s=>by rw[hD,List.take_length]⟩,A8 hB⟩
structure WfT(t:Tr):Prop where
 ses:∀s∈t.ss,-9223372036854775808<=s/\s<=9223372036854775807
 CC4:∀n∈t.ns,n.p.length<=140737488355328/\n.d.length<=140737488355328
def OkG(t:Tr)(k:Nat):Prop:=∀i,i<k->∀n,t.ns[i]?=some n->BD9 t.z t.ns t.ss n
theorem BE6(h:OkG t k)(hn:t.ns[k]?=some n)(hp:BD9 t.z t.ns t.ss n):OkG t (k+1):=by
 intro i hi m hm;by_cases e:i=k
 .subst e;rw[hn]at hm;cases hm;exact hp
 .exact h i (by omega) m hm
theorem BE7(hz:FU t.z=true)(ho:A40 t.ns)(hs:lK t.ss)(h:OkG t t.ns.length){r:Nd}(hr:t.ns[0]?=some r):QC t=decide (r.o=0):=by
 by_cases h0:r.o=0
 .rw[decide_eq_true h0,LW,UY];refine⟨hz,ho,hs,fun n hn=>?_,fun r' h=>by rw[hr]at h;cases h;exact h0⟩;obtain⟨i,hi,rfl⟩:=List.getElem_of_mem hn;exact h i hi _ (List.getElem?_eq_getElem hi)
 .rw[decide_eq_false h0,VZ,UY];exact fun g=>h0 (g.2.2.2.2 r hr)
theorem xW(h:¬ (FU t.z=true/\A40 t.ns/\lK t.ss)):QC t=false:=by
 rw[VZ,UY];exact fun g=>h ⟨g.1,g.2.1,g.2.2.1⟩
theorem AU0(hn:t.ns[k]?=some n)(h:¬BD9 t.z t.ns t.ss n):QC t=false:=by
 rw[VZ,UY];exact fun g=>h (g.2.2.2.1 n (List.mem_of_getElem? hn))
theorem fB(h:jV w B k ns)(hb:Below w.heap.size w w'):jV w' B k ns:=by
 obtain⟨D,⟨es,cl,h1,h2⟩,h3⟩:=h;exact⟨D,⟨es,cl,(hb.block _ (Array.getElem?_eq_some_iff.1 h1).1).trans h1,h2⟩,h3⟩
theorem AE7(t:Tr)(vn vs:Value)(w:World)(hn:BQ w vn t.ns)(hs:BQ w vs t.ss)(hw:WfT t)(hz:FU t.z=true)(ho:A40 t.ns)(ha:lK t.ss):
  Calls prog 17 #[.agg #[.int .i64 t.z,vn,vs]] w fun e w'=>e=.returned (.bool (QC t))/\Below w.heap.size w w':=by
 have hne:t.ns≠[]:=by obtain⟨r,rest,h,_⟩:=ho.root;rw[h];simp
 obtain⟨r0,hr0⟩:∃r0,t.ns[0]?=some r0:=by obtain⟨r,rest,h,_⟩:=ho.root;exact⟨r,by rw[h];rfl⟩
 have YES:=AA (fun h=>BE7 hz ho ha h hr0);have NO:=AA (fun n k h1 h2=>AU0 (t:=t) (n:=n) (k:=k) h1 h2);have CZ:=fun W=>EN t.z W;rw[hz]at CZ;have CO:=AA (fun W (h:Below w.heap.size w W)=>WH vn t.ns W (hn.next h));have CN:=AA (fun W (h:Below w.heap.size w W)=>ZY vs t.ss W (hs.next h) hw.ses);simp only[OQ ho]at CO;simp only[OQ ha]at CN;have CH:=AA (fun p W (h:Below w.heap.size w W)=>BE4 vn t.ns p W (hn.next h) ho);have CSD:=AA (fun n k W (h:Below w.heap.size w W)=>AT9 t.z vn vs n k t.ss W (hs.next h) ha);have hl:=ho.few;have SL:=AA hw.CC4;obtain⟨sa,sc,rfl⟩:=AU hs;obtain⟨b,off,cap,rfl,hb,hr,hle,hcm⟩:=J7 hn hne;have H:=AA hr;have CC:=AA (fun W (h:Below w.heap.size w W)=>xU b off cap t.ns W hl (Nat.lt_of_lt_of_le hb h.size) (hr.kept h hb));have HR0:=AA hr0;have hpos:0<t.ns.length:=List.length_pos_iff.2 hne;clear hn hs hw hz ho ha hne hr hr0;generalize QC t=fin at YES NO⊢;go_enter func17,ntmps17;go_wp2_with fail;refine(CZ _).mono ?_;rintro e w0 ⟨rfl,rfl⟩;have B0:=AB w (.cells #[.int .i64 t.z,.slice (some ⟨b,off,none⟩) t.ns.length cap,.slice sa t.ss.length sc] 40);generalize hW0:w.alloc (.cells #[.int .i64 t.z,.slice (some ⟨b,off,none⟩) t.ns.length cap,.slice sa t.ss.length sc] 40)=W0 at*;have b0:W0.cell? ⟨w.heap.size,0,none⟩=some (.int .i64 t.z):=by rw[<-hW0];simp
 have b1:W0.cell? ⟨w.heap.size,1,none⟩=some (.slice (some ⟨b,off,none⟩) t.ns.length cap):=by rw[<-hW0];simp
 have b2:W0.cell? ⟨w.heap.size,2,none⟩=some (.slice sa t.ss.length sc):=by rw[<-hW0];simp
 have hsz:w.heap.size<W0.heap.size:=by rw[<-hW0];simp
 have BX:=AA (fun W (h:Below W0.heap.size W0 W)=>(⟨(h.cell (p:=⟨w.heap.size,0,none⟩) hsz).trans b0,(h.cell (p:=⟨w.heap.size,1,none⟩) hsz).trans b1,(h.cell (p:=⟨w.heap.size,2,none⟩) hsz).trans b2⟩:W.cell? ⟨w.heap.size,0,none⟩=some (.int .i64 t.z)/\W.cell? ⟨w.heap.size,1,none⟩=some (.slice (some ⟨b,off,none⟩) t.ns.length cap)/\W.cell? ⟨w.heap.size,2,none⟩=some (.slice sa t.ss.length sc)));clear hW0;go_wp2_with fail;refine(A8 CO _ B0).mono ?_;rintro e w1 ⟨rfl,hb1⟩;obtain⟨c0,c1,c2⟩:=A8 BX w1 hb1;clear b0 b1 b2;go_wp2_with fail;refine(A8 CN _ (AL B0 hb1)).mono ?_;rintro e w2 ⟨rfl,rfl⟩;go_wp2_with fail;refine(A8 CC _ (AL B0 hb1)).mono ?_;rintro e w3 ⟨rfl,hC3,hb3⟩;have hb3':=AL hb1 hb3;obtain⟨d0,d1,d2⟩:=A8 BX w3 hb3';have HC:=AA hC3;clear c0 c1 c2 CO CN CC CZ hC3;go_wp2_with fail
 go_loopg [28] t.ns.length (fun kx i wr=>∃k:Nat,i=.int .i64 k/\k<=t.ns.length/\t.ns.length-k<=kx/\Hid (Below W0.heap.size W0 wr)/\Hid (jV wr w2.heap.size 400 t.ns)/\Hid (OkG t k))
 case atStart=>exact⟨0,rfl,Nat.zero_le _,Nat.le_refl _,AA hb3',HC,AA (fun i hi=>absurd hi (Nat.not_lt_zero _))⟩
 case round=>
  obtain⟨k,rfl,hk,hg,hB,hC,hO⟩:=hrel;obtain⟨x0,x1,x2⟩:=A8 BX wr (A8 hB);clear d0 d1 d2;by_cases hlt:k<t.ns.length
  .obtain⟨x,hx⟩:∃x,t.ns[k]?=some x:=⟨_,List.getElem?_eq_getElem hlt⟩;have hBw:Below w.heap.size w wr:=AL B0 (A8 hB);have q:=(A8 H).kept hBw hb;have d0:=q.n0 hx;have d1:=q.n1 hx;have d2:=q.n2 hx;have d3:=q.n3 hx;have d4:=q.n4 hx;have d5:=q.n5 hx;have d6:=q.n6 hx;have d7:=q.n7 hx;have d8:=q.n8 hx;have hbw:b<wr.heap.size:=Nat.lt_of_lt_of_le hb hBw.size;have hww:w.heap.size<wr.heap.size:=Nat.lt_of_lt_of_le hsz (A8 hB).size;have sl:=A8 SL x (List.mem_of_getElem? hx);have sld:=sl.2;have HX:=AA hx;have SLP:=AA sl.1;clear q hx sl;by_cases hd:x.d.length<=256
   .have HD:=AA hd
    cases hh:pd (BD8 t.ns x.p)with
    |false=>
     have G:=AA (A8 NO x k (A8 HX) (fun p=>by have:=OQ p.held;rw[hh]at this;cases this));go_wp2_with fail;refine(A8 CH x.p _ (AL hBw (AB _ _))).mono ?_;rintro e w4 ⟨rfl,hb4⟩;have hB4:=AL hBw (AY hb4);rw[hh];clear hb4 d0 d1 d2 d3 d4 d5 d6 d7 d8 x0 x1 x2;go_wp2_with fail;go_ret;exact⟨EJ (A8 G).symm,hB4⟩
    |true=>
     have HH:=AA hh;go_wp2_with fail;refine(A8 CH x.p _ (AL hBw (AB _ _))).mono ?_;rintro e w4 ⟨rfl,hb4⟩;have hB4:=AL hBw (AY hb4);have hB40:=AL (A8 hB) (AY hb4);rw[hh];clear hh;have r:=fun(j:Nat) (hj:j<9)=>hb4.cell (p:=⟨wr.heap.size,j,none⟩) (by simp);have y0:w4.cell? ⟨wr.heap.size,0,none⟩=some (.string ⟨x.p.toArray⟩):=by rw[r 0 (by omega)];simp
     have y2:w4.cell? ⟨wr.heap.size,2,none⟩=some (.int .i64 x.c):=by rw[r 2 (by omega)];simp
     have y3:w4.cell? ⟨wr.heap.size,3,none⟩=some (.int .i64 x.m):=by rw[r 3 (by omega)];simp
     have y4:w4.cell? ⟨wr.heap.size,4,none⟩=some (.int .i64 x.q):=by rw[r 4 (by omega)];simp
     have y5:w4.cell? ⟨wr.heap.size,5,none⟩=some (.int .i64 x.v):=by rw[r 5 (by omega)];simp
     have y6:w4.cell? ⟨wr.heap.size,6,none⟩=some (.int .i64 x.k):=by rw[r 6 (by omega)];simp
     have y7:w4.cell? ⟨wr.heap.size,7,none⟩=some (.int .i64 x.o):=by rw[r 7 (by omega)];simp
     have y8:w4.cell? ⟨wr.heap.size,8,none⟩=some (.int .i64 x.n):=by rw[r 8 (by omega)];simp
     obtain⟨z0,z1,z2⟩:=A8 BX w4 hB40;have hC4:=fB (A8 hC) (AY hb4);have HC4:=AA hC4;obtain⟨D,ho4,_,hD⟩:=hC4;have hkey:keyOf prog 9 (.string ⟨x.p.toArray⟩)=some (.string x.p):=by
      have:=keyOf_string_mk (P:=prog) underlying9 (s:=⟨x.p.toArray⟩) (by have:=A8 SLP;simp only[maxLen,ByteArray.size,List.size_toArray];omega);simpa using this
     obtain⟨c,hrun,hat,_⟩:=ho4.lookup_int CO2 underlying110 underlying3 (CC3 _) hkey;have hcc:c=(JL t.ns x.p:Int):=by
      rw[hD]at hat;simpa using hat.symm
     subst hcc;clear r hat hD ho4 hkey hb4 d0 d1 d2 d3 d4 d5 d6 d7 d8 x0 x1 x2;have CSX:=A8 CSD x (JL t.ns x.p) w4 hB4;unfold BV3 at CSX
     cases hs:pd (ZX t.z x (JL t.ns x.p) t.ss)with
     |false=>
      have G:=AA (A8 NO x k (A8 HX) (fun p=>by have:=OQ p.sound;rw[hs]at this;cases this));rw[hs]at CSX;clear hs;go_wp2_with fail;refine CSX.mono ?_;rintro e w5 ⟨rfl,hb5⟩;have hB5:=AL hB4 hb5;clear CSX hrun z0 z1 z2 y0 y2 y3 y4 y5 y6 y7 y8;go_wp2_with fail;go_ret;exact⟨EJ (A8 G).symm,hB5⟩
     |true=>
      have O2:=AA (BE6 (A8 hO) (A8 HX) ⟨A8 HD,BQ1.1 (A8 HH),BQ1.1 hs⟩);rw[hs]at CSX;clear hs;go_wp2_with fail;refine CSX.mono ?_;rintro e w5 ⟨rfl,hb5⟩;have HB5:=AA (AL hB40 hb5);have HC5:=AA (fB (A8 HC4) hb5);clear CSX hrun z0 z1 z2 y0 y2 y3 y4 y5 y6 y7 y8 hb5;go_wp2_with fail
      go_roundg (t.ns.length-(k+1))
      case measure=>omega
      case rel=>exact⟨k+1,rfl,by omega,Nat.le_refl _,HB5,HC5,O2⟩
   .have G:=AA (A8 NO x k (A8 HX) (fun p=>hd p.data));go_wp2_with fail;go_ret;exact⟨EJ (A8 G).symm,AL hBw (AB _ _)⟩
  .obtain rfl:k=t.ns.length:=by omega
   have hBw:Below w.heap.size w wr:=AL B0 (A8 hB);have d7:=((A8 H).kept hBw hb).n7 (A8 HR0);have G:=AA (A8 YES (A8 hO));simp only[Nat.zero_mul,Nat.add_zero]at d7;go_wp2_with fail;go_ret;exact⟨EJ ((A8 G).trans (by rfl)).symm,hBw⟩
theorem TS(t:Tr)(vn vs:Value)(w:World)(hn:BQ w vn t.ns)(hs:BQ w vs t.ss)(hw:WfT t):
  Calls prog 17 #[.agg #[I0 t.z,vn,vs]] w (R0 w (.bool (QC t))):=by
 by_cases hz:FU t.z=true
 .by_cases ho:A40 t.ns
  .by_cases ha:lK t.ss
   .exact AE7 t vn vs w hn hs hw hz ho ha
   .have F:=AA (xW (t:=t) (fun h=>ha h.2.2)).symm;have CZ:=fun W=>EN t.z W;rw[hz]at CZ;have CO:=AA (fun W (h:B0 w W)=>WH vn t.ns W (hn.next h));have CN:=AA (fun W (h:B0 w W)=>ZY vs t.ss W (hs.next h) hw.ses);simp only[OQ ho]at CO;simp only[OA ha]at CN;obtain⟨na,nc,rfl⟩:=AU hn;obtain⟨sa,sc,rfl⟩:=AU hs;clear hn hs hw hz ho ha;go_enter func17,ntmps17;go_wp2_with fail;refine(CZ _).mono ?_;rintro e w0 ⟨rfl,rfl⟩;go_wp2_with fail;refine(A8 CO _ (AB _ _)).mono ?_;rintro e w1 ⟨rfl,hb1⟩;have c2:w1.cell? ⟨w.heap.size,2,none⟩=some (.slice sa t.ss.length sc):=by rw[hb1.cell (p:=⟨w.heap.size,2,none⟩) (by simp)];simp
    have HB:=AA (AY hb1);clear hb1;go_wp2_with fail;refine(A8 CN _ (A8 HB)).mono ?_;rintro e w2 ⟨rfl,rfl⟩;go_wp2_with fail;go_ret;exact⟨EJ (A8 F),A8 HB⟩
  .have F:=AA (xW (t:=t) (fun h=>ho h.2.1)).symm;have CZ:=fun W=>EN t.z W;rw[hz]at CZ;have CO:=AA (fun W (h:B0 w W)=>WH vn t.ns W (hn.next h));simp only[OA ho]at CO;obtain⟨na,nc,rfl⟩:=AU hn;obtain⟨sa,sc,rfl⟩:=AU hs;clear hn hs hw hz ho;go_enter func17,ntmps17;go_wp2_with fail;refine(CZ _).mono ?_;rintro e w0 ⟨rfl,rfl⟩;go_wp2_with fail;refine(A8 CO _ (AB _ _)).mono ?_;rintro e w1 ⟨rfl,hb1⟩;have HB:=AA (AY hb1);clear hb1;go_wp2_with fail;go_ret;exact⟨EJ (A8 F),A8 HB⟩
 .have F:=AA (xW (t:=t) (fun h=>hz h.1)).symm;have hz':FU t.z=false:=by simpa using hz
  have CZ:=fun W=>EN t.z W;rw[hz']at CZ;obtain⟨na,nc,rfl⟩:=AU hn;obtain⟨sa,sc,rfl⟩:=AU hs;clear hn hs hw hz hz';go_enter func17,ntmps17;go_wp2_with fail;refine(CZ _).mono ?_;rintro e w0 ⟨rfl,rfl⟩;go_wp2_with fail;go_ret;exact⟨EJ (A8 F),AB _ _⟩
theorem AU1(h:QC t=false):SI t x=3:=by rw[SI,if_pos h]
theorem BX6(h:QC t=true)(h1:gdE x≠0):SI t x=gdE x:=by rw[SI,if_neg (by simp[h]),if_pos h1]
theorem BE8(h:QC t=true)(h1:gdE x=0):SI t x=(if x.z<=t.z then 13 else if x.o=1/\x.s∈t.ss then 8 else if x.o≠1/\x.s∉t.ss then 12 else 0):=by
 rw[SI,if_neg (by simp[h]),if_neg (by omega)]
theorem xX(t:Tr)(vn vs:Value)(x:AQ)(w:World)(hn:BQ w vn t.ns)(hs:BQ w vs t.ss)(hw:WfT t)(hg:QC t=false):
  Calls prog 32 #[.agg #[I0 t.z,vn,vs],DW x] w (R0 w (I0 3)):=by
 have CG:=AA (fun W (hW:B0 w W)=>TS t vn vs W (hn.next hW) (hs.next hW) hw);rw[hg]at CG;obtain⟨na,nc,rfl⟩:=AU hn;obtain⟨sa,sc,rfl⟩:=AU hs;clear hn hs hw hg;obtain⟨xz,xo,xs,xp,xd,xv,xw⟩:=x;unfold DW;go_enter func32,ntmps32;go_wp2_with fail;refine(A8 CG _ (AL (AB _ _) (AB _ _))).mono ?_;rintro e w1 ⟨rfl,hb1⟩;have HB:=AA (AL (AL (AB _ _) (AB _ _)) hb1);clear hb1;go_wp2_with fail;go_ret;exact⟨rfl,A8 HB⟩
theorem AU2(t:Tr)(vn vs:Value)(x:AQ)(w:World)(hn:BQ w vn t.ns)(hs:BQ w vs t.ss)(hw:WfT t)(hd:x.d.length<=140737488355328)(hg:QC t=true)(hx:gdE x≠0):
  Calls prog 32 #[.agg #[I0 t.z,vn,vs],DW x] w (R0 w (I0 (gdE x))):=by
 have CG:=AA (fun W (hW:B0 w W)=>TS t vn vs W (hn.next hW) (hs.next hW) hw);rw[hg]at CG;have CW:=AA (fun W=>TP x W hd);obtain⟨na,nc,rfl⟩:=AU hn;obtain⟨sa,sc,rfl⟩:=AU hs;have hxb:(gdE x !=0)=true:=by simpa using hx
 clear hn hs hw hg hx;have KX:∀W:World,Below (w.alloc (.cells #[I0 t.z,.slice na t.ns.length nc,.slice sa t.ss.length sc] 40)).heap.size (w.alloc (.cells #[I0 t.z,.slice na t.ns.length nc,.slice sa t.ss.length sc] 40)) W->B0 w W:=fun W h=>AY h;have HKX:=AA KX;generalize gdE x=E at hxb CW⊢;obtain⟨xz,xo,xs,xp,xd,xv,xw⟩:=x;unfold DW at CW⊢;simp only at CW⊢;have KT:∀w1,Below ((w.alloc (.cells #[I0 t.z,.slice na t.ns.length nc,.slice sa t.ss.length sc] 40)).alloc (.cells #[I0 xz,I0 xo,I0 xs,S0 xp,S0 xd,I0 xv,I0 xw] 49)).heap.size ((w.alloc (.cells #[I0 t.z,.slice na t.ns.length nc,.slice sa t.ss.length sc] 40)).alloc (.cells #[I0 xz,I0 xo,I0 xs,S0 xp,S0 xd,I0 xv,I0 xw] 49)) w1->TAt w1 (w.heap.size+1) ⟨xz,xo,xs,xp,xd,xv,xw⟩:=fun w1 h1=>by
  have:=(TAt.new (w.alloc (.cells #[I0 t.z,.slice na t.ns.length nc,.slice sa t.ss.length sc] 40)) ⟨xz,xo,xs,xp,xd,xv,xw⟩).next h1;simpa using this
 have HKT:=AA KT;clear KX KT;go_enter func32,ntmps32;go_wp2_with fail;refine(A8 CG _ (AL (AB _ _) (AB _ _))).mono ?_;rintro e w1 ⟨rfl,hb1⟩;have HB:=AA (AL (AL (AB _ _) (AB _ _)) hb1);have tx:=A8 HKT w1 hb1;have y0:=tx.c0;have y1:=tx.c1;have y2:=tx.c2;have y3:=tx.c3;have y4:=tx.c4;have y5:=tx.c5;have y6:=tx.c6;clear hb1 tx;go_wp2_with fail;refine(A8 CW _).mono ?_;rintro e w2 ⟨rfl,hb2⟩;have HB2:=AA (AL (A8 HB) hb2);clear hb2;go_wp2_with fail;go_ret;exact⟨rfl,A8 HB2⟩
theorem AE8(t:Tr)(vn vs:Value)(x:AQ)(w:World)(hn:BQ w vn t.ns)(hs:BQ w vs t.ss)(hw:WfT t)(hd:x.d.length<=140737488355328)(hg:QC t=true)(hx:gdE x=0):
  Calls prog 32 #[.agg #[I0 t.z,vn,vs],DW x] w (R0 w (I0 (SI t x))):=by
 have CG:=AA (fun W (hW:B0 w W)=>TS t vn vs W (hn.next hW) (hs.next hW) hw);have CO:=fun W (hW:B0 w W)=>XY t.z vn vs t.ss x.s W (hs.next hW) (LW.1 hg).ses;rw[hg]at CG;have CW:=AA (fun W=>TP x W hd);rw[hx]at CW;rw[BE8 hg hx];generalize hr:(if x.z<=t.z then(13:Int)else if x.o=1/\x.s∈t.ss then 8 else if x.o≠1/\x.s∉t.ss then 12 else 0)=r;have q:(decide (x.z<=t.z)=true/\r=13)\/(decide (x.z<=t.z)=false/\(((x.o==1)=true/\(x.o !=1)=false/\((decide (x.s∈t.ss)=true/\r=8)\/(decide (x.s∈t.ss)=false/\r=0)))\/((x.o==1)=false/\(x.o !=1)=true/\((decide (x.s∈t.ss)=true/\r=0)\/(decide (x.s∈t.ss)=false/\r=12))))):=by
  subst hr;by_cases h1:x.z<=t.z<;>by_cases h2:x.o=1<;>by_cases h3:x.s∈t.ss<;>simp[h1,h2,h3]
 generalize decide (x.s∈t.ss)=op at CO q;clear hr;rcases q with⟨q1,rfl⟩|⟨q1,⟨q2,q3,⟨rfl,rfl⟩|⟨rfl,rfl⟩⟩|⟨q2,q3,⟨rfl,rfl⟩|⟨rfl,rfl⟩⟩⟩
 all_goals
  have HCO:=AA CO;obtain⟨na,nc,rfl⟩:=AU hn;obtain⟨sa,sc,rfl⟩:=AU hs;clear hn hs hw hg hx CO;obtain⟨xz,xo,xs,xp,xd,xv,xw⟩:=x;unfold DW at CW⊢;simp only at*;have KT:∀w1,Below ((w.alloc (.cells #[I0 t.z,.slice na t.ns.length nc,.slice sa t.ss.length sc] 40)).alloc (.cells #[I0 xz,I0 xo,I0 xs,S0 xp,S0 xd,I0 xv,I0 xw] 49)).heap.size ((w.alloc (.cells #[I0 t.z,.slice na t.ns.length nc,.slice sa t.ss.length sc] 40)).alloc (.cells #[I0 xz,I0 xo,I0 xs,S0 xp,S0 xd,I0 xv,I0 xw] 49)) w1->TAt w1 (w.heap.size+1) ⟨xz,xo,xs,xp,xd,xv,xw⟩/\w1.heap[w.heap.size]?=some (.cells #[I0 t.z,.slice na t.ns.length nc,.slice sa t.ss.length sc] 40 (0,0)):=fun w1 h1=>by
   have:=(TAt.new (w.alloc (.cells #[I0 t.z,.slice na t.ns.length nc,.slice sa t.ss.length sc] 40)) ⟨xz,xo,xs,xp,xd,xv,xw⟩).next h1;refine⟨by simpa using this,?_⟩;rw[h1.block _ (by simp;omega)];rw[(AB (w.alloc (.cells #[I0 t.z,.slice na t.ns.length nc,.slice sa t.ss.length sc] 40)) (.cells #[I0 xz,I0 xo,I0 xs,S0 xp,S0 xd,I0 xv,I0 xw] 49)).block _ (by simp)];exact heap_alloc_new w _
  have HKT:=AA KT;clear KT;go_enter func32,ntmps32;go_wp2_with fail;refine(A8 CG _ (AL (AB _ _) (AB _ _))).mono ?_;rintro e w1 ⟨rfl,hb1⟩;have HB:=AA (AL (AL (AB _ _) (AB _ _)) hb1);obtain⟨tx,tt⟩:=A8 HKT w1 hb1;have y0:=tx.c0;have y1:=tx.c1;have y2:=tx.c2;have y3:=tx.c3;have y4:=tx.c4;have y5:=tx.c5;have y6:=tx.c6;have HTX:=AA tx;have HTT:=AA tt;clear hb1 tx tt;go_wp2_with fail;refine(A8 CW _).mono ?_;rintro e w2 ⟨rfl,hb2⟩;have HB2:=AA (AL (A8 HB) hb2);have tx2:=(A8 HTX).next hb2;have tt2:=(hb2.block _ (Array.getElem?_eq_some_iff.1 (A8 HTT)).1).trans (A8 HTT);have u0:=tx2.c0;have u1:=tx2.c1;have u2:=tx2.c2;have v0:w2.cell? ⟨w.heap.size,0,none⟩=some (I0 t.z):=by simp[World.cell?,tt2]
  have v1:w2.cell? ⟨w.heap.size,1,none⟩=some (.slice na t.ns.length nc):=by simp[World.cell?,tt2]
  have v2:w2.cell? ⟨w.heap.size,2,none⟩=some (.slice sa t.ss.length sc):=by simp[World.cell?,tt2]
  have xP:=AA tx2;have HTT2:=AA tt2;clear hb2 y0 y1 y2 y3 y4 y5 y6 tx2 tt2;go_wp2_with fail;refine(A8 HCO _ (A8 HB2)).mono ?_;rintro e w3 ⟨rfl,hb3⟩;have HB3:=AA (AL (A8 HB2) hb3);have tx3:=(A8 xP).next hb3;have tt3:=(hb3.block _ (Array.getElem?_eq_some_iff.1 (A8 HTT2)).1).trans (A8 HTT2);have z0:=tx3.c0;have z1:=tx3.c1;have r0:w3.cell? ⟨w.heap.size,0,none⟩=some (I0 t.z):=by simp[World.cell?,tt3]
  clear hb3 u0 u1 u2 v0 v1 v2 tx3 tt3;go_wp2_with fail;go_ret;exact⟨rfl,A8 HB3⟩
theorem rO(t:Tr)(vn vs:Value)(x:AQ)(w:World)(hn:BQ w vn t.ns)(hs:BQ w vs t.ss)(hw:WfT t)(hd:x.d.length<=140737488355328):
  Calls prog 32 #[.agg #[I0 t.z,vn,vs],DW x] w (R0 w (I0 (SI t x))):=by
 cases hg:QC t with
 |false=>rw[AU1 hg];exact xX t vn vs x w hn hs hw hg
 |true=>
  by_cases hx:gdE x=0
  .exact AE8 t vn vs x w hn hs hw hd hg hx
  .rw[BX6 hg hx];exact AU2 t vn vs x w hn hs hw hd hg hx
theorem BD.raise{α:Type}[Lay α]{v:Value}{xs:List α}(h:BD W 0 v xs)(hb:∀k,v.ownBlock=some k->B<=k):BD W B v xs:=by
 rcases h with h|⟨g,cap,rfl,_,h⟩
 .exact .inl h
 .exact .inr ⟨g,cap,rfl,hb g rfl,h⟩
def VK(w:World)(t:Tr)(x:AQ)(e:Ending)(w':World):Prop:=
 ∃vn vs ve,e=.returned (.tuple #[.agg #[I0 (aX t x).z,vn,vs],ve,I0 (UL t x)])/\BD w' w.heap.size vn (aX t x).ns/\BD w' w.heap.size vs (aX t x).ss/\BD w' w.heap.size ve (VH t x)/\B0 w w'
theorem A42(hE:UL t x=E)(h0:E≠0)(he:e=.returned (.tuple #[.agg #[I0 0,N0,N0],N0,I0 E]))(hb:B0 w w'):VK w t x e w':=by
 have h1:aX t x=tr0:=by rw[aX,if_neg (by omega)]
 have h2:VH t x=[]:=by rw[VH,if_neg (by omega)]
 refine⟨N0,N0,N0,?_,?_,?_,?_,hb⟩
 .rw[hE,h1];exact he
 .rw[h1];exact .inl ⟨rfl,rfl⟩
 .rw[h1];exact .inl ⟨rfl,rfl⟩
 .rw[h2];exact .inl ⟨rfl,rfl⟩
structure uX(W:World)(q:Nat)(z:Int)(vn vs:Value)(x:AQ):Prop where
 t:W.heap[q]?=some (.cells #[I0 z,vn,vs] 40 (0,0))
 x:TAt W (q+1) x
 r:W.heap[q+2]?=some (.cells #[I0 0,N0,N0] 40 (0,0))
theorem uX.new(w:World)(z:Int)(vn vs:Value)(x:AQ):uX (((w.alloc (.cells #[I0 z,vn,vs] 40)).alloc (.cells #[I0 x.z,I0 x.o,I0 x.s,S0 x.p,S0 x.d,I0 x.v,I0 x.w] 49)).alloc (.cells #[I0 0,N0,N0] 40)) w.heap.size z vn vs x:=by
 refine⟨?_,?_,?_⟩
 .rw[(AB _ _).block _ (by simp;omega),(AB _ _).block _ (by simp)];exact heap_alloc_new w _
 .have h:=(TAt.new (w.alloc (.cells #[I0 z,vn,vs] 40)) x).next (AB _ (.cells #[I0 0,N0,N0] 40));simpa using h
 .have h:=heap_alloc_new ((w.alloc (.cells #[I0 z,vn,vs] 40)).alloc (.cells #[I0 x.z,I0 x.o,I0 x.s,S0 x.p,S0 x.d,I0 x.v,I0 x.w] 49)) (.cells #[I0 0,N0,N0] 40);rw[show ((w.alloc (.cells #[I0 z,vn,vs] 40)).alloc (.cells #[I0 x.z,I0 x.o,I0 x.s,S0 x.p,S0 x.d,I0 x.v,I0 x.w] 49)).heap.size=w.heap.size+2 by simp]at h;exact h
theorem uX.lt(h:uX W q z vn vs x):q+2<W.heap.size:=(Array.getElem?_eq_some_iff.1 h.r).1
theorem uX.touch(h:uX W q z vn vs x)(ht:Touch F W V)(hf:∀k,F k->q+3<=k):uX V q z vn vs x:=by
 have:=h.lt;have n0:∀k,k<q+3->¬F k:=fun k hk hF=>by have:=hf k hF;omega
 exact⟨(ht.block _ (by omega) (n0 _ (by omega))).trans h.t,(ht.block _ (by omega) (n0 _ (by omega))).trans h.x,(ht.block _ (by omega) (n0 _ (by omega))).trans h.r⟩
theorem uX.next(h:uX W q z vn vs x)(hb:B0 W V):uX V q z vn vs x:=h.touch (F:=fun _=>False) (Touch.of_below hb) (fun _ hF=>hF.elim)
theorem uX.cells(h:uX W q z vn vs x):W.cell? ⟨q,0,none⟩=some (I0 z)/\W.cell? ⟨q,1,none⟩=some vn/\W.cell? ⟨q,2,none⟩=some vs/\W.cell? ⟨q+2,0,none⟩=some (I0 0)/\W.cell? ⟨q+2,1,none⟩=some (N0)/\W.cell? ⟨q+2,2,none⟩=some (N0)/\W.frozen? ⟨q+2,0,none⟩=false/\W.frozen? ⟨q+2,1,none⟩=false/\W.frozen? ⟨q+2,2,none⟩=false:=by
 have h1:=h.t;have h2:=h.r;refine⟨?_,?_,?_,?_,?_,?_,?_,?_,?_⟩<;>simp[World.cell?,World.frozen?,h1,h2]
theorem AU3(t:Tr)(vn vs:Value)(x:AQ)(w:World)(hn:BQ w vn t.ns)(hs:BQ w vs t.ss)(hw:WfT t)(hd:x.d.length<=140737488355328)(ha:SI t x≠0):
  Calls prog 15 #[.agg #[I0 t.z,vn,vs],DW x] w (VK w t x):=by
 have CA:=AA (fun W (hW:B0 w W)=>rO t vn vs x W (hn.next hW) (hs.next hW) hw hd);have FIN:=AA (fun w' e h hb=>A42 (w:=w) (w':=w') (e:=e) (BD7 ha) ha h hb);have hab:(SI t x !=0)=true:=by simpa using ha
 obtain⟨na,nc,rfl⟩:=AU hn;obtain⟨sa,sc,rfl⟩:=AU hs;clear hn hs hw ha;generalize SI t x=E at hab CA FIN;generalize hQ:VK w t x=Q at FIN⊢;clear hQ;obtain⟨xz,xo,xs,xp,xd,xv,xw⟩:=x;unfold DW at*;simp only at*;have KB:∀W,Below (((w.alloc (.cells #[I0 t.z,.slice na t.ns.length nc,.slice sa t.ss.length sc] 40)).alloc (.cells #[I0 xz,I0 xo,I0 xs,S0 xp,S0 xd,I0 xv,I0 xw] 49)).alloc (.cells #[I0 0,N0,N0] 40)).heap.size (((w.alloc (.cells #[I0 t.z,.slice na t.ns.length nc,.slice sa t.ss.length sc] 40)).alloc (.cells #[I0 xz,I0 xo,I0 xs,S0 xp,S0 xd,I0 xv,I0 xw] 49)).alloc (.cells #[I0 0,N0,N0] 40)) W->uX W w.heap.size t.z (.slice na t.ns.length nc) (.slice sa t.ss.length sc) ⟨xz,xo,xs,xp,xd,xv,xw⟩/\B0 w W:=fun W h=>⟨(uX.new w _ _ _ ⟨xz,xo,xs,xp,xd,xv,xw⟩).next h,AY (AY (AY h))⟩;have HKB:=AA KB;clear KB;go_enter func15,ntmps15;go_wp2_with fail;refine(A8 CA _ (AL (AL (AB _ _) (AB _ _)) (AB _ _))).mono ?_;rintro e w1 ⟨rfl,hb1⟩;obtain⟨b1,B1⟩:=A8 HKB w1 hb1;obtain⟨k0,k1,k2,k3,k4,k5,k6,k7,k8⟩:=b1.cells;have j0:=b1.x.c0;have j1:=b1.x.c1;have j2:=b1.x.c2;have j3:=b1.x.c3;have j4:=b1.x.c4;have j5:=b1.x.c5;have j6:=b1.x.c6;have HB1:=AA B1;have HX1:=AA b1;clear hb1 b1 B1;go_wp2_with fail;exact bodyPost_ret (v:=.tuple #[.agg #[I0 0,N0,N0],N0,I0 E]) (by simp[results,results15,go_sem,k3,k4,k5]) rfl (A8 FIN _ _ rfl ((((A8 HB1).setCell (by show w.heap.size<=w.heap.size+1+1;omega) _).setCell (by show w.heap.size<=w.heap.size+1+1;omega) _).setCell (by show w.heap.size<=w.heap.size+1+1;omega) _))
theorem AU4{ve:Value}{v0 v1 v2:Value}(ha:UL t x=0)(hg:Grow W (fun k=>B<=k) b x.z vn vs ve (aJ t x) (lM t x) (lN t x))(hq:w.heap.size+3<=B)(hb:B0 w W):
  VK w t x (.returned (.tuple #[.agg #[I0 x.z,vn,vs],ve,I0 0])) (((W.setCell ⟨w.heap.size+2,0,none⟩ v0).setCell ⟨w.heap.size+2,1,none⟩ v1).setCell ⟨w.heap.size+2,2,none⟩ v2).drew:=by
 have h1:aX t x=⟨x.z,aJ t x,lM t x⟩:=by rw[aX,if_pos ha]
 have h2:VH t x=lN t x:=by rw[VH,if_pos ha]
 have nn:∀k,vn.ownBlock=some k->w.heap.size+3<=k:=fun k hk=>Nat.le_trans hq (hg.fn k hk).1;have ns:∀k,vs.ownBlock=some k->w.heap.size+3<=k:=fun k hk=>Nat.le_trans hq (hg.fs k hk).1;have ne:∀k,ve.ownBlock=some k->w.heap.size+3<=k:=fun k hk=>Nat.le_trans hq (hg.fe k hk).1;have no:∀ {v:Value},(∀k,v.ownBlock=some k->w.heap.size+3<=k)->v.ownBlock≠some (w.heap.size+2):=fun h e=>by have:=h _ e;omega
 refine⟨vn,vs,ve,by rw[h1,ha],?_,?_,?_,?_⟩
 .rw[h1];exact(((hg.n.raise (fun k hk=>by have:=nn k hk;omega)).other (no nn) _).other (no nn) _).other (no nn) _|>.next (Below.refl _ _).drew
 .rw[h1];exact(((hg.s.raise (fun k hk=>by have:=ns k hk;omega)).other (no ns) _).other (no ns) _).other (no ns) _|>.next (Below.refl _ _).drew
 .rw[h2];exact(((hg.e.raise (fun k hk=>by have:=ne k hk;omega)).other (no ne) _).other (no ne) _).other (no ne) _|>.next (Below.refl _ _).drew
 .exact(((hb.setCell (by simp) _).setCell (by simp) _).setCell (by simp) _).drew
theorem AU5(t:Tr)(vn vs:Value)(x:AQ)(w:World)(hn:BQ w vn t.ns)(hs:BQ w vs t.ss)(hw:WfT t)(hd:x.d.length<=140737488355328)(ha:SI t x=0):
  Calls prog 15 #[.agg #[I0 t.z,vn,vs],DW x] w (VK w t x):=by
 have CA:=AA (fun W (hW:B0 w W)=>rO t vn vs x W (hn.next hW) (hs.next hW) hw hd);rw[ha]at CA;obtain⟨g,_⟩:=MI ha;have few:=g.nod.few;have sl:=NZ g.ses;have CB:=AA (fun W (hW:B0 w W)=>AS8 t vn vs x.z W (hn.next hW) (hs.next hW) few sl hw.CC4);have CC:=AA (fun(F:Nat->Prop) b vn' vs' W (hG:Grow W F b x.z vn' vs' (N0) t.ns t.ss []) hF=>AE5 F b t vn' vs' x W hG hF ha);have hap:=A39 ha;have FNO:=AA (fun w' e (h0:jU t x≠0) h hb=>A42 (w:=w) (w':=w') (e:=e) hap h0 h hb);have FYE:=AA (fun(W:World) (B b:Nat) (vn vs ve v0 v1 v2:Value) (h0:jU t x=0) hg hq hb=>AU4 (w:=w) (W:=W) (t:=t) (x:=x) (B:=B) (b:=b) (vn:=vn) (vs:=vs) (ve:=ve) (v0:=v0) (v1:=v1) (v2:=v2) (hap.trans h0) hg hq hb);obtain⟨na,nc,rfl⟩:=AU hn;obtain⟨sa,sc,rfl⟩:=AU hs;clear hn hs hw ha hap g few sl;generalize hQ:VK w t x=Q at FNO FYE⊢;clear hQ;obtain⟨E,hE⟩:∃E,jU t x=E:=⟨_,rfl⟩;unfold Chg at CC;rw[hE]at CC FNO FYE;clear hE;obtain⟨xz,xo,xs,xp,xd,xv,xw⟩:=x;unfold DW at*;simp only at*;have KB:∀W,Below (((w.alloc (.cells #[I0 t.z,.slice na t.ns.length nc,.slice sa t.ss.length sc] 40)).alloc (.cells #[I0 xz,I0 xo,I0 xs,S0 xp,S0 xd,I0 xv,I0 xw] 49)).alloc (.cells #[I0 0,N0,N0] 40)).heap.size (((w.alloc (.cells #[I0 t.z,.slice na t.ns.length nc,.slice sa t.ss.length sc] 40)).alloc (.cells #[I0 xz,I0 xo,I0 xs,S0 xp,S0 xd,I0 xv,I0 xw] 49)).alloc (.cells #[I0 0,N0,N0] 40)) W->uX W w.heap.size t.z (.slice na t.ns.length nc) (.slice sa t.ss.length sc) ⟨xz,xo,xs,xp,xd,xv,xw⟩/\B0 w W:=fun W h=>⟨(uX.new w _ _ _ ⟨xz,xo,xs,xp,xd,xv,xw⟩).next h,AY (AY (AY h))⟩;have HKB:=AA KB;clear KB;go_enter func15,ntmps15;go_wp2_with fail;refine(A8 CA _ (AL (AL (AB _ _) (AB _ _)) (AB _ _))).mono ?_;rintro e w1 ⟨rfl,hb1⟩;obtain⟨b1,B1⟩:=A8 HKB w1 hb1;obtain⟨k0,k1,k2,k3,k4,k5,k6,k7,k8⟩:=b1.cells;have j0:=b1.x.c0;have j1:=b1.x.c1;have j2:=b1.x.c2;have j3:=b1.x.c3;have j4:=b1.x.c4;have j5:=b1.x.c5;have j6:=b1.x.c6;have HB1:=AA B1;have HX1:=AA b1;clear hb1 b1 B1;go_wp2_with fail;refine(A8 CB _ (A8 HB1)).mono ?_;rintro e w2 ⟨b,vn2,vs2,rfl,g2,hb2⟩;have b2:=(A8 HX1).next hb2;obtain⟨m0,m1,m2,m3,m4,m5,m6,m7,m8⟩:=b2.cells;have i0:=b2.x.c0;have i1:=b2.x.c1;have i2:=b2.x.c2;have i3:=b2.x.c3;have i4:=b2.x.c4;have i5:=b2.x.c5;have i6:=b2.x.c6;have HB2:=AA (AL (A8 HB1) hb2);have HX2:=AA b2;have HG2:=AA g2;have hsz2:=hb2.size;clear hb2 g2 b2 k0 k1 k2 k3 k4 k5 k6 k7 k8 j0 j1 j2 j3 j4 j5 j6 CB CA;go_wp2_with fail;refine(A8 CC _ _ _ _ _ (A8 HG2) (fun k hk=>Nat.le_trans hsz2 hk)).mono ?_;rintro e w3 ⟨rfl,t3,g3⟩;have q1:=(A8 HX1).lt;have b3:=(A8 HX2).touch t3 (fun k hk=>by omega);obtain⟨n0,n1,n2,n3,n4,n5,n6,n7,n8⟩:=b3.cells;have B3:B0 w w3:=(A8 HB2).trans (t3.below (by omega) (fun k hk=>by omega));have HB3:=AA B3;clear CC b3 B3 t3 m0 m1 m2 m3 m4 m5 m6 m7 m8 i0 i1 i2 i3 i4 i5 i6;by_cases h0:E=0
 .obtain⟨vn3,vs3,ve3,g3⟩:=g3 h0;have d0:=g3.c0;have d1:=g3.c1;have d2:=g3.c2;have d3:=g3.c3;obtain⟨na3,nc3,hn3,_⟩:=g3.n.slice;obtain⟨sa3,sc3,hs3,_⟩:=g3.s.slice;obtain⟨ea3,ec3,he3,_⟩:=g3.e.slice;have HG3:=AA g3;have hbl:=g3.lt;have hbq:w1.heap.size<=b:=g3.fb;have hne:b≠w.heap.size+2:=by omega
  have FY:=AA (fun(v0 v1 v2:Value)=>A8 FYE w3 w1.heap.size b vn3 vs3 ve3 v0 v1 v2 h0 (A8 HG3) (by omega) (A8 HB3));subst hn3 hs3 he3 h0;clear g3 FYE FNO HG3;go_wp2_with fail;go_region;go_wp2_with fail;exact bodyPost_ret (v:=.tuple #[.agg #[I0 xz,.slice na3 (aJ t ⟨xz,xo,xs,xp,xd,xv,xw⟩).length nc3,.slice sa3 (lM t ⟨xz,xo,xs,xp,xd,xv,xw⟩).length sc3],.slice ea3 (lN t ⟨xz,xo,xs,xp,xd,xv,xw⟩).length ec3,I0 0]) (by simp[results,results15,go_sem,n3,n4,n5]) rfl (A8 FY _ _ _)
 .have h0b:(E !=0)=true:=by simpa using h0
  have FN:=AA (fun w' e h hb=>A8 FNO w' e h0 h hb);clear g3 FYE FNO h0;go_wp2_with fail;exact bodyPost_ret (v:=.tuple #[.agg #[I0 0,N0,N0],N0,I0 E]) (by simp[results,results15,go_sem,n3,n4,n5]) rfl (A8 FN _ _ rfl ((((A8 HB3).setCell (by show w.heap.size<=w.heap.size+1+1;omega) _).setCell (by show w.heap.size<=w.heap.size+1+1;omega) _).setCell (by show w.heap.size<=w.heap.size+1+1;omega) _))
theorem fC(t:Tr)(vn vs:Value)(x:AQ)(w:World)(hn:BQ w vn t.ns)(hs:BQ w vs t.ss)(hw:WfT t)(hd:x.d.length<=140737488355328):
  Calls prog 15 #[.agg #[I0 t.z,vn,vs],DW x] w (VK w t x):=by
 by_cases ha:SI t x=0
 .exact AU5 t vn vs x w hn hs hw hd ha
 .exact AU3 t vn vs x w hn hs hw hd ha
def AU6(w:World)(t:Tr)(e:Ending)(w':World):Prop:=
 ∃vn vs,e=.returned (.agg #[I0 t.z,vn,vs])/\BD w' w.heap.size vn t.ns/\BD w' w.heap.size vs t.ss/\B0 w w'
theorem BE9(w:World):BD (w.alloc (.cells #[.string ⟨#[47]⟩,.string ⟨#[]⟩,I0 0,I0 0,I0 0,I0 0,I0 0,I0 0,I0 0] 96)) w.heap.size (.slice (some ⟨w.heap.size,0,none⟩) 1 1) [vW]:=
 .inr ⟨w.heap.size,1,rfl,Nat.le_refl _,[],by rw[heap_alloc_new];rfl,by decide,by decide,by decide⟩
theorem mY(w:World):Calls prog 14 #[] w (AU6 w JK):=by
 have H:Hid (AU6 w JK (.returned (.agg #[I0 0,.slice (some ⟨w.heap.size+1,0,none⟩) 1 1,N0])) ((w.alloc (.cells #[I0 0,.slice (some ⟨w.heap.size+1,0,none⟩) 1 1,N0] 40)).alloc (.cells #[.string ⟨#[47]⟩,.string ⟨#[]⟩,I0 0,I0 0,I0 0,I0 0,I0 0,I0 0,I0 0] 96))):=by
  have h:=BE9 (w.alloc (.cells #[I0 0,.slice (some ⟨w.heap.size+1,0,none⟩) 1 1,N0] 40));rw[show (w.alloc (.cells #[I0 0,.slice (some ⟨w.heap.size+1,0,none⟩) 1 1,N0] 40)).heap.size=w.heap.size+1 by simp]at h;exact⟨_,_,rfl,h.lower (by omega),.inl ⟨rfl,rfl⟩,AL (AB _ _) (AB _ _)⟩
 go_enter func14,ntmps14;go_wp2_with fail;exact bodyPost_ret (v:=.agg #[I0 0,.slice (some ⟨w.heap.size+1,0,none⟩) 1 1,N0]) (by simp[results,results14,go_sem]) rfl (A8 H)
structure GB(w W:World)(z:Int)(vn vs:Value):Prop where
 t:W.heap[w.heap.size]?=some (.cells #[I0 z,vn,vs] 40 (0,0))
 r:W.heap[w.heap.size+1]?=some (.cells #[.string ⟨#[]⟩,.string ⟨#[]⟩,I0 0,I0 0,I0 0,I0 0,I0 0,I0 0,I0 0] 96 (0,0))
 b:B0 w W
theorem GB.new(w:World)(z:Int)(vn vs:Value):GB w ((w.alloc (.cells #[I0 z,vn,vs] 40)).alloc (.cells #[.string ⟨#[]⟩,.string ⟨#[]⟩,I0 0,I0 0,I0 0,I0 0,I0 0,I0 0,I0 0] 96)) z vn vs:=by
 refine⟨?_,?_,AL (AB _ _) (AB _ _)⟩
 .rw[(AB _ _).block _ (by simp)];exact heap_alloc_new w _
 .have h:=heap_alloc_new (w.alloc (.cells #[I0 z,vn,vs] 40)) (.cells #[.string ⟨#[]⟩,.string ⟨#[]⟩,I0 0,I0 0,I0 0,I0 0,I0 0,I0 0,I0 0] 96);rw[show (w.alloc (.cells #[I0 z,vn,vs] 40)).heap.size=w.heap.size+1 by simp]at h;exact h
theorem GB.lt(h:GB w W z vn vs):w.heap.size+1<W.heap.size:=(Array.getElem?_eq_some_iff.1 h.r).1
theorem GB.next(h:GB w W z vn vs)(hb:B0 W V):GB w V z vn vs:=by
 have:=h.lt;exact⟨(hb.block _ (by omega)).trans h.t,(hb.block _ (by omega)).trans h.r,AL h.b hb⟩
theorem GB.c1(h:GB w W z vn vs):W.cell? ⟨w.heap.size,1,none⟩=some vn:=by simp[World.cell?,h.t]
theorem GB.one(h:GB w W z vn vs):EW W (w.heap.size+1) SC:=h.r
theorem BF0(z:Int)(vn vs:Value)(ns A B:List Nd)(p:List UInt8)(w:World)(hn:BQ w vn ns)(hl:ns.length<=100000)(G:jE ns A B p):
  Calls prog 111 #[.agg #[I0 z,vn,vs],S0 p] w (R0 w (.tuple #[PS SC,I0 7])):=by
 have CF:=AA (fun W (hW:B0 w W)=>JB vn ns A B p W (hn.next hW) hl G);have B0:=AA (GB.new w z vn vs);obtain⟨na,nc,rfl⟩:=AU hn;clear hn G;go_enter func111,ntmps111;go_wp2_with fail;refine(A8 CF _ (A8 B0).b).mono ?_;rintro e w1 ⟨rfl,hb1⟩;have b1:=(A8 B0).next hb1;have o1:=b1.one;have c0:=o1.EO 0 _ rfl;have c1:=o1.EO 1 _ rfl;have c2:=o1.EO 2 _ rfl;have c3:=o1.EO 3 _ rfl;have c4:=o1.EO 4 _ rfl;have c5:=o1.EO 5 _ rfl;have c6:=o1.EO 6 _ rfl;have c7:=o1.EO 7 _ rfl;have c8:=o1.EO 8 _ rfl;have f0:=o1.DX 0;have f1:=o1.DX 1;have f2:=o1.DX 2;have f3:=o1.DX 3;have f4:=o1.DX 4;have f5:=o1.DX 5;have f6:=o1.DX 6;have f7:=o1.DX 7;have f8:=o1.DX 8;have BB:=b1.b;have HBB:=AA BB;clear CF B0 hb1 b1 o1 BB;go_wp2_with fail;have BB:=A8 HBB;exact bodyPost_ret (v:=.tuple #[PS SC,I0 7]) (by simp[results,results111,go_sem,PS,SC,c0,c1,c2,c3,c4,c5,c6,c7,c8]) rfl
  ⟨rfl,((((((((BB.setCell (by simp) _).setCell (by simp) _).setCell (by simp) _).setCell (by simp) _).setCell (by simp) _).setCell (by simp) _).setCell (by simp) _).setCell (by simp) _).setCell (by simp) _⟩
theorem AE9(z:Int)(vn vs:Value)(ns A B:List Nd)(n:Nd)(p:List UInt8)(w:World)(hn:BQ w vn ns)(hl:ns.length<=100000)(T:FQ ns A n B p)(hp:n.p.length<=140737488355328)(hd:n.d.length<=140737488355328):
  Calls prog 111 #[.agg #[I0 z,vn,vs],S0 p] w (R0 w (.tuple #[PS n,I0 0])):=by
 have CF:=AA (fun W (hW:B0 w W)=>FB vn ns A B n p W (hn.next hW) hl T);have CC:=AA (fun W=>WE n W hp hd);unfold PS at CC;have hlt:A.length<ns.length:=by rw[T.eq];simp
 have hat:ns[A.length]?=some n:=by rw[T.eq];exact QH A n B
 obtain⟨b,off,cap,rfl,hb,hr,_,_⟩:=J7 hn (by rw[T.eq];simp);have HR:=AA (fun W (hW:B0 w W)=>hr.kept hW hb);have B0:=AA (GB.new w z (.slice (some ⟨b,off,none⟩) ns.length cap) vs);clear hn T hr;have HAT:=AA hat;clear hat;go_enter func111,ntmps111;go_wp2_with fail;refine(A8 CF _ (A8 B0).b).mono ?_;rintro e w1 ⟨rfl,hb1⟩;have b1:=(A8 B0).next hb1;have HB1:=AA b1;have e1:=b1.c1;have q:=A8 HR w1 b1.b;have d0:=q.n0 (A8 HAT);have d1:=q.n1 (A8 HAT);have d2:=q.n2 (A8 HAT);have d3:=q.n3 (A8 HAT);have d4:=q.n4 (A8 HAT);have d5:=q.n5 (A8 HAT);have d6:=q.n6 (A8 HAT);have d7:=q.n7 (A8 HAT);have d8:=q.n8 (A8 HAT);clear q CF b1 hb1;go_wp2_with fail;refine(A8 CC _).mono ?_;rintro e w2 ⟨rfl,hb2⟩;have b2:=(A8 HB1).next hb2;have o1:=b2.one;have c0:=o1.EO 0 _ rfl;have c1:=o1.EO 1 _ rfl;have c2:=o1.EO 2 _ rfl;have c3:=o1.EO 3 _ rfl;have c4:=o1.EO 4 _ rfl;have c5:=o1.EO 5 _ rfl;have c6:=o1.EO 6 _ rfl;have c7:=o1.EO 7 _ rfl;have c8:=o1.EO 8 _ rfl;have f0:=o1.DX 0;have f1:=o1.DX 1;have f2:=o1.DX 2;have f3:=o1.DX 3;have f4:=o1.DX 4;have f5:=o1.DX 5;have f6:=o1.DX 6;have f7:=o1.DX 7;have f8:=o1.DX 8;have HBB:=AA b2.b;clear b2 hb2 o1 CC d0 d1 d2 d3 d4 d5 d6 d7 d8 e1;go_wp2_with fail;have BB:=A8 HBB;exact bodyPost_ret (v:=.tuple #[PS n,I0 0]) (by simp[results,results111,go_sem,PS,c0,c1,c2,c3,c4,c5,c6,c7,c8]) rfl
  ⟨rfl,((((((((BB.setCell (by simp) _).setCell (by simp) _).setCell (by simp) _).setCell (by simp) _).setCell (by simp) _).setCell (by simp) _).setCell (by simp) _).setCell (by simp) _).setCell (by simp) _⟩
theorem UZ:NI JK:=by
 refine⟨by decide,⟨List.Pairwise.nil,by simp[JK]⟩,⟨by decide,⟨vW,[],rfl,rfl,rfl⟩,List.pairwise_singleton _ _,?_⟩,?_⟩
 .intro n hn;obtain rfl:n=vW:=by simpa [JK]using hn
  refine⟨by decide,YU,fun h=>absurd rfl h,by decide,by decide,by decide,by decide,by decide,by decide,by decide,by decide,?_,.inl rfl⟩;show (0:Int)=JL [vW] [47];simp[JL,vW,QB]
 .intro n hn;obtain rfl:n=vW:=by simpa [JK]using hn
  decide
theorem NI.wf(g:NI t):WfT t:=by
 refine⟨fun s hs=>by have:=g.ses.2 s hs;omega,fun n hn=>?_⟩;have k:=g.nod.ok n hn;have:=IU k.path;have:=k.data;omega
