/-
  Part.
-/
import Derived.Test.YthcncjimjclfpaaGreatDoorLSL
import Derived.Lib.ConvBytes
import Derived.Laws.EntriesVeiled
set_option maxRecDepth 20000
set_option maxHeartbeats 8000000
namespace Go.Proofs.YthcncjimjclfpaaGreatDoor
open Go.RowKit Go.Proofs.Tryz
open _root_.Nat renaming le_refl->A8,lt_of_lt_of_le->AX,zero_le->AY,le_trans->BM
open Go.RowKit.Below renaming refl->AA
open _root_.Array renaming getElem?_eq_some_iff->AB
open _root_.List renaming getElem?_eq_getElem->AL,getElem?_eq_some_iff->AU,mem_of_getElem?->AZ,mem_cons->BO,mem_append->BU,length_map->EG,mem_map->EU
open Go.World renaming cell?->AV
open _root_.And renaming intro->C9
open Go.Value renaming slice->FQ
open Go.Obj renaming cells->FT
open Go renaming World->FU,Value->FV,Calls->FW
open _root_.Option renaming none->FX,some->FZ
variable{t:Tr}{x:GI}{E z more:Int}{p:List UInt8}{ns:List Nd}{n:Nd}{F:Nat->Prop}{b q k B:Nat}{w w' W V:FU}{e:Ending}{P:Prop}{ss:List Int}{vn vs:FV}
def oN(t:Tr)(x:GI):Int:=if iF t x≠0 then iF t x else if YX (aT t x)=true then 6 else 0
theorem BL7(h:UZ t x≠0):WG t x=UZ t x:=by rw[WG,if_pos h]
theorem iM(h:UZ t x=0):WG t x=oN t x:=by rw[WG,if_neg (by omega),oN]
theorem QJ(h:iF t x=E)(h0:E≠0):oN t x=E:=by rw[oN,if_pos (by omega),h]
theorem kR(h:iF t x=0)(hf:YX (aT t x)=true):oN t x=6:=by rw[oN,if_neg (by omega),if_pos hf]
theorem XK(h:iF t x=0)(hf:YX (aT t x)=false):oN t x=0:=by rw[oN,if_neg (by omega),if_neg (by simp[hf])]
theorem rW(p:List UInt8)(z more:Int)(ns:List Nd):(NG p z more ns).length=ns.length:=by rw[NG,EG]
theorem AM9(h:n∈NG p z more ns):∃m∈ns,n=(if m.p=p then bump z more m else m):=by
 rw[NG]at h;obtain⟨m,hm,rfl⟩:=EU.1 h;exact⟨m,hm,rfl⟩
theorem oO{m:Nd}(h:m∈ns)(hp:m.p=p):bump z more m∈NG p z more ns:=by
 rw[NG];exact EU.2 ⟨m,h,by rw[if_pos hp]⟩
theorem B21{u:Nd}(h:u∈ns)(hp:u.p=p)(hk:u.k=2147483647):YX (NG p z more ns)=true:=
 o7.2 ⟨_,oO h hp,by show 2147483647<u.k+1;omega⟩
theorem B22{u:Nd}(ha:uH ns)(h:u∈ns)(hp:u.p=p)(hk:u.k<2147483647)(hc:∀n∈ns,n.k<=2147483647):YX (NG p z more ns)=false:=by
 rw[MQ];intro n hn;obtain⟨m,hm,rfl⟩:=AM9 hn
 split
 .rename_i e
  have:m=u:=UD ha hm h (by rw[e,hp]);subst this;show m.k+1<=_;omega
 .exact hc m hm
def Chg(F:Nat->Prop)(b:Nat)(t:Tr)(x:GI)(w:FU)(e:Ending)(w':FU):Prop:=
 e=.returned (I0 (oN t x))/\Touch F w w'/\(oN t x=0->∃vn vs ve,Grow w' F b x.z vn vs ve (aT t x) (mY t x) (nZ t x))
theorem Chg.no(h:e=.returned (I0 E)/\Touch F w w')(hE:oN t x=E)(h0:E≠0):Chg F b t x w e w':=
 ⟨by rw[hE];exact h.1,h.2,fun h'=>by omega⟩
theorem C53(F:Nat->Prop)(b:Nat)(t:Tr)(vn vs ve:FV)(x:GI)(w:FU)(h:Grow w F b x.z vn vs ve t.ns t.ss [])(hF:∀k,w.heap.size<=k->F k)(ha:UZ t x=0)(ho:x.o=3):
  FW prog 200 #[P0 b,J8 x] w (Chg F b t x w):=by
 obtain⟨g,hg,hz,h1,h2⟩:=PG ha;have f:=XA hg;obtain⟨hp1,hp2⟩:=f.path (.inl ho);have hpl:=MP hp1;have hdl:=f.d;have hdo:=WZ x.p;have hE:iF t x=A98 t x:=by rw[iF,if_pos ho]
 have hN:aT t x=qU x.z t.ns (uI x):=by rw[aT,if_neg (by omega),if_pos ho]
 have hS:mY t x=t.ss:=by rw[mY,if_neg (by omega),if_neg (by omega)]
 have hV:nZ t x=[⟨1,x.p⟩,⟨4,IB x.p⟩]:=by rw[nZ,if_neg (by omega),if_pos ho]
 have few:=g.nod.few;rcases Z4 x.p t.ns g.nod.asc with⟨A,n,B,T⟩|⟨A,B,G⟩
 .refine(B14 F b x.z vn vs ve t.ns A B n t.ss [] x w h T few g.nod.asc).mono fun e w' q=>Chg.no q ?_ (by decide);exact QJ (by rw[hE,A98,T.look,if_pos (by rfl)]) (by decide)
 .rcases Z4 (IB x.p) t.ns g.nod.asc with⟨A',u,B',U⟩|⟨A',B',U⟩
  .by_cases hu:u.o=0
   .have hum:u∈t.ns:=by rw[U.eq];simp
    have ku:=g.nod.ok u hum;have hkc:=g.cap u hum;have hkn:=ku.kids;have hkl:NY t.ns u.p<=t.ns.length:=List.countP_le_length;by_cases hw:x.w=0\/x.w=x.s
    .by_cases hf:t.ns.length=400
     .have hc:A98 t x=6:=by
       rw[A98,G.look,if_neg (by simp),U.look];simp only;rw[if_neg (by omega),if_neg (by rintro⟨a,c⟩;rcases hw with e|e<;>omega),if_pos hf]
      by_cases hw0:x.w=0
      .exact(B16 F b x.z vn vs ve t.ns A B A' B' u t.ss [] x w h G U hu hw0 hf).mono fun e w' q=>Chg.no q (QJ (by rw[hE,hc]) (by decide)) (by decide)
      .exact(B17 F b x.z vn vs ve t.ns A B A' B' u t.ss [] x w h G U hu hw0 (by omega) hf).mono fun e w' q=>Chg.no q (QJ (by rw[hE,hc]) (by decide)) (by decide)
     .have hc:A98 t x=0:=by
       rw[A98,G.look,if_neg (by simp),U.look];simp only;rw[if_neg (by omega),if_neg (by rintro⟨a,c⟩;rcases hw with e|e<;>omega),if_neg hf]
      have gn:PV x.z t.ns t.ss:=g.nod.mono (by omega);have hsm:x.s∈t.ss:=h2 (by omega);have ga:=A97 (x:=uI x) gn G (by omega) hp1 hp2 ⟨u,hum,U.nm,hu⟩ f.d f.z.1 rfl rfl rfl rfl rfl rfl (by
       rcases hw with c|c
       .exact .inl c
       .exact .inr (by show x.w∈t.ss;rw[c];exact hsm))
      have hins:CF5 t.ns (uI x)=A++uI x::B:=G.ins;have hasc:uH (A++uI x::B):=by
       have:=(OO _).1 ga.asc;rw[qU,WW,hins]at this;exact(OO _).2 this
      have CU8:u∈A++uI x::B:=by
       have:=hum;rw[G.eq]at this;rcases BU.1 this with e|e<;>simp[e]
      obtain⟨A2,B2,U2⟩:∃A2 B2,KF (A++uI x::B) A2 u B2 (IB x.p):=by
       rw[<-U.nm];exact RQ hasc (VE hasc CU8)
      have hlen:(A++uI x::B).length<=400:=by rw[<-hins,<-rW (IB x.p) x.z 1];exact ga.few
      by_cases hk:u.k=2147483647
      .have hfu:oN t x=6:=kR (by rw[hE,hc]) (by rw[hN,qU,hins];exact B21 CU8 U.nm hk);have P:∀W vn' ve',Grow W F b x.z vn' vs ve' (A++uI x::B) t.ss ([]++[⟨1,x.p⟩])->w.heap.size<=W.heap.size->Touch F w W->FW prog 227 #[P0 b,S0 (IB x.p),I0 1] W fun e w'=>e=.returned (I0 6)/\Touch F w w':=by
        intro W vn' ve' hG hs ht;refine(kN F b x.z vn' vs ve' _ A2 B2 u t.ss _ (IB x.p) 1 W hG U2 hlen hk).mono ?_;rintro e w' ⟨rfl,t'⟩;exact⟨rfl,ht.trans t'⟩
       exact(AD0 F b x.z vn vs ve t.ns A B A' B' u 6 _ t.ss [] x w h hF G U few hu hw (by omega) (by omega) (by omega) (by simp) P).mono fun e w' q=>Chg.no q hfu (by decide)
      .have CU9:∀n∈A++uI x::B,n.k<=2147483647:=by
        intro n hn;rcases BU.1 hn with e|e
        .exact g.cap n (by rw[G.eq];simp[e])
        .rcases BO.1 e with rfl|e
         .show (0:Int)<=_;decide
         .exact g.cap n (by rw[G.eq];simp[e])
       have hfu:oN t x=0:=XK (by rw[hE,hc]) (by rw[hN,qU,hins];exact B22 hasc CU8 U.nm (by omega) CU9);have P:∀W vn' ve',Grow W F b x.z vn' vs ve' (A++uI x::B) t.ss ([]++[⟨1,x.p⟩])->w.heap.size<=W.heap.size->Touch F w W->FW prog 227 #[P0 b,S0 (IB x.p),I0 1] W fun e w'=>e=.returned (I0 0)/\((∃vn' ve',Grow w' F b x.z vn' vs ve' (aT t x) t.ss (nZ t x))/\Touch F w w'):=by
        intro W vn' ve' hG hs ht;refine(xB F b x.z vn' vs ve' _ A2 B2 u t.ss _ (IB x.p) 1 W hG (fun k hk=>hF k (by omega)) U2 hlen ⟨ku.k0,by omega⟩ (by omega) (by omega) (by omega) (by simp)).mono ?_;rintro e w' ⟨rfl,ve2,g',t'⟩;refine⟨rfl,⟨vn',ve2,?_⟩,ht.trans t'⟩;have e1:aT t x=A2++bump x.z 1 u::B2:=by
         rw[hN,qU,hins];exact U2.bump x.z 1
        rw[e1,hV];exact g'
       have fin:∀ (e:Ending) (w':FU),(e=.returned (I0 0)/\((∃vn' ve',Grow w' F b x.z vn' vs ve' (aT t x) t.ss (nZ t x))/\Touch F w w'))->Chg F b t x w e w':=by
        rintro e w' ⟨rfl,⟨vn',ve',g'⟩,t'⟩;exact⟨by rw[hfu],t',fun _=>⟨vn',vs,ve',by rw[hS];exact g'⟩⟩
       exact(AD0 F b x.z vn vs ve t.ns A B A' B' u 0 _ t.ss [] x w h hF G U few hu hw (by omega) (by omega) (by omega) (by simp) P).mono fin
    .have hw1:x.w≠0:=fun e=>hw (.inl e);have hw2:x.w≠x.s:=fun e=>hw (.inr e);refine(C52 F b x.z vn vs ve t.ns A B A' B' u t.ss [] x w h G U few hu hw1 hw2).mono fun e w' q=>Chg.no q ?_ (by decide);refine QJ ?_ (by decide);rw[hE,A98,G.look,if_neg (by simp),U.look];simp only;rw[if_neg (by omega),if_pos ⟨hw1,hw2⟩]
   .refine(B15 F b x.z vn vs ve t.ns A B A' B' u t.ss [] x w h G U few hu).mono fun e w' q=>Chg.no q ?_ (by decide);refine QJ ?_ (by decide);rw[hE,A98,G.look,if_neg (by simp),U.look];simp only;rw[if_pos hu]
  .refine(BL3 F b x.z vn vs ve t.ns A B A' B' t.ss [] x w h G U few).mono fun e w' q=>Chg.no q ?_ (by decide);refine QJ ?_ (by decide);rw[hE,A98,G.look,if_neg (by simp),U.look]
theorem C54(F:Nat->Prop)(b:Nat)(t:Tr)(vn vs ve:FV)(x:GI)(w:FU)(h:Grow w F b x.z vn vs ve t.ns t.ss [])(hF:∀k,w.heap.size<=k->F k)(ha:UZ t x=0)(ho:x.o=4):
  FW prog 201 #[P0 b,S0 x.p] w (Chg F b t x w):=by
 obtain⟨g,hg,hz,h1,h2⟩:=PG ha;have f:=XA hg;obtain⟨hp1,hp2⟩:=f.path (.inr ho);have hpl:=MP hp1;have hdo:=WZ x.p;have few:=g.nod.few;have hE:iF t x=BH2 t x:=by rw[iF,if_neg (by omega),if_pos ho]
 have hN:aT t x=rmN x.z t.ns x.p:=by rw[aT,if_neg (by omega),if_neg (by omega),if_pos ho]
 have hS:mY t x=t.ss:=by rw[mY,if_neg (by omega),if_neg (by omega)]
 have hV:nZ t x=[⟨2,x.p⟩,⟨4,IB x.p⟩]:=by rw[nZ,if_neg (by omega),if_neg (by omega),if_pos ho]
 rcases Z4 x.p t.ns g.nod.asc with⟨A,n,B,T⟩|⟨A,B,G⟩
 .have hn:n∈t.ns:=by rw[T.eq];simp
  by_cases hk:n.n=0
  .have hd0:BH2 t x=0:=by rw[BH2,T.look];simp only;rw[if_neg (by omega)]
   have gn:PV x.z t.ns t.ss:=g.nod.mono (by omega);obtain⟨u,hu1,hu2,hu3,hu4,hu5⟩:=AW4 gn hn (by rw[T.nm];exact hp2);rw[T.nm]at hu1 hu3 hu4;obtain⟨A',B',T'⟩:=oC gn.asc T hu2 hu3 hu4;have ku:=gn.ok u hu2;have hkc:=g.cap u hu2;have hkn:=ku.kids;have hkl:NY t.ns u.p<=t.ns.length:=List.countP_le_length;by_cases hf:u.k=2147483647
   .refine(kQ F b x.z vn vs ve t.ns A B A' B' n u t.ss [] x.p w h hF T T' few hk hf (by omega) (by simp)).mono fun e w' q=>Chg.no q ?_ (by decide);exact kR (by rw[hE,hd0]) (by rw[hN];exact AW9 hu2 hu3 hu4 hf [] (by simp))
   .refine(xC F b x.z vn vs ve t.ns A B A' B' n u t.ss [] x.p w h hF T T' few hk ⟨ku.k0,by omega⟩ (by omega) (by omega) (by omega) (by simp)).mono ?_;rintro e w' ⟨rfl,vn',ve',g',t'⟩;have hc:oN t x=0:=XK (by rw[hE,hd0]) (by rw[hN,MQ];exact BX6 gn.asc hu2 hu3 (by omega) g.cap);exact⟨by rw[hc],t',fun _=>⟨vn',vs,ve',by rw[hN,hS,hV];exact g'⟩⟩
  .refine(A32 F b x.z vn vs ve t.ns A B n t.ss [] x.p w h T few hk).mono fun e w' q=>Chg.no q ?_ (by decide);exact QJ (by rw[hE,BH2,T.look];simp only;rw[if_pos hk]) (by decide)
 .refine(AM7 F b x.z vn vs ve t.ns A B t.ss [] x.p w h G few).mono fun e w' q=>Chg.no q ?_ (by decide);exact QJ (by rw[hE,BH2,G.look]) (by decide)
theorem C55(F:Nat->Prop)(b:Nat)(t:Tr)(vn vs ve:FV)(x:GI)(w:FU)(h:Grow w F b x.z vn vs ve t.ns t.ss [])(hF:∀k,w.heap.size<=k->F k)(ha:UZ t x=0)(ho:x.o=5):
  FW prog 202 #[P0 b,J8 x] w (Chg F b t x w):=by
 obtain⟨g,hg,hz,h1,h2⟩:=PG ha;have f:=XA hg;have hpl:=MP (f.CU0 ho);have hdl:=f.d;have few:=g.nod.few;have hE:iF t x=CF6 t x:=by rw[iF,if_neg (by omega),if_neg (by omega),if_pos ho]
 have hN:aT t x=AV8 x.p x.d x.v x.z t.ns:=by rw[aT,if_neg (by omega),if_neg (by omega),if_neg (by omega),if_pos ho]
 have hS:mY t x=t.ss:=by rw[mY,if_neg (by omega),if_neg (by omega)]
 have hV:nZ t x=[⟨3,x.p⟩]:=by rw[nZ,if_neg (by omega),if_neg (by omega),if_neg (by omega),if_pos ho]
 rcases Z4 x.p t.ns g.nod.asc with⟨A,n,B,T⟩|⟨A,B,G⟩
 .have hn:n∈t.ns:=by rw[T.eq];simp
  have kn:=g.nod.ok n hn;by_cases hv:x.v=n.v+1
  .refine(CJ8 F b x.z vn vs ve t.ns A B n t.ss [] x w h hF T few ⟨kn.v0,kn.v1⟩ (by omega) (by omega) (by simp) hv).mono ?_;rintro e w' ⟨rfl,ve',g',t'⟩;have hc:oN t x=0:=XK (by rw[hE,CF6,T.look];simp only;rw[if_neg (by omega)]) (by
    rw[hN,MQ];intro m hm;rw[AV8]at hm;obtain⟨m',hm',rfl⟩:=EU.1 hm
    split
    .exact g.cap m' hm'
    .exact g.cap m' hm')
   exact⟨by rw[hc],t',fun _=>⟨vn,vs,ve',by rw[hN,hS,hV,T.put];exact g'⟩⟩
  .refine(C51 F b x.z vn vs ve t.ns A B n t.ss [] x w h hF T few ⟨kn.v0,kn.v1⟩ (by omega) (by omega) (by simp) hv).mono fun e w' q=>Chg.no q ?_ (by decide);exact QJ (by rw[hE,CF6,T.look];simp only;rw[if_pos hv]) (by decide)
 .refine(C50 F b x.z vn vs ve t.ns A B t.ss [] x w h G few).mono fun e w' q=>Chg.no q ?_ (by decide);exact QJ (by rw[hE,CF6,G.look]) (by decide)
theorem C56(F:Nat->Prop)(b:Nat)(t:Tr)(vn vs ve:FV)(x:GI)(w:FU)(h:Grow w F b x.z vn vs ve t.ns t.ss [])(hF:∀k,w.heap.size<=k->F k)(ha:UZ t x=0)(ho:x.o=2):
  FW prog 199 #[P0 b,I0 x.s] w (Chg F b t x w):=by
 obtain⟨g,hg,hz,h1,h2⟩:=PG ha;have f:=XA hg;have gn:PV x.z t.ns t.ss:=g.nod.mono (by omega);have hE:iF t x=0:=by rw[iF,if_neg (by omega),if_neg (by omega),if_neg (by omega)]
 have hN:aT t x=RD x.z t.ns (OQ t.ns x.s):=by rw[aT,if_pos ho]
 have hS:mY t x=AJ2 t.ss x.s:=by rw[mY,if_neg (by omega),if_pos ho]
 have hV:nZ t x=AW6 (OQ t.ns x.s):=by rw[nZ,if_pos ho]
 have hm:=h2 (by omega);rcases vF x.s t.ss g.ses.1 with⟨A,B,T⟩|⟨A,B,G⟩
 .refine(B20 F b x.z vn vs ve t.ns t.ss A B t.ss x.s w h hF T (VF g.ses) ⟨gn,o8 gn (by have:=f.s;omega),g.cap⟩).mono ?_;rintro e w' (⟨hf,rfl,t'⟩|⟨hf,rfl,vn',vs',ve',g',t'⟩)
  .exact Chg.no ⟨rfl,t'⟩ (kR hE (by rw[hN];exact hf)) (by decide)
  .have hc:oN t x=0:=XK hE (by rw[hN];exact hf);exact⟨by rw[hc],t',fun _=>⟨vn',vs',ve',by rw[hN,hS,hV,T.drop];exact g'⟩⟩
 .exact absurd hm G.not
theorem C57(F:Nat->Prop)(b:Nat)(t:Tr)(vn vs:FV)(x:GI)(w:FU)(h:Grow w F b x.z vn vs (N0) t.ns t.ss [])(hF:∀k,w.heap.size<=k->F k)(ha:UZ t x=0)(ho:x.o=1):
  FW prog 198 #[P0 b,I0 x.s] w fun e w'=>e=.returned (.tuple #[])/\Chg F b t x w (.returned (I0 0)) w':=by
 obtain⟨g,hg,hz,h1,h2⟩:=PG ha;have f:=XA hg;have hE:iF t x=0:=by rw[iF,if_neg (by omega),if_neg (by omega),if_neg (by omega)]
 have hN:aT t x=t.ns:=by rw[aT,if_neg (by omega),if_neg (by omega),if_neg (by omega),if_neg (by omega)]
 have hS:mY t x=BE7 t.ss x.s:=by rw[mY,if_pos ho]
 have hV:nZ t x=[]:=by rw[nZ,if_neg (by omega),if_neg (by omega),if_neg (by omega),if_neg (by omega)]
 have hm:=h1 ho;rcases vF x.s t.ss g.ses.1 with⟨A,B,T⟩|⟨A,B,G⟩
 .exact absurd T.mem hm
 .have hl:t.ss.length<=2147483646:=by
   have h3:=VF (A96 g.ses f.s hm);rw[G.ins]at h3;rw[G.eq];simp at h3⊢;omega
  refine(BL5 F b x.z vn vs _ t.ns t.ss A B [] x.s w h hF G hl).mono ?_;rintro e w' ⟨rfl,vs',g',t'⟩;have hc:oN t x=0:=XK hE (by rw[hN,MQ];exact g.cap);exact⟨rfl,by rw[hc],t',fun _=>⟨vn,vs',_,by rw[hN,hS,hV,G.ins];exact g'⟩⟩
theorem Chg.boxed{o:Obj}(h:Chg F b t x (w.alloc o) e w'):Chg F b t x w e w':=
 ⟨h.1,(Touch.of_below (G7 w o)).trans h.2.1,h.2.2⟩
theorem AN0(F:Nat->Prop)(b:Nat)(t:Tr)(vn vs:FV)(x:GI)(w:FU)(h:Grow w F b x.z vn vs (N0) t.ns t.ss [])(hF:∀k,w.heap.size<=k->F k)(ha:UZ t x=0)(ho:x.o=1):
  FW prog 169 #[P0 b,J8 x] w (Chg F b t x w):=by
 have C:=C57 F b t vn vs x (w.alloc (FT #[I0 x.z,I0 x.o,I0 x.s,S0 x.p,S0 x.d,I0 x.v,I0 x.w] 93)) (h.next (G7 _ _)) (fun k hk=>hF k (by simp at hk;omega)) ha ho;clear h hF ha;have HO:=G6 ho;obtain⟨xz,xo,xs,xp,xd,xv,xw⟩:=x;unfold J8;simp only at C ho⊢;subst ho;have HC:=G6 C;clear C;go_enter func169,ntmps169;go_wp2_with fail;refine(G5 HC).mono ?_;rintro e w1 ⟨rfl,hc⟩;have HQ:=G6 hc.boxed;clear hc HC;go_wp2_with fail;go_ret;exact G5 HQ
theorem AN1(F:Nat->Prop)(b:Nat)(t:Tr)(vn vs:FV)(x:GI)(w:FU)(h:Grow w F b x.z vn vs (N0) t.ns t.ss [])(hF:∀k,w.heap.size<=k->F k)(ha:UZ t x=0)(ho:x.o=2):
  FW prog 169 #[P0 b,J8 x] w (Chg F b t x w):=by
 have C:=C56 F b t vn vs _ x (w.alloc (FT #[I0 x.z,I0 x.o,I0 x.s,S0 x.p,S0 x.d,I0 x.v,I0 x.w] 93)) (h.next (G7 _ _)) (fun k hk=>hF k (by simp at hk;omega)) ha ho;clear h hF ha;have HO:=G6 ho;obtain⟨xz,xo,xs,xp,xd,xv,xw⟩:=x;unfold J8;simp only at C ho⊢;subst ho;have HC:=G6 C;clear C;go_enter func169,ntmps169;go_wp2_with fail;refine(G5 HC).mono ?_;rintro e w1 hc;obtain⟨rfl,hc'⟩:=hc.boxed;have HQ:=G6 hc';clear hc hc' HC;go_wp2_with fail;go_ret;exact⟨rfl,G5 HQ⟩
theorem AN2(F:Nat->Prop)(b:Nat)(t:Tr)(vn vs:FV)(x:GI)(w:FU)(h:Grow w F b x.z vn vs (N0) t.ns t.ss [])(hF:∀k,w.heap.size<=k->F k)(ha:UZ t x=0)(ho:x.o=3):
  FW prog 169 #[P0 b,J8 x] w (Chg F b t x w):=by
 have C:=C53 F b t vn vs _ x (w.alloc (FT #[I0 x.z,I0 x.o,I0 x.s,S0 x.p,S0 x.d,I0 x.v,I0 x.w] 93)) (h.next (G7 _ _)) (fun k hk=>hF k (by simp at hk;omega)) ha ho;clear h hF ha;have HO:=G6 ho;obtain⟨xz,xo,xs,xp,xd,xv,xw⟩:=x;unfold J8 at C⊢;simp only at C ho⊢;subst ho;have HC:=G6 C;clear C;go_enter func169,ntmps169;go_wp2_with fail;refine(G5 HC).mono ?_;rintro e w1 hc;obtain⟨rfl,hc'⟩:=hc.boxed;have HQ:=G6 hc';clear hc hc' HC;go_wp2_with fail;go_ret;exact⟨rfl,G5 HQ⟩
theorem AN3(F:Nat->Prop)(b:Nat)(t:Tr)(vn vs:FV)(x:GI)(w:FU)(h:Grow w F b x.z vn vs (N0) t.ns t.ss [])(hF:∀k,w.heap.size<=k->F k)(ha:UZ t x=0)(ho:x.o=4):
  FW prog 169 #[P0 b,J8 x] w (Chg F b t x w):=by
 have C:=C54 F b t vn vs _ x (w.alloc (FT #[I0 x.z,I0 x.o,I0 x.s,S0 x.p,S0 x.d,I0 x.v,I0 x.w] 93)) (h.next (G7 _ _)) (fun k hk=>hF k (by simp at hk;omega)) ha ho;clear h hF ha;have HO:=G6 ho;obtain⟨xz,xo,xs,xp,xd,xv,xw⟩:=x;unfold J8;simp only at C ho⊢;subst ho;have HC:=G6 C;clear C;go_enter func169,ntmps169;go_wp2_with fail;refine(G5 HC).mono ?_;rintro e w1 hc;obtain⟨rfl,hc'⟩:=hc.boxed;have HQ:=G6 hc';clear hc hc' HC;go_wp2_with fail;go_ret;exact⟨rfl,G5 HQ⟩
theorem AN4(F:Nat->Prop)(b:Nat)(t:Tr)(vn vs:FV)(x:GI)(w:FU)(h:Grow w F b x.z vn vs (N0) t.ns t.ss [])(hF:∀k,w.heap.size<=k->F k)(ha:UZ t x=0)(ho:x.o=5):
  FW prog 169 #[P0 b,J8 x] w (Chg F b t x w):=by
 have C:=C55 F b t vn vs _ x (w.alloc (FT #[I0 x.z,I0 x.o,I0 x.s,S0 x.p,S0 x.d,I0 x.v,I0 x.w] 93)) (h.next (G7 _ _)) (fun k hk=>hF k (by simp at hk;omega)) ha ho;clear h hF ha;have HO:=G6 ho;obtain⟨xz,xo,xs,xp,xd,xv,xw⟩:=x;unfold J8 at C⊢;simp only at C ho⊢;subst ho;have HC:=G6 C;clear C;go_enter func169,ntmps169;go_wp2_with fail;refine(G5 HC).mono ?_;rintro e w1 hc;obtain⟨rfl,hc'⟩:=hc.boxed;have HQ:=G6 hc';clear hc hc' HC;go_wp2_with fail;go_ret;exact⟨rfl,G5 HQ⟩
theorem AN5(F:Nat->Prop)(b:Nat)(t:Tr)(vn vs:FV)(x:GI)(w:FU)(h:Grow w F b x.z vn vs (N0) t.ns t.ss [])(hF:∀k,w.heap.size<=k->F k)(ha:UZ t x=0):
  FW prog 169 #[P0 b,J8 x] w (Chg F b t x w):=by
 have f:=(XA (PG ha).2.1).op;by_cases h1:x.o=1
 .exact AN0 F b t vn vs x w h hF ha h1
 .by_cases h2:x.o=2
  .exact AN1 F b t vn vs x w h hF ha h2
  .by_cases h3:x.o=3
   .exact AN2 F b t vn vs x w h hF ha h3
   .by_cases h4:x.o=4
    .exact AN3 F b t vn vs x w h hF ha h4
    .exact AN4 F b t vn vs x w h hF ha (by omega)
noncomputable def pd(P:Prop):Bool:= @decide P (Classical.propDecidable _)
theorem SV(h:P):pd P=true:=by unfold pd;exact @decide_eq_true _ (Classical.propDecidable _) h
theorem RX(h:¬P):pd P=false:=by unfold pd;exact @decide_eq_false _ (Classical.propDecidable _) h
theorem BY3:pd P=true↔P:=by unfold pd;exact @decide_eq_true_iff _ (Classical.propDecidable _)
theorem JD{a b:Bool}(h:a=b):Ending.returned (.bool a)=.returned (.bool b):=by rw[h]
structure AD1(ns:List Nd):Prop where
 few:ns.length<=400
 root:∃r rest,ns=r::rest/\r.p=[47]
 asc:uH ns
def BL8(ns:List Nd)(p:List UInt8):Prop:=(KJ ns (IB p)).isSome=true\/AT0 p=7
structure fQ(z:Int)(n:Nd)(ks:Int)(ss:List Int):Prop where
 c0:0<=n.c
 cm:n.c<=n.m
 cq:n.c<=n.q
 mz:n.m<=z
 qz:n.q<=z
 v0:0<=n.v
 v1:n.v<=2147483647
 k0:0<=n.k
 k1:n.k<=2147483647
 kids:n.n=ks
 own:n.o=0\/ks=0/\n.o∈ss
structure BL9(z:Int)(ns:List Nd)(ss:List Int)(n:Nd):Prop where
 data:n.d.length<=256
 held:BL8 ns n.p
 sound:fQ z n (NY ns n.p) ss
theorem CK1{q:List UInt8}(h:bl [47] q=true):q≠[]:=by rintro rfl;simp[bl,Op.bytesLess]at h
theorem xG(h:AD1 ns)(hn:n∈ns):n.p≠[]:=by
 obtain⟨r,rest,rfl,hr⟩:=h.root;rcases BO.1 hn with rfl|hn
 .rw[hr];simp
 .have:=(List.pairwise_cons.1 h.asc).1 n hn;rw[hr]at this;exact CK1 this
theorem YT:QA t↔KD t.z=true/\AD1 t.ns/\qR t.ss/\(∀n∈t.ns,BL9 t.z t.ns t.ss n)/\∀r,t.ns[0]?=FZ r->r.o=0:=by
 constructor
 .intro g;obtain⟨r,rest,hr,hp,ho⟩:=g.nod.root;refine⟨g.zx,⟨g.nod.few,⟨r,rest,hr,hp⟩,g.nod.asc⟩,g.ses,fun n hn=>?_,fun r' h=>by rw[hr]at h;simp at h;rw[<-h];exact ho⟩;have k:=g.nod.ok n hn;refine⟨k.data,?_,⟨k.c0,k.cm,k.cq,k.mz,k.qz,k.v0,k.v1,k.k0,g.cap n hn,k.kids,?_⟩⟩
  .by_cases h:n.p=[47]
   .exact .inr (by rw[h];exact vC)
   .obtain⟨u,hu,he⟩:=k.up h;exact .inl (by rw[<-he,VE g.nod.asc hu];rfl)
  .rcases k.own with h|⟨h1,h2⟩
   .exact .inl h
   .exact .inr ⟨by rw[<-k.kids];exact h2,h1⟩
 .rintro⟨hz,ho,hs,hp,hr⟩;refine⟨hz,hs,⟨ho.few,?_,ho.asc,fun n hn=>?_⟩,fun n hn=>(hp n hn).sound.k1⟩
  .obtain⟨r,rest,h1,h2⟩:=ho.root;exact⟨r,rest,h1,h2,hr r (by rw[h1];rfl)⟩
  .have k:=hp n hn;have s:=k.sound;have hg:II n.p=true/\(n.p≠[47]->∃u∈t.ns,u.p=IB n.p):=by
    rcases k.held with h|h
    .obtain⟨u,hu⟩:=Option.isSome_iff_exists.1 h;obtain⟨hu1,hu2⟩:=SC hu;have hne:IB n.p≠[]:=by rw[<-hu2];exact xG ho hu1
     cases hb:II n.p with
     |false=>exact absurd (aQ hb) hne
     |true=>exact⟨rfl,fun _=>⟨u,hu1,hu2⟩⟩
    .cases hb:II n.p with
     |false=>rw[A94 hb]at h;omega
     |true=>
      by_cases h1:n.p=[47]
      .exact⟨rfl,fun h2=>absurd h1 h2⟩
      .rw[AV7 hb h1]at h;omega
   refine⟨k.data,hg.1,hg.2,s.c0,s.cm,s.cq,s.mz,s.qz,s.v0,s.v1,s.k0,s.kids,?_⟩;rcases s.own with h|⟨h1,h2⟩
   .exact .inl h
   .exact .inr ⟨h2,by rw[s.kids];exact h1⟩
def AD2(ns:List Nd)(k:Nat):Prop:=∀i,i<k->∀a b,ns[i]?=FZ a->ns[i+1]?=FZ b->bl a.p b.p=true
theorem B23(h:AD2 ns k){a b:Nd}(ha:ns[k]?=FZ a)(hb:ns[k+1]?=FZ b)(hl:bl a.p b.p=true):AD2 ns (k+1):=by
 intro i hi x y hx hy;by_cases e:i=k
 .subst e;rw[ha]at hx;rw[hb]at hy;cases hx;cases hy;exact hl
 .exact h i (by omega) x y hx hy
theorem A34(h:AD2 ns k)(hk:ns.length<=k+1):uH ns:=by
 have step:∀j i,(hij:i<j)->∀ (hj:j<ns.length),bl (ns[i]'(Nat.lt_trans hij hj)).p ns[j].p=true:=by
  intro j
  induction j with
  |zero=>intro i hi;omega
  |succ j ih=>
   intro i hi hj;have h1:=h j (by omega) ns[j] ns[j+1] (by simp) (by simp);by_cases e:i=j
   .subst e;exact h1
   .exact QH _ _ _ (ih i (by omega) (by omega)) h1
 exact List.pairwise_iff_getElem.2 fun i j hi hj hij=>step j i hij hj
theorem BM0(h:uH ns){i:Nat}{a b:Nd}(ha:ns[i]?=FZ a)(hb:ns[i+1]?=FZ b):bl a.p b.p=true:=by
 obtain⟨h1,rfl⟩:=AU.1 ha;obtain⟨h2,rfl⟩:=AU.1 hb;exact List.pairwise_iff_getElem.1 h i (i+1) h1 h2 (by omega)
theorem ZR(v:FV)(ns:List Nd)(w:FU)(hv:IU w v ns):
  FW prog 160 #[v] w (R0 w (.bool (pd (AD1 ns)))):=by
 rcases hv with⟨a,cap,rfl,rfl,_⟩|⟨b,off,cap,rfl,hle,hm,hb,hne,hr⟩
 .have F:=G6 (RX (P:=AD1 []) (fun h=>by obtain⟨r,rest,h,_⟩:=h.root;cases h)).symm;go_enter func160,ntmps160;go_wp2_with fail;go_ret;exact⟨JD (G5 F),AA _ _⟩
 .obtain⟨r,rest,rfl⟩:∃r rest,ns=r::rest:=by
   cases ns with
   |nil=>exact absurd rfl hne
   |cons r rest=>exact⟨r,rest,rfl⟩
  have e0:=hr.n0 (i:=0) (x:=r) rfl;have H:=G6 hr;simp only[List.length_cons]at hle⊢;simp only[maxLen]at hm;clear hr hne;by_cases hl:rest.length+1<=400
  .by_cases hp:r.p=[47]
   .have hp2:(r.p==[47])=true:=by rw[hp];rfl
    have HL:=G6 hl;have HP:=G6 hp;clear hp;simp only[Nat.zero_mul,Nat.add_zero]at e0;by_cases hc1:cap=1
    .obtain rfl:rest=[]:=List.eq_nil_of_length_eq_zero (by omega);subst hc1;have T:=G6 (SV (P:=AD1 [r]) ⟨by simp,⟨r,[],rfl,G5 HP⟩,List.pairwise_singleton _ _⟩).symm;clear hle hl;simp only[List.length_nil];go_enter func160,ntmps160;go_wp2_with fail
     go_loopg [23] 1 (fun _ s23 wr=>s23=I0 0/\wr=w)
     case atStart=>exact⟨rfl,rfl⟩
     case round=>
      obtain⟨rfl,rfl⟩:=hrel;go_wp2_with fail;go_ret;exact⟨JD (G5 T),AA _ _⟩
    .go_enter func160,ntmps160;go_wp2_with fail
     go_loopg [23] rest.length (fun kx s23 wr=>∃k:Nat,s23=I0 k/\k<=rest.length/\rest.length-k<=kx/\Hid (B0 w wr)/\Hid (AD2 (r::rest) k))
     case atStart=>exact⟨0,rfl,AY _,A8 _,G6 (AA _ _),G6 (fun i hi=>absurd hi (Nat.not_lt_zero _))⟩
     case round=>
      obtain⟨k,rfl,hk,hg,hB,hR⟩:=hrel;by_cases hlt:k<rest.length
      .obtain⟨x,hx⟩:∃x,(r::rest)[k+1]?=FZ x:=⟨_,AL (by simp;omega)⟩;obtain⟨y,hy⟩:∃y,(r::rest)[k]?=FZ y:=⟨_,AL (by simp;omega)⟩;have q:=(G5 H).kept (G5 hB) hb;have d0:=q.n0 hx;have d1:=q.n1 hx;have d2:=q.n2 hx;have d3:=q.n3 hx;have d4:=q.n4 hx;have d5:=q.n5 hx;have d6:=q.n6 hx;have d7:=q.n7 hx;have d8:=q.n8 hx;have c0:=q.n0 hy;have hbw:b<wr.heap.size:=AX hb (G5 hB).size;have hofs:off+9+k*9=off+(k+1)*9:=by omega
       rw[<-hofs]at d0 d1 d2 d3 d4 d5 d6 d7 d8;clear hofs;have hk1:(k:Int)<(rest.length:Int)+1:=by omega
       cases hbl:bl y.p x.p with
       |true=>
        have R2:=G6 (B23 (G5 hR) hy hx hbl);have hbl1:Op.bytesLess x.p y.p=false:=OD hbl;have hbl2:(x.p==y.p)=false:=by simpa using (WS hbl).symm
        clear hx hy q hbl;go_wp2_with fail;go_region;go_wp2_with fail
        go_roundg (rest.length-(k+1))
        case measure=>omega
        case rel=>exact⟨k+1,rfl,by omega,A8 _,G6 (G8 (G5 hB) ((G7 _ _).drew)),R2⟩
       |false=>
        have F:=G6 (RX (P:=AD1 (r::rest)) (fun h=>by have:=BM0 h.asc hy hx;rw[hbl]at this;cases this)).symm;clear hx hy q
        cases hb1:bl x.p y.p with
        |true=>
         have hbl1:Op.bytesLess x.p y.p=true:=hb1;clear hbl hb1;go_wp2_with fail;go_region;go_wp2_with fail;go_ret;exact⟨JD (G5 F),G8 (G5 hB) ((G7 _ _).drew)⟩
        |false=>
         have hbl1:Op.bytesLess x.p y.p=false:=hb1;have hbl2:(x.p==y.p)=true:=by simpa using TL _ _ hb1 hbl
         clear hbl hb1;go_wp2_with fail;go_region;go_wp2_with fail;go_ret;exact⟨JD (G5 F),G8 (G5 hB) ((G7 _ _).drew)⟩
      .obtain rfl:k=rest.length:=by omega
       go_wp2_with fail;go_ret;exact⟨JD (SV (P:=AD1 (r::rest)) ⟨G5 HL,⟨r,rest,rfl,G5 HP⟩,A34 (G5 hR) (by simp)⟩).symm,G5 hB⟩
   .have hp2:(r.p==[47])=false:=by simpa using hp
    have F:=G6 (RX (P:=AD1 (r::rest)) (fun h=>by obtain⟨r',s',h1,h2⟩:=h.root;cases h1;exact hp h2)).symm;clear hp;simp only[Nat.zero_mul,Nat.add_zero]at e0;go_enter func160,ntmps160;go_wp2_with fail;go_ret;exact⟨JD (G5 F),AA _ _⟩
  .have F:=G6 (RX (P:=AD1 (r::rest)) (fun h=>hl (by simpa using h.few))).symm;go_enter func160,ntmps160;go_wp2_with fail;go_ret;exact⟨JD (G5 F),AA _ _⟩
def RH(ss:List Int):Nat->Int
 |0=>1
 |k+1=>ss.getD k 0+1
def OkS(ss:List Int)(k:Nat):Prop:=∀i,i<k->∀x,ss[i]?=FZ x->RH ss i<=x/\x<=2147483647
theorem BM1(h:OkS ss k){x:Int}(hx:ss[k]?=FZ x)(h1:RH ss k<=x)(h2:x<=2147483647):OkS ss (k+1):=by
 intro i hi y hy;by_cases e:i=k
 .subst e;rw[hx]at hy;cases hy;exact⟨h1,h2⟩
 .exact h i (by omega) y hy
theorem XL{x:Int}(hx:ss[k]?=FZ x):RH ss (k+1)=x+1:=by simp[RH,List.getD,hx]
theorem BM2(h:qR ss){x:Int}(hx:ss[k]?=FZ x):RH ss k<=x/\x<=2147483647:=by
 have hb:=h.2 x (AZ hx);refine⟨?_,hb.2⟩
 cases k with
 |zero=>simp only[RH];omega
 |succ k=>
  obtain⟨h1,rfl⟩:=AU.1 hx;rw[XL (AL (show k<ss.length by omega))];have:=List.pairwise_iff_getElem.1 h.1 k (k+1) (by omega) h1 (by omega);omega
theorem BM3(h:OkS ss ss.length):qR ss:=by
 have step:∀j i,(hij:i<j)->∀ (hj:j<ss.length),ss[i]'(Nat.lt_trans hij hj)<ss[j]:=by
  intro j
  induction j with
  |zero=>intro i hi;omega
  |succ j ih=>
   intro i hi hj;have h1:=(h (j+1) hj _ (AL hj)).1;rw[XL (AL (show j<ss.length by omega))]at h1;by_cases e:i=j
   .subst e;omega
   .have:=ih i (by omega) (by omega);omega
 have pos:∀i,(hi:i<ss.length)->1<=ss[i]:=by
  intro i
  induction i with
  |zero=>intro hi;exact(h 0 hi _ (AL hi)).1
  |succ i ih=>intro hi;have:=step (i+1) i (by omega) hi;have:=ih (by omega);omega
 refine⟨List.pairwise_iff_getElem.2 fun i j hi hj hij=>step j i hij hj,fun s hs=>?_⟩;obtain⟨i,hi,rfl⟩:=List.getElem_of_mem hs;exact⟨pos i hi,(h i hi _ (AL hi)).2⟩
theorem fU(v:FV)(ss:List Int)(w:FU)(hv:IU w v ss)(hi:∀s∈ss,-9223372036854775808<=s/\s<=9223372036854775807):
  FW prog 161 #[v] w fun e w'=>e=.returned (.bool (pd (qR ss)))/\w'=w:=by
 have T:=G6 (fun h:OkS ss ss.length=>(SV (BM3 h)).symm);have F:=G6 (fun(k:Nat) (x:Int) (hx:ss[k]?=FZ x) (h:¬ (RH ss k<=x/\x<=2147483647))=>(RX (fun g:qR ss=>h (BM2 g hx))).symm);have HI:=G6 hi;clear hi;generalize pd (qR ss)=fin at T F⊢;have R:∀k x,ss[k]?=FZ x->∃b off cap,v=FQ (FZ ⟨b,off,FX⟩) ss.length cap/\w.cell? ⟨b,off+k,FX⟩=FZ (I0 x):=fun k x hx=>by
  obtain⟨b,off,cap,rfl,_,hr,_,_⟩:=NZ hv (by rintro rfl;simp at hx);exact⟨b,off,cap,rfl,hr.i0 hx⟩
 have HR:=G6 R;have hml:ss.length<=9223372036854775807:=by
  rcases hv with⟨a,cap,rfl,rfl,_⟩|⟨b,off,cap,rfl,h1,h2,_⟩
  .simp
  .simp only[maxLen]at h2;omega
 obtain⟨a,c,rfl⟩:=GK hv;clear R hv;go_enter func161,ntmps161;go_wp2_with fail
 go_loopg [3,8] ss.length (fun kx s3 s8 wr=>∃k:Nat,s3=I0 (RH ss k)/\s8=I0 k/\k<=ss.length/\ss.length-k<=kx/\wr=w/\Hid (OkS ss k))
 case atStart=>exact⟨0,rfl,rfl,AY _,A8 _,rfl,G6 (fun i hi=>absurd hi (Nat.not_lt_zero _))⟩
 case round=>
  obtain⟨k,rfl,rfl,hk,hg,rfl,hO⟩:=hrel;by_cases hlt:k<ss.length
  .obtain⟨x,hx⟩:∃x,ss[k]?=FZ x:=⟨_,AL hlt⟩;obtain⟨b,off,cap,hv,e0⟩:=G5 HR k x hx;have hbx:=G5 HI x (AZ hx);simp only[Value.slice.injEq]at hv;obtain⟨rfl,_,rfl⟩:=hv;have HX:=G6 hx;clear hx;have LS:=G6 (XL (G5 HX));by_cases h1:RH ss k<=x
   .by_cases h2:x<=2147483647
    .have O2:=G6 (BM1 (G5 hO) (G5 HX) h1 h2);generalize RH ss k=ls at h1;go_wp2_with fail
     go_roundg (ss.length-(k+1))
     case measure=>omega
     case rel=>exact⟨k+1,by rw[G5 LS],rfl,by omega,A8 _,rfl,O2⟩
    .have G:=G6 (G5 F k x (G5 HX) (by omega));generalize RH ss k=ls at h1;go_wp2_with fail;go_ret;exact⟨JD (G5 G),rfl⟩
   .have G:=G6 (G5 F k x (G5 HX) (by omega));generalize RH ss k=ls at h1;go_wp2_with fail;go_ret;exact⟨JD (G5 G),rfl⟩
  .obtain rfl:k=ss.length:=by omega
   have G:=G6 (G5 T (G5 hO));go_wp2_with fail;go_ret;exact⟨JD (G5 G),rfl⟩
theorem BM4(v:FV)(ns:List Nd)(p:List UInt8)(w:FU)(hv:IU w v ns)(ha:AD1 ns):
  FW prog 163 #[v,S0 p] w (R0 w (.bool (pd (BL8 ns p)))):=by
 have C:∀W:FU,B0 w W->∃i:Nat,FW prog 21 #[v,S0 (IB p)] W (R0 W (.tuple #[I0 i,.bool (KJ ns (IB p)).isSome])):=fun W hW=>by
  obtain⟨i,_,h⟩:=wM v ns (IB p) W (hv.next hW) (by have:=ha.few;omega) ha.asc;exact⟨i,h⟩
 have C':=G6 C;have F:pd (BL8 ns p)=((KJ ns (IB p)).isSome||AT0 p==7):=by
  cases h:(KJ ns (IB p)).isSome with
  |true=>exact SV (.inl h)
  |false=>
   by_cases h2:AT0 p=7
   .rw[SV (.inr h2),h2];rfl
   .rw[RX (fun hh=>hh.elim (fun h1=>by rw[h]at h1;cases h1) h2)];simp[h2]
 rw[F];obtain⟨a,c,rfl⟩:=GK hv;have CS:=fun W=>NI p W;clear C hv ha F;generalize (KJ ns (IB p)).isSome=hd at C'⊢;generalize IB p=dp at C' CS;generalize LC p=sp at CS;generalize AT0 p=ep at CS⊢;generalize ns.length=nl at C'⊢;go_enter func163,ntmps163;go_wp2_with fail;refine(CS _).mono ?_;rintro e w1 ⟨rfl,hb1⟩;go_wp2_with fail;obtain⟨i,C2⟩:=G5 C' _ hb1;refine C2.mono ?_;rintro e w2 ⟨rfl,hb2⟩;have hB:=G8 hb1 hb2;clear CS C2 C' hb1 hb2
 cases hd with
 |true=>
  go_wp2_with fail;go_ret;exact⟨rfl,hB⟩
 |false=>
  go_wp2_with fail;go_ret;exact⟨rfl,hB⟩
theorem B24(z:Int)(vn vs:FV)(n:Nd)(kids:Int)(ss:List Int)(w:FU)(hv:IU w vs ss)(hs:qR ss):
  FW prog 164 #[.agg #[I0 z,vn,vs],C33 n,I0 kids] w (R0 w (.bool (pd (fQ z n kids ss)))):=by
 have CO:∀W:FU,B0 w W->FW prog 196 #[.agg #[I0 z,vn,vs],I0 n.o] W (R0 W (.bool (decide (n.o∈ss)))):=fun W hW=>bI z vn vs ss n.o W (hv.next hW) hs;have C':=G6 CO;have F:=G6 (fun h:¬fQ z n kids ss=>(RX h).symm);have T:=G6 (fun h:fQ z n kids ss=>(SV h).symm);have SP:=G6 (Iff.intro (fun h:fQ z n kids ss=>C9 h.c0 (C9 h.cm (C9 h.cq (C9 h.mz (C9 h.qz (C9 h.v0 (C9 h.v1 (C9 h.k0 (C9 h.k1 (C9 h.kids h.own)))))))))) (fun⟨a,b,c,d,e,f,g,h,i,j,k⟩=>(⟨a,b,c,d,e,f,g,h,i,j,k⟩:fQ z n kids ss)));generalize pd (fQ z n kids ss)=fin at F T⊢;obtain⟨a,c,rfl⟩:=GK hv;clear CO hv hs;unfold C33;obtain⟨np,nd,nc,nm,nq,nv,nk,no,nn⟩:=n;simp only at C' SP⊢;go_enter func164,ntmps164;go_wp2_with fail;go_region;go_wp2_with fail
 all_goals try simp only[bne_iff_ne,ne_eq,bne_eq_false_iff_eq]at*
 all_goals (first
  |(go_ret;exact⟨JD (G5 F (fun h=>by have:=(G5 SP).1 h;omega)),(((AA _ _).alloc (A8 _) _).alloc (by simp) _).drew⟩)
  |(go_ret;exact⟨JD (G5 T ((G5 SP).2 (by omega))),(((AA _ _).alloc (A8 _) _).alloc (by simp) _).drew⟩)
  |(go_ret;exact⟨JD ((beq_eq_false_iff_ne.2 (by assumption)).trans (G5 F (fun h=>by rcases((G5 SP).1 h).2.2.2.2.2.2.2.2.2.2 with h|h<;>omega))),(((AA _ _).alloc (A8 _) _).alloc (by simp) _).drew⟩)
  |skip)
 refine(G5 C' _ ((((AA _ _).alloc (A8 _) _).alloc (by simp) _).drew)).mono ?_;rintro e w1 ⟨rfl,hb1⟩;have hB:=G8 ((((AA w.heap.size w).alloc (A8 _) _).alloc (by simp) _).drew) hb1;by_cases hmem:no∈ss
 .have G:=G6 (G5 T ((G5 SP).2 ⟨by omega,by omega,by omega,by omega,by omega,by omega,by omega,by omega,by omega,by omega,.inr ⟨by omega,hmem⟩⟩));go_wp2_with fail;go_ret;exact⟨JD (G5 G),hB⟩
 .have G:=G6 (G5 F (fun h=>by have:=((G5 SP).1 h).2.2.2.2.2.2.2.2.2.2;exact this.elim (fun h=>by omega) (fun h=>hmem h.2)));go_wp2_with fail;go_ret;exact⟨JD ((beq_eq_false_iff_ne.2 (by assumption)).trans (G5 G)),hB⟩
open Go.WideMaps Go.Maps
theorem CV0:Keyed prog 9:=string_keyed underlying9
theorem CK2(w:FU):(zeroValue 3).run prog w=.ok (.int .i64 0) w:=by kernel_rfl
def oP(w:FU)(B k:Nat)(ns:List Nd):Prop:=
 ∃D:DataW Unit,w.ownsMap prog 9 (plainElem prog 3) B k D/\IsMap D/\∀s:List UInt8,D.atKey (.string s) (.lit (.int .i64 0))=.lit (.int .i64 (NY ns s))
theorem AN6(ns:List Nd)(n:Nd)(s:List UInt8):NY (ns++[n]) s=NY ns s+(if IB n.p=s then 1 else 0):=by
 simp only[NY,List.countP_append,List.countP_cons,List.countP_nil,decide_eq_true_eq];omega
theorem BM5(ns:List Nd)(s:List UInt8):NY ns s<=ns.length:=List.countP_le_length
theorem A35{D:DataW Unit}(hm:IsMap D)(hD:∀s:List UInt8,D.atKey (.string s) (.lit (.int .i64 0))=.lit (.int .i64 (NY ns s)))(s:List UInt8):
  (D.put (.string (IB n.p)) (.lit (.int .i64 (NY ns (IB n.p)+1)))).atKey (.string s) (.lit (.int .i64 0))=.lit (.int .i64 (NY (ns++[n]) s)):=by
 rw[AN6];by_cases e:IB n.p=s
 .subst e;rw[atKey_put_same hm (show WideAt.IsKeyLit (.string _)from trivial)];simp
 .rw[atKey_put_other (by simpa using fun h=>e h.symm),hD,if_neg e];simp
theorem A36(b off cap:Nat)(ns:List Nd)(w:FU)(hl:ns.length<=400)(hb:b<w.heap.size)(hr:IE w b off (G9 ns)):
  FW prog 162 #[FQ (FZ ⟨b,off,FX⟩) ns.length cap] w fun e w'=>e=.returned (.map (FZ w.heap.size))/\oP w' w.heap.size 400 ns/\Below w.heap.size w w':=by
 have H:=G6 hr;clear hr;have hmm:= @run_makeMap prog;go_enter func162,ntmps162;go_wp2_with fail
 go_loopg [12] ns.length (fun kx i wr=>∃k:Nat,i=.int .i64 k/\k<=ns.length/\ns.length-k<=kx/\Hid (oP wr w.heap.size k (ns.take k))/\Hid (Below w.heap.size w wr))
 case atStart=>exact⟨0,rfl,AY _,A8 _,G6 ⟨_,World.ownsMap_made _ _ _ _,isMap_empty,fun s=>by rfl⟩,G6 (G7 _ _)⟩
 case round=>
  obtain⟨k,rfl,hk,hg,hC,hB⟩:=hrel;by_cases hlt:k<ns.length
  .obtain⟨x,hx⟩:∃x,ns[k]?=FZ x:=⟨_,AL hlt⟩;have q:=(G5 H).kept (G5 hB) hb;have d0:=q.n0 hx;have d1:=q.n1 hx;have d2:=q.n2 hx;have d3:=q.n3 hx;have d4:=q.n4 hx;have d5:=q.n5 hx;have d6:=q.n6 hx;have d7:=q.n7 hx;have d8:=q.n8 hx;have hbw:b<wr.heap.size:=AX hb (G5 hB).size;have hts:ns.take (k+1)=ns.take k++[x]:=by rw[List.take_add_one,hx];rfl
   have HT:=G6 hts;clear q hx hts;have CS:=fun W=>NI x.p W;have hdl:(IB x.p).length<=1000:=by
    cases hgb:II x.p with
    |false=>rw[aQ hgb];simp
    |true=>
     by_cases hr:x.p=[47]
     .rw[hr,UA];simp
     .obtain⟨a,c,he,hc⟩:=YI hgb;have:=MP hgb;rw[he]at hgb hr this⊢;rw[U9 hgb hr hc,CH3]
      split
      .simp
      .simp at this;omega
   have HDL:=G6 hdl;clear hdl;obtain⟨D,ho,hm,hD⟩:=G5 hC;have HD:=G6 hD;have HM:=G6 hm;have hc1:=BM5 (ns.take k) (IB x.p);simp only[List.length_take]at hc1;have STEP:=G6 (fun s=>A35 (n:=x) hm hD s);obtain⟨cn,hcn⟩:∃cn,NY (ns.take k) (IB x.p)=cn:=⟨_,rfl⟩;rw[hcn]at hc1;have HCN:=G6 hcn;clear hD hm hcn;generalize hdp:IB x.p=dp at CS HDL;have HDP:=G6 hdp;clear hdp;generalize LC x.p=sp at CS;generalize AT0 x.p=ep at CS;go_wp2_with fail;refine(CS _).mono ?_;rintro e w1 ⟨rfl,hb1⟩;have hB1:Below w.heap.size w w1:=G8 (G5 hB) (GU hb1);have ho1:w1.ownsMap prog 9 (plainElem prog 3) w.heap.size k D:=by
    have:Below wr.heap.size wr w1:=GU hb1;obtain⟨es,cl,h1,h2⟩:=ho;exact⟨es,cl,(this.block _ (AB.1 h1).1).trans h1,h2⟩
   have hkey:keyOf prog 9 (.string ⟨dp.toArray⟩)=FZ (.string dp):=by
    have:=keyOf_string_mk (P:=prog) underlying9 (s:=⟨dp.toArray⟩) (by have:=G5 HDL;simp only[maxLen,ByteArray.size,List.size_toArray];omega);simpa using this
   obtain⟨c,hrun,hat,_⟩:=ho1.lookup_int CV0 underlying236 underlying3 (CK2 _) hkey;have hcc:c=(cn:Int):=by
    rw[G5 HD,<-G5 HDP,G5 HCN]at hat;simpa using hat.symm
   subst hcc;clear CS hat hb1 ho d0 d1 d2 d3 d4 d5 d6 d7 d8;go_wp2_with (first
    |(at_mapUpdate;refine wpList_mapUpdate_own _ rfl _ _ _ 236 rfl 9 3 CV0 underlying236 _ w.heap.size k _ rfl ho1 (by unfold maxLen;omega) _ _ _ rfl rfl hkey _ [] (plainElem_int underlying3 (WalkArith.wf_i64 (by omega))) ?_)
    |fail)
   intro w2 hown1 hgrow1;have B2:=hB1.grown hgrow1 hB1.size (fun j hj=>by cases hj;exact A8 _);have C2:oP w2 w.heap.size (k+1) (ns.take (k+1)):=by
    refine⟨_,hown1,(G5 HM).put _ _,fun s=>?_⟩;rw[G5 HT,<-G5 STEP s,G5 HCN,G5 HDP]
   have HC2:=G6 C2;have HB2:=G6 B2;clear C2 B2 hown1 hgrow1 ho1 hrun hB1;go_wp2_with fail
   go_roundg (ns.length-(k+1))
   case measure=>omega
   case rel=>exact⟨k+1,rfl,by omega,A8 _,HC2,HB2⟩
  .obtain rfl:k=ns.length:=by omega
   go_wp2_with fail;go_ret;obtain⟨D,ho,hm,hD⟩:=G5 hC;exact⟨rfl,⟨D,ho.mono (by omega),hm,fun s=>by rw[hD,List.take_length]⟩,G5 hB⟩
structure WfT(t:Tr):Prop where
 ses:∀s∈t.ss,-9223372036854775808<=s/\s<=9223372036854775807
 CK3:∀n∈t.ns,n.p.length<=140737488355328/\n.d.length<=140737488355328
def OkG(t:Tr)(k:Nat):Prop:=∀i,i<k->∀n,t.ns[i]?=FZ n->BL9 t.z t.ns t.ss n
theorem BM6(h:OkG t k)(hn:t.ns[k]?=FZ n)(hp:BL9 t.z t.ns t.ss n):OkG t (k+1):=by
 intro i hi m hm;by_cases e:i=k
 .subst e;rw[hn]at hm;cases hm;exact hp
 .exact h i (by omega) m hm
theorem BM7(hz:KD t.z=true)(ho:AD1 t.ns)(hs:qR t.ss)(h:OkG t t.ns.length){r:Nd}(hr:t.ns[0]?=FZ r):UC t=decide (r.o=0):=by
 by_cases h0:r.o=0
 .rw[decide_eq_true h0,OL,YT];refine⟨hz,ho,hs,fun n hn=>?_,fun r' h=>by rw[hr]at h;cases h;exact h0⟩;obtain⟨i,hi,rfl⟩:=List.getElem_of_mem hn;exact h i hi _ (AL hi)
 .rw[decide_eq_false h0,ZL,YT];exact fun g=>h0 (g.2.2.2.2 r hr)
theorem A37(h:¬ (KD t.z=true/\AD1 t.ns/\qR t.ss)):UC t=false:=by
 rw[ZL,YT];exact fun g=>h ⟨g.1,g.2.1,g.2.2.1⟩
theorem B25(hn:t.ns[k]?=FZ n)(h:¬BL9 t.z t.ns t.ss n):UC t=false:=by
 rw[ZL,YT];exact fun g=>h (g.2.2.2.1 n (AZ hn))
theorem kS(h:oP w B k ns)(hb:Below w.heap.size w w'):oP w' B k ns:=by
 obtain⟨D,⟨es,cl,h1,h2⟩,h3⟩:=h;exact⟨D,⟨es,cl,(hb.block _ (AB.1 h1).1).trans h1,h2⟩,h3⟩
theorem AN7(t:Tr)(vn vs:FV)(w:FU)(hn:IU w vn t.ns)(hs:IU w vs t.ss)(hw:WfT t)(hz:KD t.z=true)(ho:AD1 t.ns)(ha:qR t.ss):
  FW prog 126 #[.agg #[.int .i64 t.z,vn,vs]] w fun e w'=>e=.returned (.bool (UC t))/\Below w.heap.size w w':=by
 have hne:t.ns≠[]:=by obtain⟨r,rest,h,_⟩:=ho.root;rw[h];simp
 obtain⟨r0,hr0⟩:∃r0,t.ns[0]?=FZ r0:=by obtain⟨r,rest,h,_⟩:=ho.root;exact⟨r,by rw[h];rfl⟩
 have YES:=G6 (fun h=>BM7 hz ho ha h hr0);have NO:=G6 (fun n k h1 h2=>B25 (t:=t) (n:=n) (k:=k) h1 h2);have CZ:=fun W=>JH t.z W;rw[hz]at CZ;have CO:=G6 (fun W (h:Below w.heap.size w W)=>ZR vn t.ns W (hn.next h));have CN:=G6 (fun W (h:Below w.heap.size w W)=>fU vs t.ss W (hs.next h) hw.ses);simp only[SV ho]at CO;simp only[SV ha]at CN;have CH:=G6 (fun p W (h:Below w.heap.size w W)=>BM4 vn t.ns p W (hn.next h) ho);have CSD:=G6 (fun n k W (h:Below w.heap.size w W)=>B24 t.z vn vs n k t.ss W (hs.next h) ha);have hl:=ho.few;have SL:=G6 hw.CK3;obtain⟨sa,sc,rfl⟩:=GK hs;obtain⟨b,off,cap,rfl,hb,hr,hle,hcm⟩:=NZ hn hne;have H:=G6 hr;have CC:=G6 (fun W (h:Below w.heap.size w W)=>A36 b off cap t.ns W hl (AX hb h.size) (hr.kept h hb));have HR0:=G6 hr0;have hpos:0<t.ns.length:=List.length_pos_iff.2 hne;clear hn hs hw hz ho ha hne hr hr0;generalize UC t=fin at YES NO⊢;go_enter func126,ntmps126;go_wp2_with fail;refine(CZ _).mono ?_;rintro e w0 ⟨rfl,rfl⟩;have B0:=G7 w (FT #[.int .i64 t.z,FQ (FZ ⟨b,off,FX⟩) t.ns.length cap,FQ sa t.ss.length sc] 61);generalize hW0:w.alloc (FT #[.int .i64 t.z,FQ (FZ ⟨b,off,FX⟩) t.ns.length cap,FQ sa t.ss.length sc] 61)=W0 at*;have b0:W0.cell? ⟨w.heap.size,0,FX⟩=FZ (.int .i64 t.z):=by rw[<-hW0];simp
 have b1:W0.cell? ⟨w.heap.size,1,FX⟩=FZ (FQ (FZ ⟨b,off,FX⟩) t.ns.length cap):=by rw[<-hW0];simp
 have b2:W0.cell? ⟨w.heap.size,2,FX⟩=FZ (FQ sa t.ss.length sc):=by rw[<-hW0];simp
 have hsz:w.heap.size<W0.heap.size:=by rw[<-hW0];simp
 have BX:=G6 (fun W (h:Below W0.heap.size W0 W)=>(⟨(h.cell (p:=⟨w.heap.size,0,FX⟩) hsz).trans b0,(h.cell (p:=⟨w.heap.size,1,FX⟩) hsz).trans b1,(h.cell (p:=⟨w.heap.size,2,FX⟩) hsz).trans b2⟩:W.cell? ⟨w.heap.size,0,FX⟩=FZ (.int .i64 t.z)/\W.cell? ⟨w.heap.size,1,FX⟩=FZ (FQ (FZ ⟨b,off,FX⟩) t.ns.length cap)/\W.cell? ⟨w.heap.size,2,FX⟩=FZ (FQ sa t.ss.length sc)));clear hW0;go_wp2_with fail;refine(G5 CO _ B0).mono ?_;rintro e w1 ⟨rfl,hb1⟩;obtain⟨c0,c1,c2⟩:=G5 BX w1 hb1;clear b0 b1 b2;go_wp2_with fail;refine(G5 CN _ (G8 B0 hb1)).mono ?_;rintro e w2 ⟨rfl,rfl⟩;go_wp2_with fail;refine(G5 CC _ (G8 B0 hb1)).mono ?_;rintro e w3 ⟨rfl,hC3,hb3⟩;have hb3':=G8 hb1 hb3;obtain⟨d0,d1,d2⟩:=G5 BX w3 hb3';have HC:=G6 hC3;clear c0 c1 c2 CO CN CC CZ hC3;go_wp2_with fail
 go_loopg [28] t.ns.length (fun kx i wr=>∃k:Nat,i=.int .i64 k/\k<=t.ns.length/\t.ns.length-k<=kx/\Hid (Below W0.heap.size W0 wr)/\Hid (oP wr w2.heap.size 400 t.ns)/\Hid (OkG t k))
 case atStart=>exact⟨0,rfl,AY _,A8 _,G6 hb3',HC,G6 (fun i hi=>absurd hi (Nat.not_lt_zero _))⟩
 case round=>
  obtain⟨k,rfl,hk,hg,hB,hC,hO⟩:=hrel;obtain⟨x0,x1,x2⟩:=G5 BX wr (G5 hB);clear d0 d1 d2;by_cases hlt:k<t.ns.length
  .obtain⟨x,hx⟩:∃x,t.ns[k]?=FZ x:=⟨_,AL hlt⟩;have hBw:Below w.heap.size w wr:=G8 B0 (G5 hB);have q:=(G5 H).kept hBw hb;have d0:=q.n0 hx;have d1:=q.n1 hx;have d2:=q.n2 hx;have d3:=q.n3 hx;have d4:=q.n4 hx;have d5:=q.n5 hx;have d6:=q.n6 hx;have d7:=q.n7 hx;have d8:=q.n8 hx;have hbw:b<wr.heap.size:=AX hb hBw.size;have hww:w.heap.size<wr.heap.size:=AX hsz (G5 hB).size;have sl:=G5 SL x (AZ hx);have sld:=sl.2;have HX:=G6 hx;have SLP:=G6 sl.1;clear q hx sl;by_cases hd:x.d.length<=256
   .have HD:=G6 hd
    cases hh:pd (BL8 t.ns x.p)with
    |false=>
     have G:=G6 (G5 NO x k (G5 HX) (fun p=>by have:=SV p.held;rw[hh]at this;cases this));go_wp2_with fail;refine(G5 CH x.p _ (G8 hBw (G7 _ _))).mono ?_;rintro e w4 ⟨rfl,hb4⟩;have hB4:=G8 hBw (GU hb4);rw[hh];clear hb4 d0 d1 d2 d3 d4 d5 d6 d7 d8 x0 x1 x2;go_wp2_with fail;go_ret;exact⟨JD (G5 G).symm,hB4⟩
    |true=>
     have HH:=G6 hh;go_wp2_with fail;refine(G5 CH x.p _ (G8 hBw (G7 _ _))).mono ?_;rintro e w4 ⟨rfl,hb4⟩;have hB4:=G8 hBw (GU hb4);have hB40:=G8 (G5 hB) (GU hb4);rw[hh];clear hh;have r:=fun(j:Nat) (hj:j<9)=>hb4.cell (p:=⟨wr.heap.size,j,FX⟩) (by simp);have y0:w4.cell? ⟨wr.heap.size,0,FX⟩=FZ (.string ⟨x.p.toArray⟩):=by rw[r 0 (by omega)];simp
     have y2:w4.cell? ⟨wr.heap.size,2,FX⟩=FZ (.int .i64 x.c):=by rw[r 2 (by omega)];simp
     have y3:w4.cell? ⟨wr.heap.size,3,FX⟩=FZ (.int .i64 x.m):=by rw[r 3 (by omega)];simp
     have y4:w4.cell? ⟨wr.heap.size,4,FX⟩=FZ (.int .i64 x.q):=by rw[r 4 (by omega)];simp
     have y5:w4.cell? ⟨wr.heap.size,5,FX⟩=FZ (.int .i64 x.v):=by rw[r 5 (by omega)];simp
     have y6:w4.cell? ⟨wr.heap.size,6,FX⟩=FZ (.int .i64 x.k):=by rw[r 6 (by omega)];simp
     have y7:w4.cell? ⟨wr.heap.size,7,FX⟩=FZ (.int .i64 x.o):=by rw[r 7 (by omega)];simp
     have y8:w4.cell? ⟨wr.heap.size,8,FX⟩=FZ (.int .i64 x.n):=by rw[r 8 (by omega)];simp
     obtain⟨z0,z1,z2⟩:=G5 BX w4 hB40;have hC4:=kS (G5 hC) (GU hb4);have HC4:=G6 hC4;obtain⟨D,ho4,_,hD⟩:=hC4;have hkey:keyOf prog 9 (.string ⟨x.p.toArray⟩)=FZ (.string x.p):=by
      have:=keyOf_string_mk (P:=prog) underlying9 (s:=⟨x.p.toArray⟩) (by have:=G5 SLP;simp only[maxLen,ByteArray.size,List.size_toArray];omega);simpa using this
     obtain⟨c,hrun,hat,_⟩:=ho4.lookup_int CV0 underlying236 underlying3 (CK2 _) hkey;have hcc:c=(NY t.ns x.p:Int):=by
      rw[hD]at hat;simpa using hat.symm
     subst hcc;clear r hat hD ho4 hkey hb4 d0 d1 d2 d3 d4 d5 d6 d7 d8 x0 x1 x2;have CSX:=G5 CSD x (NY t.ns x.p) w4 hB4;unfold C33 at CSX
     cases hs:pd (fQ t.z x (NY t.ns x.p) t.ss)with
     |false=>
      have G:=G6 (G5 NO x k (G5 HX) (fun p=>by have:=SV p.sound;rw[hs]at this;cases this));rw[hs]at CSX;clear hs;go_wp2_with fail;refine CSX.mono ?_;rintro e w5 ⟨rfl,hb5⟩;have hB5:=G8 hB4 hb5;clear CSX hrun z0 z1 z2 y0 y2 y3 y4 y5 y6 y7 y8;go_wp2_with fail;go_ret;exact⟨JD (G5 G).symm,hB5⟩
     |true=>
      have O2:=G6 (BM6 (G5 hO) (G5 HX) ⟨G5 HD,BY3.1 (G5 HH),BY3.1 hs⟩);rw[hs]at CSX;clear hs;go_wp2_with fail;refine CSX.mono ?_;rintro e w5 ⟨rfl,hb5⟩;have HB5:=G6 (G8 hB40 hb5);have HC5:=G6 (kS (G5 HC4) hb5);clear CSX hrun z0 z1 z2 y0 y2 y3 y4 y5 y6 y7 y8 hb5;go_wp2_with fail
      go_roundg (t.ns.length-(k+1))
      case measure=>omega
      case rel=>exact⟨k+1,rfl,by omega,A8 _,HB5,HC5,O2⟩
   .have G:=G6 (G5 NO x k (G5 HX) (fun p=>hd p.data));go_wp2_with fail;go_ret;exact⟨JD (G5 G).symm,G8 hBw (G7 _ _)⟩
  .obtain rfl:k=t.ns.length:=by omega
   have hBw:Below w.heap.size w wr:=G8 B0 (G5 hB);have d7:=((G5 H).kept hBw hb).n7 (G5 HR0);have G:=G6 (G5 YES (G5 hO));simp only[Nat.zero_mul,Nat.add_zero]at d7;go_wp2_with fail;go_ret;exact⟨JD ((G5 G).trans (by rfl)).symm,hBw⟩
theorem bK(t:Tr)(vn vs:FV)(w:FU)(hn:IU w vn t.ns)(hs:IU w vs t.ss)(hw:WfT t):
  FW prog 126 #[.agg #[I0 t.z,vn,vs]] w (R0 w (.bool (UC t))):=by
 by_cases hz:KD t.z=true
 .by_cases ho:AD1 t.ns
  .by_cases ha:qR t.ss
   .exact AN7 t vn vs w hn hs hw hz ho ha
   .have F:=G6 (A37 (t:=t) (fun h=>ha h.2.2)).symm;have CZ:=fun W=>JH t.z W;rw[hz]at CZ;have CO:=G6 (fun W (h:B0 w W)=>ZR vn t.ns W (hn.next h));have CN:=G6 (fun W (h:B0 w W)=>fU vs t.ss W (hs.next h) hw.ses);simp only[SV ho]at CO;simp only[RX ha]at CN;obtain⟨na,nc,rfl⟩:=GK hn;obtain⟨sa,sc,rfl⟩:=GK hs;clear hn hs hw hz ho ha;go_enter func126,ntmps126;go_wp2_with fail;refine(CZ _).mono ?_;rintro e w0 ⟨rfl,rfl⟩;go_wp2_with fail;refine(G5 CO _ (G7 _ _)).mono ?_;rintro e w1 ⟨rfl,hb1⟩;have c2:w1.cell? ⟨w.heap.size,2,FX⟩=FZ (FQ sa t.ss.length sc):=by rw[hb1.cell (p:=⟨w.heap.size,2,FX⟩) (by simp)];simp
    have HB:=G6 (GU hb1);clear hb1;go_wp2_with fail;refine(G5 CN _ (G5 HB)).mono ?_;rintro e w2 ⟨rfl,rfl⟩;go_wp2_with fail;go_ret;exact⟨JD (G5 F),G5 HB⟩
  .have F:=G6 (A37 (t:=t) (fun h=>ho h.2.1)).symm;have CZ:=fun W=>JH t.z W;rw[hz]at CZ;have CO:=G6 (fun W (h:B0 w W)=>ZR vn t.ns W (hn.next h));simp only[RX ho]at CO;obtain⟨na,nc,rfl⟩:=GK hn;obtain⟨sa,sc,rfl⟩:=GK hs;clear hn hs hw hz ho;go_enter func126,ntmps126;go_wp2_with fail;refine(CZ _).mono ?_;rintro e w0 ⟨rfl,rfl⟩;go_wp2_with fail;refine(G5 CO _ (G7 _ _)).mono ?_;rintro e w1 ⟨rfl,hb1⟩;have HB:=G6 (GU hb1);clear hb1;go_wp2_with fail;go_ret;exact⟨JD (G5 F),G5 HB⟩
 .have F:=G6 (A37 (t:=t) (fun h=>hz h.1)).symm;have hz':KD t.z=false:=by simpa using hz
  have CZ:=fun W=>JH t.z W;rw[hz']at CZ;obtain⟨na,nc,rfl⟩:=GK hn;obtain⟨sa,sc,rfl⟩:=GK hs;clear hn hs hw hz hz';go_enter func126,ntmps126;go_wp2_with fail;refine(CZ _).mono ?_;rintro e w0 ⟨rfl,rfl⟩;go_wp2_with fail;go_ret;exact⟨JD (G5 F),G7 _ _⟩
theorem B26(h:UC t=false):UZ t x=3:=by rw[UZ,if_pos h]
theorem C58(h:UC t=true)(h1:gdE x≠0):UZ t x=gdE x:=by rw[UZ,if_neg (by simp[h]),if_pos h1]
theorem BM8(h:UC t=true)(h1:gdE x=0):UZ t x=(if x.z<=t.z then 13 else if x.o=1/\x.s∈t.ss then 8 else if x.o≠1/\x.s∉t.ss then 12 else 0):=by
 rw[UZ,if_neg (by simp[h]),if_neg (by omega)]
theorem A38(t:Tr)(vn vs:FV)(x:GI)(w:FU)(hn:IU w vn t.ns)(hs:IU w vs t.ss)(hw:WfT t)(hg:UC t=false):
  FW prog 167 #[.agg #[I0 t.z,vn,vs],J8 x] w (R0 w (I0 3)):=by
 have CG:=G6 (fun W (hW:B0 w W)=>bK t vn vs W (hn.next hW) (hs.next hW) hw);rw[hg]at CG;obtain⟨na,nc,rfl⟩:=GK hn;obtain⟨sa,sc,rfl⟩:=GK hs;clear hn hs hw hg;obtain⟨xz,xo,xs,xp,xd,xv,xw⟩:=x;unfold J8;go_enter func167,ntmps167;go_wp2_with fail;refine(G5 CG _ (G8 (G7 _ _) (G7 _ _))).mono ?_;rintro e w1 ⟨rfl,hb1⟩;have HB:=G6 (G8 (G8 (G7 _ _) (G7 _ _)) hb1);clear hb1;go_wp2_with fail;go_ret;exact⟨rfl,G5 HB⟩
theorem B27(t:Tr)(vn vs:FV)(x:GI)(w:FU)(hn:IU w vn t.ns)(hs:IU w vs t.ss)(hw:WfT t)(hd:x.d.length<=140737488355328)(hg:UC t=true)(hx:gdE x≠0):
  FW prog 167 #[.agg #[I0 t.z,vn,vs],J8 x] w (R0 w (I0 (gdE x))):=by
 have CG:=G6 (fun W (hW:B0 w W)=>bK t vn vs W (hn.next hW) (hs.next hW) hw);rw[hg]at CG;have CW:=G6 (fun W=>XI x W hd);obtain⟨na,nc,rfl⟩:=GK hn;obtain⟨sa,sc,rfl⟩:=GK hs;have hxb:(gdE x !=0)=true:=by simpa using hx
 clear hn hs hw hg hx;have KX:∀W:FU,Below (w.alloc (FT #[I0 t.z,FQ na t.ns.length nc,FQ sa t.ss.length sc] 61)).heap.size (w.alloc (FT #[I0 t.z,FQ na t.ns.length nc,FQ sa t.ss.length sc] 61)) W->B0 w W:=fun W h=>GU h;have HKX:=G6 KX;generalize gdE x=E at hxb CW⊢;obtain⟨xz,xo,xs,xp,xd,xv,xw⟩:=x;unfold J8 at CW⊢;simp only at CW⊢;have KT:∀w1,Below ((w.alloc (FT #[I0 t.z,FQ na t.ns.length nc,FQ sa t.ss.length sc] 61)).alloc (FT #[I0 xz,I0 xo,I0 xs,S0 xp,S0 xd,I0 xv,I0 xw] 93)).heap.size ((w.alloc (FT #[I0 t.z,FQ na t.ns.length nc,FQ sa t.ss.length sc] 61)).alloc (FT #[I0 xz,I0 xo,I0 xs,S0 xp,S0 xd,I0 xv,I0 xw] 93)) w1->TAt w1 (w.heap.size+1) ⟨xz,xo,xs,xp,xd,xv,xw⟩:=fun w1 h1=>by
  have:=(TAt.new (w.alloc (FT #[I0 t.z,FQ na t.ns.length nc,FQ sa t.ss.length sc] 61)) ⟨xz,xo,xs,xp,xd,xv,xw⟩).next h1;simpa using this
 have HKT:=G6 KT;clear KX KT;go_enter func167,ntmps167;go_wp2_with fail;refine(G5 CG _ (G8 (G7 _ _) (G7 _ _))).mono ?_;rintro e w1 ⟨rfl,hb1⟩;have HB:=G6 (G8 (G8 (G7 _ _) (G7 _ _)) hb1);have tx:=G5 HKT w1 hb1;have y0:=tx.c0;have y1:=tx.c1;have y2:=tx.c2;have y3:=tx.c3;have y4:=tx.c4;have y5:=tx.c5;have y6:=tx.c6;clear hb1 tx;go_wp2_with fail;refine(G5 CW _).mono ?_;rintro e w2 ⟨rfl,hb2⟩;have HB2:=G6 (G8 (G5 HB) hb2);clear hb2;go_wp2_with fail;go_ret;exact⟨rfl,G5 HB2⟩
theorem AN8(t:Tr)(vn vs:FV)(x:GI)(w:FU)(hn:IU w vn t.ns)(hs:IU w vs t.ss)(hw:WfT t)(hd:x.d.length<=140737488355328)(hg:UC t=true)(hx:gdE x=0):
  FW prog 167 #[.agg #[I0 t.z,vn,vs],J8 x] w (R0 w (I0 (UZ t x))):=by
 have CG:=G6 (fun W (hW:B0 w W)=>bK t vn vs W (hn.next hW) (hs.next hW) hw);have CO:=fun W (hW:B0 w W)=>bI t.z vn vs t.ss x.s W (hs.next hW) (OL.1 hg).ses;rw[hg]at CG;have CW:=G6 (fun W=>XI x W hd);rw[hx]at CW;rw[BM8 hg hx];generalize hr:(if x.z<=t.z then(13:Int)else if x.o=1/\x.s∈t.ss then 8 else if x.o≠1/\x.s∉t.ss then 12 else 0)=r;have q:(decide (x.z<=t.z)=true/\r=13)\/(decide (x.z<=t.z)=false/\(((x.o==1)=true/\(x.o !=1)=false/\((decide (x.s∈t.ss)=true/\r=8)\/(decide (x.s∈t.ss)=false/\r=0)))\/((x.o==1)=false/\(x.o !=1)=true/\((decide (x.s∈t.ss)=true/\r=0)\/(decide (x.s∈t.ss)=false/\r=12))))):=by
  subst hr;by_cases h1:x.z<=t.z<;>by_cases h2:x.o=1<;>by_cases h3:x.s∈t.ss<;>simp[h1,h2,h3]
 generalize decide (x.s∈t.ss)=op at CO q;clear hr;rcases q with⟨q1,rfl⟩|⟨q1,⟨q2,q3,⟨rfl,rfl⟩|⟨rfl,rfl⟩⟩|⟨q2,q3,⟨rfl,rfl⟩|⟨rfl,rfl⟩⟩⟩
 all_goals
  have HCO:=G6 CO;obtain⟨na,nc,rfl⟩:=GK hn;obtain⟨sa,sc,rfl⟩:=GK hs;clear hn hs hw hg hx CO;obtain⟨xz,xo,xs,xp,xd,xv,xw⟩:=x;unfold J8 at CW⊢;simp only at*;have KT:∀w1,Below ((w.alloc (FT #[I0 t.z,FQ na t.ns.length nc,FQ sa t.ss.length sc] 61)).alloc (FT #[I0 xz,I0 xo,I0 xs,S0 xp,S0 xd,I0 xv,I0 xw] 93)).heap.size ((w.alloc (FT #[I0 t.z,FQ na t.ns.length nc,FQ sa t.ss.length sc] 61)).alloc (FT #[I0 xz,I0 xo,I0 xs,S0 xp,S0 xd,I0 xv,I0 xw] 93)) w1->TAt w1 (w.heap.size+1) ⟨xz,xo,xs,xp,xd,xv,xw⟩/\w1.heap[w.heap.size]?=FZ (FT #[I0 t.z,FQ na t.ns.length nc,FQ sa t.ss.length sc] 61 (0,0)):=fun w1 h1=>by
   have:=(TAt.new (w.alloc (FT #[I0 t.z,FQ na t.ns.length nc,FQ sa t.ss.length sc] 61)) ⟨xz,xo,xs,xp,xd,xv,xw⟩).next h1;refine⟨by simpa using this,?_⟩;rw[h1.block _ (by simp;omega)];rw[(G7 (w.alloc (FT #[I0 t.z,FQ na t.ns.length nc,FQ sa t.ss.length sc] 61)) (FT #[I0 xz,I0 xo,I0 xs,S0 xp,S0 xd,I0 xv,I0 xw] 93)).block _ (by simp)];exact heap_alloc_new w _
  have HKT:=G6 KT;clear KT;go_enter func167,ntmps167;go_wp2_with fail;refine(G5 CG _ (G8 (G7 _ _) (G7 _ _))).mono ?_;rintro e w1 ⟨rfl,hb1⟩;have HB:=G6 (G8 (G8 (G7 _ _) (G7 _ _)) hb1);obtain⟨tx,tt⟩:=G5 HKT w1 hb1;have y0:=tx.c0;have y1:=tx.c1;have y2:=tx.c2;have y3:=tx.c3;have y4:=tx.c4;have y5:=tx.c5;have y6:=tx.c6;have HTX:=G6 tx;have HTT:=G6 tt;clear hb1 tx tt;go_wp2_with fail;refine(G5 CW _).mono ?_;rintro e w2 ⟨rfl,hb2⟩;have HB2:=G6 (G8 (G5 HB) hb2);have tx2:=(G5 HTX).next hb2;have tt2:=(hb2.block _ (AB.1 (G5 HTT)).1).trans (G5 HTT);have u0:=tx2.c0;have u1:=tx2.c1;have u2:=tx2.c2;have v0:w2.cell? ⟨w.heap.size,0,FX⟩=FZ (I0 t.z):=by simp[AV,tt2]
  have v1:w2.cell? ⟨w.heap.size,1,FX⟩=FZ (FQ na t.ns.length nc):=by simp[AV,tt2]
  have v2:w2.cell? ⟨w.heap.size,2,FX⟩=FZ (FQ sa t.ss.length sc):=by simp[AV,tt2]
  have A33:=G6 tx2;have HTT2:=G6 tt2;clear hb2 y0 y1 y2 y3 y4 y5 y6 tx2 tt2;go_wp2_with fail;refine(G5 HCO _ (G5 HB2)).mono ?_;rintro e w3 ⟨rfl,hb3⟩;have HB3:=G6 (G8 (G5 HB2) hb3);have tx3:=(G5 A33).next hb3;have tt3:=(hb3.block _ (AB.1 (G5 HTT2)).1).trans (G5 HTT2);have z0:=tx3.c0;have z1:=tx3.c1;have r0:w3.cell? ⟨w.heap.size,0,FX⟩=FZ (I0 t.z):=by simp[AV,tt3]
  clear hb3 u0 u1 u2 v0 v1 v2 tx3 tt3;go_wp2_with fail;go_ret;exact⟨rfl,G5 HB3⟩
theorem xH(t:Tr)(vn vs:FV)(x:GI)(w:FU)(hn:IU w vn t.ns)(hs:IU w vs t.ss)(hw:WfT t)(hd:x.d.length<=140737488355328):
  FW prog 167 #[.agg #[I0 t.z,vn,vs],J8 x] w (R0 w (I0 (UZ t x))):=by
 cases hg:UC t with
 |false=>rw[B26 hg];exact A38 t vn vs x w hn hs hw hg
 |true=>
  by_cases hx:gdE x=0
  .exact AN8 t vn vs x w hn hs hw hd hg hx
  .rw[C58 hg hx];exact B27 t vn vs x w hn hs hw hd hg hx
theorem GZ.raise{α:Type}[Lay α]{v:FV}{xs:List α}(h:GZ W 0 v xs)(hb:∀k,v.ownBlock=FZ k->B<=k):GZ W B v xs:=by
 rcases h with h|⟨g,cap,rfl,_,h⟩
 .exact .inl h
 .exact .inr ⟨g,cap,rfl,hb g rfl,h⟩
def bM(w:FU)(t:Tr)(x:GI)(e:Ending)(w':FU):Prop:=
 ∃vn vs ve,e=.returned (.tuple #[.agg #[I0 (WY t x).z,vn,vs],ve,I0 (WG t x)])/\GZ w' w.heap.size vn (WY t x).ns/\GZ w' w.heap.size vs (WY t x).ss/\GZ w' w.heap.size ve (YJ t x)/\B0 w w'
theorem AD3(hE:WG t x=E)(h0:E≠0)(he:e=.returned (.tuple #[.agg #[I0 0,N0,N0],N0,I0 E]))(hb:B0 w w'):bM w t x e w':=by
 have h1:WY t x=tr0:=by rw[WY,if_neg (by omega)]
 have h2:YJ t x=[]:=by rw[YJ,if_neg (by omega)]
 refine⟨N0,N0,N0,?_,?_,?_,?_,hb⟩
 .rw[hE,h1];exact he
 .rw[h1];exact .inl ⟨rfl,rfl⟩
 .rw[h1];exact .inl ⟨rfl,rfl⟩
 .rw[h2];exact .inl ⟨rfl,rfl⟩
structure zK(W:FU)(q:Nat)(z:Int)(vn vs:FV)(x:GI):Prop where
 t:W.heap[q]?=FZ (FT #[I0 z,vn,vs] 61 (0,0))
 x:TAt W (q+1) x
 r:W.heap[q+2]?=FZ (FT #[I0 0,N0,N0] 61 (0,0))
theorem zK.new(w:FU)(z:Int)(vn vs:FV)(x:GI):zK (((w.alloc (FT #[I0 z,vn,vs] 61)).alloc (FT #[I0 x.z,I0 x.o,I0 x.s,S0 x.p,S0 x.d,I0 x.v,I0 x.w] 93)).alloc (FT #[I0 0,N0,N0] 61)) w.heap.size z vn vs x:=by
 refine⟨?_,?_,?_⟩
 .rw[(G7 _ _).block _ (by simp;omega),(G7 _ _).block _ (by simp)];exact heap_alloc_new w _
 .have h:=(TAt.new (w.alloc (FT #[I0 z,vn,vs] 61)) x).next (G7 _ (FT #[I0 0,N0,N0] 61));simpa using h
 .have h:=heap_alloc_new ((w.alloc (FT #[I0 z,vn,vs] 61)).alloc (FT #[I0 x.z,I0 x.o,I0 x.s,S0 x.p,S0 x.d,I0 x.v,I0 x.w] 93)) (FT #[I0 0,N0,N0] 61);rw[show ((w.alloc (FT #[I0 z,vn,vs] 61)).alloc (FT #[I0 x.z,I0 x.o,I0 x.s,S0 x.p,S0 x.d,I0 x.v,I0 x.w] 93)).heap.size=w.heap.size+2 by simp]at h;exact h
theorem zK.lt(h:zK W q z vn vs x):q+2<W.heap.size:=(AB.1 h.r).1
theorem zK.touch(h:zK W q z vn vs x)(ht:Touch F W V)(hf:∀k,F k->q+3<=k):zK V q z vn vs x:=by
 have:=h.lt;have n0:∀k,k<q+3->¬F k:=fun k hk hF=>by have:=hf k hF;omega
 exact⟨(ht.block _ (by omega) (n0 _ (by omega))).trans h.t,(ht.block _ (by omega) (n0 _ (by omega))).trans h.x,(ht.block _ (by omega) (n0 _ (by omega))).trans h.r⟩
theorem zK.next(h:zK W q z vn vs x)(hb:B0 W V):zK V q z vn vs x:=h.touch (F:=fun _=>False) (Touch.of_below hb) (fun _ hF=>hF.elim)
theorem zK.cells(h:zK W q z vn vs x):W.cell? ⟨q,0,FX⟩=FZ (I0 z)/\W.cell? ⟨q,1,FX⟩=FZ vn/\W.cell? ⟨q,2,FX⟩=FZ vs/\W.cell? ⟨q+2,0,FX⟩=FZ (I0 0)/\W.cell? ⟨q+2,1,FX⟩=FZ (N0)/\W.cell? ⟨q+2,2,FX⟩=FZ (N0)/\W.frozen? ⟨q+2,0,FX⟩=false/\W.frozen? ⟨q+2,1,FX⟩=false/\W.frozen? ⟨q+2,2,FX⟩=false:=by
 have h1:=h.t;have h2:=h.r;refine⟨?_,?_,?_,?_,?_,?_,?_,?_,?_⟩<;>simp[AV,World.frozen?,h1,h2]
theorem B28(t:Tr)(vn vs:FV)(x:GI)(w:FU)(hn:IU w vn t.ns)(hs:IU w vs t.ss)(hw:WfT t)(hd:x.d.length<=140737488355328)(ha:UZ t x≠0):
  FW prog 128 #[.agg #[I0 t.z,vn,vs],J8 x] w (bM w t x):=by
 have CA:=G6 (fun W (hW:B0 w W)=>xH t vn vs x W (hn.next hW) (hs.next hW) hw hd);have FIN:=G6 (fun w' e h hb=>AD3 (w:=w) (w':=w') (e:=e) (BL7 ha) ha h hb);have hab:(UZ t x !=0)=true:=by simpa using ha
 obtain⟨na,nc,rfl⟩:=GK hn;obtain⟨sa,sc,rfl⟩:=GK hs;clear hn hs hw ha;generalize UZ t x=E at hab CA FIN;generalize hQ:bM w t x=Q at FIN⊢;clear hQ;obtain⟨xz,xo,xs,xp,xd,xv,xw⟩:=x;unfold J8 at*;simp only at*;have KB:∀W,Below (((w.alloc (FT #[I0 t.z,FQ na t.ns.length nc,FQ sa t.ss.length sc] 61)).alloc (FT #[I0 xz,I0 xo,I0 xs,S0 xp,S0 xd,I0 xv,I0 xw] 93)).alloc (FT #[I0 0,N0,N0] 61)).heap.size (((w.alloc (FT #[I0 t.z,FQ na t.ns.length nc,FQ sa t.ss.length sc] 61)).alloc (FT #[I0 xz,I0 xo,I0 xs,S0 xp,S0 xd,I0 xv,I0 xw] 93)).alloc (FT #[I0 0,N0,N0] 61)) W->zK W w.heap.size t.z (FQ na t.ns.length nc) (FQ sa t.ss.length sc) ⟨xz,xo,xs,xp,xd,xv,xw⟩/\B0 w W:=fun W h=>⟨(zK.new w _ _ _ ⟨xz,xo,xs,xp,xd,xv,xw⟩).next h,GU (GU (GU h))⟩;have HKB:=G6 KB;clear KB;go_enter func128,ntmps128;go_wp2_with fail;refine(G5 CA _ (G8 (G8 (G7 _ _) (G7 _ _)) (G7 _ _))).mono ?_;rintro e w1 ⟨rfl,hb1⟩;obtain⟨b1,B1⟩:=G5 HKB w1 hb1;obtain⟨k0,k1,k2,k3,k4,k5,k6,k7,k8⟩:=b1.cells;have j0:=b1.x.c0;have j1:=b1.x.c1;have j2:=b1.x.c2;have j3:=b1.x.c3;have j4:=b1.x.c4;have j5:=b1.x.c5;have j6:=b1.x.c6;have HB1:=G6 B1;have HX1:=G6 b1;clear hb1 b1 B1;go_wp2_with fail;exact bodyPost_ret (v:=.tuple #[.agg #[I0 0,N0,N0],N0,I0 E]) (by simp[results,results128,go_sem,k3,k4,k5]) rfl (G5 FIN _ _ rfl ((((G5 HB1).setCell (by show w.heap.size<=w.heap.size+1+1;omega) _).setCell (by show w.heap.size<=w.heap.size+1+1;omega) _).setCell (by show w.heap.size<=w.heap.size+1+1;omega) _))
theorem B29{ve:FV}{v0 v1 v2:FV}(ha:WG t x=0)(hg:Grow W (fun k=>B<=k) b x.z vn vs ve (aT t x) (mY t x) (nZ t x))(hq:w.heap.size+3<=B)(hb:B0 w W):
  bM w t x (.returned (.tuple #[.agg #[I0 x.z,vn,vs],ve,I0 0])) (((W.setCell ⟨w.heap.size+2,0,FX⟩ v0).setCell ⟨w.heap.size+2,1,FX⟩ v1).setCell ⟨w.heap.size+2,2,FX⟩ v2).drew:=by
 have h1:WY t x=⟨x.z,aT t x,mY t x⟩:=by rw[WY,if_pos ha]
 have h2:YJ t x=nZ t x:=by rw[YJ,if_pos ha]
 have nn:∀k,vn.ownBlock=FZ k->w.heap.size+3<=k:=fun k hk=>BM hq (hg.fn k hk).1;have ns:∀k,vs.ownBlock=FZ k->w.heap.size+3<=k:=fun k hk=>BM hq (hg.fs k hk).1;have ne:∀k,ve.ownBlock=FZ k->w.heap.size+3<=k:=fun k hk=>BM hq (hg.fe k hk).1;have no:∀ {v:FV},(∀k,v.ownBlock=FZ k->w.heap.size+3<=k)->v.ownBlock≠FZ (w.heap.size+2):=fun h e=>by have:=h _ e;omega
 refine⟨vn,vs,ve,by rw[h1,ha],?_,?_,?_,?_⟩
 .rw[h1];exact(((hg.n.raise (fun k hk=>by have:=nn k hk;omega)).other (no nn) _).other (no nn) _).other (no nn) _|>.next (AA _ _).drew
 .rw[h1];exact(((hg.s.raise (fun k hk=>by have:=ns k hk;omega)).other (no ns) _).other (no ns) _).other (no ns) _|>.next (AA _ _).drew
 .rw[h2];exact(((hg.e.raise (fun k hk=>by have:=ne k hk;omega)).other (no ne) _).other (no ne) _).other (no ne) _|>.next (AA _ _).drew
 .exact(((hb.setCell (by simp) _).setCell (by simp) _).setCell (by simp) _).drew
theorem B30(t:Tr)(vn vs:FV)(x:GI)(w:FU)(hn:IU w vn t.ns)(hs:IU w vs t.ss)(hw:WfT t)(hd:x.d.length<=140737488355328)(ha:UZ t x=0):
  FW prog 128 #[.agg #[I0 t.z,vn,vs],J8 x] w (bM w t x):=by
 have CA:=G6 (fun W (hW:B0 w W)=>xH t vn vs x W (hn.next hW) (hs.next hW) hw hd);rw[ha]at CA;obtain⟨g,_⟩:=PG ha;have few:=g.nod.few;have sl:=VF g.ses;have CB:=G6 (fun W (hW:B0 w W)=>B13 t vn vs x.z W (hn.next hW) (hs.next hW) few sl hw.CK3);have CC:=G6 (fun(F:Nat->Prop) b vn' vs' W (hG:Grow W F b x.z vn' vs' (N0) t.ns t.ss []) hF=>AN5 F b t vn' vs' x W hG hF ha);have hap:=iM ha;have FNO:=G6 (fun w' e (h0:oN t x≠0) h hb=>AD3 (w:=w) (w':=w') (e:=e) hap h0 h hb);have FYE:=G6 (fun(W:FU) (B b:Nat) (vn vs ve v0 v1 v2:FV) (h0:oN t x=0) hg hq hb=>B29 (w:=w) (W:=W) (t:=t) (x:=x) (B:=B) (b:=b) (vn:=vn) (vs:=vs) (ve:=ve) (v0:=v0) (v1:=v1) (v2:=v2) (hap.trans h0) hg hq hb);obtain⟨na,nc,rfl⟩:=GK hn;obtain⟨sa,sc,rfl⟩:=GK hs;clear hn hs hw ha hap g few sl;generalize hQ:bM w t x=Q at FNO FYE⊢;clear hQ;obtain⟨E,hE⟩:∃E,oN t x=E:=⟨_,rfl⟩;unfold Chg at CC;rw[hE]at CC FNO FYE;clear hE;obtain⟨xz,xo,xs,xp,xd,xv,xw⟩:=x;unfold J8 at*;simp only at*;have KB:∀W,Below (((w.alloc (FT #[I0 t.z,FQ na t.ns.length nc,FQ sa t.ss.length sc] 61)).alloc (FT #[I0 xz,I0 xo,I0 xs,S0 xp,S0 xd,I0 xv,I0 xw] 93)).alloc (FT #[I0 0,N0,N0] 61)).heap.size (((w.alloc (FT #[I0 t.z,FQ na t.ns.length nc,FQ sa t.ss.length sc] 61)).alloc (FT #[I0 xz,I0 xo,I0 xs,S0 xp,S0 xd,I0 xv,I0 xw] 93)).alloc (FT #[I0 0,N0,N0] 61)) W->zK W w.heap.size t.z (FQ na t.ns.length nc) (FQ sa t.ss.length sc) ⟨xz,xo,xs,xp,xd,xv,xw⟩/\B0 w W:=fun W h=>⟨(zK.new w _ _ _ ⟨xz,xo,xs,xp,xd,xv,xw⟩).next h,GU (GU (GU h))⟩;have HKB:=G6 KB;clear KB;go_enter func128,ntmps128;go_wp2_with fail;refine(G5 CA _ (G8 (G8 (G7 _ _) (G7 _ _)) (G7 _ _))).mono ?_;rintro e w1 ⟨rfl,hb1⟩;obtain⟨b1,B1⟩:=G5 HKB w1 hb1;obtain⟨k0,k1,k2,k3,k4,k5,k6,k7,k8⟩:=b1.cells;have j0:=b1.x.c0;have j1:=b1.x.c1;have j2:=b1.x.c2;have j3:=b1.x.c3;have j4:=b1.x.c4;have j5:=b1.x.c5;have j6:=b1.x.c6;have HB1:=G6 B1;have HX1:=G6 b1;clear hb1 b1 B1;go_wp2_with fail;refine(G5 CB _ (G5 HB1)).mono ?_;rintro e w2 ⟨b,vn2,vs2,rfl,g2,hb2⟩;have b2:=(G5 HX1).next hb2;obtain⟨m0,m1,m2,m3,m4,m5,m6,m7,m8⟩:=b2.cells;have i0:=b2.x.c0;have i1:=b2.x.c1;have i2:=b2.x.c2;have i3:=b2.x.c3;have i4:=b2.x.c4;have i5:=b2.x.c5;have i6:=b2.x.c6;have HB2:=G6 (G8 (G5 HB1) hb2);have HX2:=G6 b2;have HG2:=G6 g2;have hsz2:=hb2.size;clear hb2 g2 b2 k0 k1 k2 k3 k4 k5 k6 k7 k8 j0 j1 j2 j3 j4 j5 j6 CB CA;go_wp2_with fail;refine(G5 CC _ _ _ _ _ (G5 HG2) (fun k hk=>BM hsz2 hk)).mono ?_;rintro e w3 ⟨rfl,t3,g3⟩;have q1:=(G5 HX1).lt;have b3:=(G5 HX2).touch t3 (fun k hk=>by omega);obtain⟨n0,n1,n2,n3,n4,n5,n6,n7,n8⟩:=b3.cells;have B3:B0 w w3:=(G5 HB2).trans (t3.below (by omega) (fun k hk=>by omega));have HB3:=G6 B3;clear CC b3 B3 t3 m0 m1 m2 m3 m4 m5 m6 m7 m8 i0 i1 i2 i3 i4 i5 i6;by_cases h0:E=0
 .obtain⟨vn3,vs3,ve3,g3⟩:=g3 h0;have d0:=g3.c0;have d1:=g3.c1;have d2:=g3.c2;have d3:=g3.c3;obtain⟨na3,nc3,hn3,_⟩:=g3.n.slice;obtain⟨sa3,sc3,hs3,_⟩:=g3.s.slice;obtain⟨ea3,ec3,he3,_⟩:=g3.e.slice;have HG3:=G6 g3;have hbl:=g3.lt;have hbq:w1.heap.size<=b:=g3.fb;have hne:b≠w.heap.size+2:=by omega
  have FY:=G6 (fun(v0 v1 v2:FV)=>G5 FYE w3 w1.heap.size b vn3 vs3 ve3 v0 v1 v2 h0 (G5 HG3) (by omega) (G5 HB3));subst hn3 hs3 he3 h0;clear g3 FYE FNO HG3;go_wp2_with fail;go_region;go_wp2_with fail;exact bodyPost_ret (v:=.tuple #[.agg #[I0 xz,FQ na3 (aT t ⟨xz,xo,xs,xp,xd,xv,xw⟩).length nc3,FQ sa3 (mY t ⟨xz,xo,xs,xp,xd,xv,xw⟩).length sc3],FQ ea3 (nZ t ⟨xz,xo,xs,xp,xd,xv,xw⟩).length ec3,I0 0]) (by simp[results,results128,go_sem,n3,n4,n5]) rfl (G5 FY _ _ _)
 .have h0b:(E !=0)=true:=by simpa using h0
  have FN:=G6 (fun w' e h hb=>G5 FNO w' e h0 h hb);clear g3 FYE FNO h0;go_wp2_with fail;exact bodyPost_ret (v:=.tuple #[.agg #[I0 0,N0,N0],N0,I0 E]) (by simp[results,results128,go_sem,n3,n4,n5]) rfl (G5 FN _ _ rfl ((((G5 HB3).setCell (by show w.heap.size<=w.heap.size+1+1;omega) _).setCell (by show w.heap.size<=w.heap.size+1+1;omega) _).setCell (by show w.heap.size<=w.heap.size+1+1;omega) _))
theorem xI(t:Tr)(vn vs:FV)(x:GI)(w:FU)(hn:IU w vn t.ns)(hs:IU w vs t.ss)(hw:WfT t)(hd:x.d.length<=140737488355328):
  FW prog 128 #[.agg #[I0 t.z,vn,vs],J8 x] w (bM w t x):=by
 by_cases ha:UZ t x=0
 .exact B30 t vn vs x w hn hs hw hd ha
 .exact B28 t vn vs x w hn hs hw hd ha
def B31(w:FU)(t:Tr)(e:Ending)(w':FU):Prop:=
 ∃vn vs,e=.returned (.agg #[I0 t.z,vn,vs])/\GZ w' w.heap.size vn t.ns/\GZ w' w.heap.size vs t.ss/\B0 w w'
theorem BM9(w:FU):GZ (w.alloc (FT #[.string ⟨#[47]⟩,.string ⟨#[]⟩,I0 0,I0 0,I0 0,I0 0,I0 0,I0 0,I0 0] 49)) w.heap.size (FQ (FZ ⟨w.heap.size,0,FX⟩) 1 1) [gU]:=
 .inr ⟨w.heap.size,1,rfl,A8 _,[],by rw[heap_alloc_new];rfl,by decide,by decide,by decide⟩
theorem AD4(w:FU):FW prog 46 #[] w (B31 w RP):=by
 have H:Hid (B31 w RP (.returned (.agg #[I0 0,FQ (FZ ⟨w.heap.size+1,0,FX⟩) 1 1,N0])) ((w.alloc (FT #[I0 0,FQ (FZ ⟨w.heap.size+1,0,FX⟩) 1 1,N0] 61)).alloc (FT #[.string ⟨#[47]⟩,.string ⟨#[]⟩,I0 0,I0 0,I0 0,I0 0,I0 0,I0 0,I0 0] 49))):=by
  have h:=BM9 (w.alloc (FT #[I0 0,FQ (FZ ⟨w.heap.size+1,0,FX⟩) 1 1,N0] 61));rw[show (w.alloc (FT #[I0 0,FQ (FZ ⟨w.heap.size+1,0,FX⟩) 1 1,N0] 61)).heap.size=w.heap.size+1 by simp]at h;exact⟨_,_,rfl,h.lower (by omega),.inl ⟨rfl,rfl⟩,G8 (G7 _ _) (G7 _ _)⟩
 go_enter func46,ntmps46;go_wp2_with fail;exact bodyPost_ret (v:=.agg #[I0 0,FQ (FZ ⟨w.heap.size+1,0,FX⟩) 1 1,N0]) (by simp[results,results46,go_sem]) rfl (G5 H)
structure GB(w W:FU)(z:Int)(vn vs:FV):Prop where
 t:W.heap[w.heap.size]?=FZ (FT #[I0 z,vn,vs] 61 (0,0))
 r:W.heap[w.heap.size+1]?=FZ (FT #[.string ⟨#[]⟩,.string ⟨#[]⟩,I0 0,I0 0,I0 0,I0 0,I0 0,I0 0,I0 0] 49 (0,0))
 b:B0 w W
theorem GB.new(w:FU)(z:Int)(vn vs:FV):GB w ((w.alloc (FT #[I0 z,vn,vs] 61)).alloc (FT #[.string ⟨#[]⟩,.string ⟨#[]⟩,I0 0,I0 0,I0 0,I0 0,I0 0,I0 0,I0 0] 49)) z vn vs:=by
 refine⟨?_,?_,G8 (G7 _ _) (G7 _ _)⟩
 .rw[(G7 _ _).block _ (by simp)];exact heap_alloc_new w _
 .have h:=heap_alloc_new (w.alloc (FT #[I0 z,vn,vs] 61)) (FT #[.string ⟨#[]⟩,.string ⟨#[]⟩,I0 0,I0 0,I0 0,I0 0,I0 0,I0 0,I0 0] 49);rw[show (w.alloc (FT #[I0 z,vn,vs] 61)).heap.size=w.heap.size+1 by simp]at h;exact h
theorem GB.lt(h:GB w W z vn vs):w.heap.size+1<W.heap.size:=(AB.1 h.r).1
theorem GB.next(h:GB w W z vn vs)(hb:B0 W V):GB w V z vn vs:=by
 have:=h.lt;exact⟨(hb.block _ (by omega)).trans h.t,(hb.block _ (by omega)).trans h.r,G8 h.b hb⟩
theorem GB.c1(h:GB w W z vn vs):W.cell? ⟨w.heap.size,1,FX⟩=FZ vn:=by simp[AV,h.t]
theorem GB.one(h:GB w W z vn vs):JF W (w.heap.size+1) WI:=h.r
theorem BN0(z:Int)(vn vs:FV)(ns A B:List Nd)(p:List UInt8)(w:FU)(hn:IU w vn ns)(hl:ns.length<=100000)(G:mX ns A B p):
  FW prog 9 #[.agg #[I0 z,vn,vs],S0 p] w (R0 w (.tuple #[TY WI,I0 7])):=by
 have CF:=G6 (fun W (hW:B0 w W)=>NK vn ns A B p W (hn.next hW) hl G);have B0:=G6 (GB.new w z vn vs);obtain⟨na,nc,rfl⟩:=GK hn;clear hn G;go_enter func9,ntmps9;go_wp2_with fail;refine(G5 CF _ (G5 B0).b).mono ?_;rintro e w1 ⟨rfl,hb1⟩;have b1:=(G5 B0).next hb1;have o1:=b1.one;have c0:=o1.JI 0 _ rfl;have c1:=o1.JI 1 _ rfl;have c2:=o1.JI 2 _ rfl;have c3:=o1.JI 3 _ rfl;have c4:=o1.JI 4 _ rfl;have c5:=o1.JI 5 _ rfl;have c6:=o1.JI 6 _ rfl;have c7:=o1.JI 7 _ rfl;have c8:=o1.JI 8 _ rfl;have f0:=o1.J7 0;have f1:=o1.J7 1;have f2:=o1.J7 2;have f3:=o1.J7 3;have f4:=o1.J7 4;have f5:=o1.J7 5;have f6:=o1.J7 6;have f7:=o1.J7 7;have f8:=o1.J7 8;have BB:=b1.b;have HBB:=G6 BB;clear CF B0 hb1 b1 o1 BB;go_wp2_with fail;have BB:=G5 HBB;exact bodyPost_ret (v:=.tuple #[TY WI,I0 7]) (by simp[results,results9,go_sem,TY,WI,c0,c1,c2,c3,c4,c5,c6,c7,c8]) rfl
  ⟨rfl,((((((((BB.setCell (by simp) _).setCell (by simp) _).setCell (by simp) _).setCell (by simp) _).setCell (by simp) _).setCell (by simp) _).setCell (by simp) _).setCell (by simp) _).setCell (by simp) _⟩
theorem AN9(z:Int)(vn vs:FV)(ns A B:List Nd)(n:Nd)(p:List UInt8)(w:FU)(hn:IU w vn ns)(hl:ns.length<=100000)(T:KF ns A n B p)(hp:n.p.length<=140737488355328)(hd:n.d.length<=140737488355328):
  FW prog 9 #[.agg #[I0 z,vn,vs],S0 p] w (R0 w (.tuple #[TY n,I0 0])):=by
 have CF:=G6 (fun W (hW:B0 w W)=>JR vn ns A B n p W (hn.next hW) hl T);have CC:=G6 (fun W=>ZP n W hp hd);unfold TY at CC;have hlt:A.length<ns.length:=by rw[T.eq];simp
 have hat:ns[A.length]?=FZ n:=by rw[T.eq];exact UK A n B
 obtain⟨b,off,cap,rfl,hb,hr,_,_⟩:=NZ hn (by rw[T.eq];simp);have HR:=G6 (fun W (hW:B0 w W)=>hr.kept hW hb);have B0:=G6 (GB.new w z (FQ (FZ ⟨b,off,FX⟩) ns.length cap) vs);clear hn T hr;have HAT:=G6 hat;clear hat;go_enter func9,ntmps9;go_wp2_with fail;refine(G5 CF _ (G5 B0).b).mono ?_;rintro e w1 ⟨rfl,hb1⟩;have b1:=(G5 B0).next hb1;have HB1:=G6 b1;have e1:=b1.c1;have q:=G5 HR w1 b1.b;have d0:=q.n0 (G5 HAT);have d1:=q.n1 (G5 HAT);have d2:=q.n2 (G5 HAT);have d3:=q.n3 (G5 HAT);have d4:=q.n4 (G5 HAT);have d5:=q.n5 (G5 HAT);have d6:=q.n6 (G5 HAT);have d7:=q.n7 (G5 HAT);have d8:=q.n8 (G5 HAT);clear q CF b1 hb1;go_wp2_with fail;refine(G5 CC _).mono ?_;rintro e w2 ⟨rfl,hb2⟩;have b2:=(G5 HB1).next hb2;have o1:=b2.one;have c0:=o1.JI 0 _ rfl;have c1:=o1.JI 1 _ rfl;have c2:=o1.JI 2 _ rfl;have c3:=o1.JI 3 _ rfl;have c4:=o1.JI 4 _ rfl;have c5:=o1.JI 5 _ rfl;have c6:=o1.JI 6 _ rfl;have c7:=o1.JI 7 _ rfl;have c8:=o1.JI 8 _ rfl;have f0:=o1.J7 0;have f1:=o1.J7 1;have f2:=o1.J7 2;have f3:=o1.J7 3;have f4:=o1.J7 4;have f5:=o1.J7 5;have f6:=o1.J7 6;have f7:=o1.J7 7;have f8:=o1.J7 8;have HBB:=G6 b2.b;clear b2 hb2 o1 CC d0 d1 d2 d3 d4 d5 d6 d7 d8 e1;go_wp2_with fail;have BB:=G5 HBB;exact bodyPost_ret (v:=.tuple #[TY n,I0 0]) (by simp[results,results9,go_sem,TY,c0,c1,c2,c3,c4,c5,c6,c7,c8]) rfl
  ⟨rfl,((((((((BB.setCell (by simp) _).setCell (by simp) _).setCell (by simp) _).setCell (by simp) _).setCell (by simp) _).setCell (by simp) _).setCell (by simp) _).setCell (by simp) _).setCell (by simp) _⟩
theorem bP:QA RP:=by
 refine⟨by decide,⟨List.Pairwise.nil,by simp[RP]⟩,⟨by decide,⟨gU,[],rfl,rfl,rfl⟩,List.pairwise_singleton _ _,?_⟩,?_⟩
 .intro n hn;obtain rfl:n=gU:=by simpa [RP]using hn
  refine⟨by decide,YH,fun h=>absurd rfl h,by decide,by decide,by decide,by decide,by decide,by decide,by decide,by decide,?_,.inl rfl⟩;show (0:Int)=NY [gU] [47];simp[NY,gU,UA]
 .intro n hn;obtain rfl:n=gU:=by simpa [RP]using hn
  decide
theorem QA.wf(g:QA t):WfT t:=by
 refine⟨fun s hs=>by have:=g.ses.2 s hs;omega,fun n hn=>?_⟩;have k:=g.nod.ok n hn;have:=MP k.path;have:=k.data;omega
theorem B32(t:Tr)(x:GI):(WY t x).ns.length<=140737488355328/\(WY t x).ss.length<=140737488355328/\(YJ t x).length<=140737488355328:=by
 by_cases h:WG t x=0
 .obtain⟨g2,_,_⟩:=YK h;obtain⟨ha,_⟩:=iG h;obtain⟨g,_,_⟩:=PG ha;have few:=g.nod.few;refine⟨by have:=g2.nod.few;omega,by have:=VF g2.ses;omega,?_⟩;rw[YJ,if_pos h,nZ]
  split
  .rw[A99];have:(OQ t.ns x.s).length<=t.ns.length:=by
    rw[OQ,EG];exact List.length_filter_le _ _
   omega
  .split
   .simp
   .split
    .simp
    .split<;>simp
 .rw[WY,if_neg h,YJ,if_neg h];exact⟨by decide,by decide,by decide⟩
theorem AS8(h:WG t x=0)(ho:x.o=3):QA t/\II x.p=true/\x.p≠[47]/\(∃A B,mX t.ns A B x.p)/\(∃u∈t.ns,u.p=IB x.p)/\(WY t x).ns=NG (IB x.p) x.z 1 (CF5 t.ns (uI x))/\(WY t x).ss=t.ss/\x.s∈t.ss/\x.d.length<=256/\YJ t x=[⟨1,x.p⟩,⟨4,IB x.p⟩]:=by
 obtain⟨ha,hc,_⟩:=iG h;obtain⟨g,hg,_,_,h2⟩:=PG ha;have f:=XA hg;obtain⟨p1,p2⟩:=f.path (.inl ho);rw[iF,if_pos ho]at hc;obtain⟨c1,⟨u,c2,_⟩,_,_⟩:=AA0 hc;have hu:=SC c2;refine⟨g,p1,p2,jI g.nod.asc c1,⟨u,hu.1,hu.2⟩,?_,?_,h2 (by omega),f.d,?_⟩
 .rw[WY,if_pos h];show aT t x=_;rw[aT,if_neg (by omega),if_pos ho,qU];rfl
 .rw[WY,if_pos h];show mY t x=_;rw[mY,if_neg (by omega),if_neg (by omega)]
 .rw[YJ,if_pos h,nZ,if_neg (by omega),if_pos ho]
