/-
  Part.
-/
import Derived.Test.YtbaacalmgfkojaaGreatDoorLOO
set_option maxRecDepth 20000
set_option maxHeartbeats 8000000
namespace Go.Proofs.YtbaacalmgfkojaaGreatDoor
open Go.RowKit Go.Proofs.Tryz
open _root_.Nat renaming le_refl->A8,lt_of_lt_of_le->AX,zero_le->AY
open Go.RowKit.Below renaming refl->AA
open _root_.Array renaming getElem?_eq_some_iff->AB
open _root_.List renaming getElem?_eq_getElem->AL,getElem?_eq_some_iff->AU,mem_of_getElem?->AZ,mem_cons->BO,mem_append->BU,mem_map->EU
open _root_.And renaming intro->C9
open Go.Value renaming slice->FQ
open Go.Obj renaming cells->FT
open Go renaming World->FU,Value->FV,Calls->FW
open _root_.Option renaming none->FX,some->FZ
variable{t:Tr}{x:GI}{p:List UInt8}{z more:Int}{ns:List Nd}{n:Nd}{w w':FU}{P:Prop}{k:Nat}{ss:List Int}
def mW(t:Tr)(x:GI):Int:=if kR t x≠0 then kR t x else if XY (eU t x)=true then 6 else 0
theorem BG0(h:VN t x≠0):XZ t x=VN t x:=by rw[XZ,if_pos h]
theorem A80(h:VN t x=0):XZ t x=mW t x:=by rw[XZ,if_neg (by omega),mW]
theorem PY{E:Int}(h:kR t x=E)(h0:E≠0):mW t x=E:=by rw[mW,if_pos (by omega),h]
theorem jF(h:kR t x=0)(hf:XY (eU t x)=true):mW t x=6:=by rw[mW,if_neg (by omega),if_pos hf]
theorem bU(h:kR t x=0)(hf:XY (eU t x)=false):mW t x=0:=by rw[mW,if_neg (by omega),if_neg (by simp[hf])]
theorem qF(p:List UInt8)(z more:Int)(ns:List Nd):(NY p z more ns).length=ns.length:=by rw[NY,List.length_map]
theorem AH8(h:n∈NY p z more ns):∃m∈ns,n=(if m.p=p then bump z more m else m):=by
 rw[NY]at h;obtain⟨m,hm,rfl⟩:=EU.1 h;exact⟨m,hm,rfl⟩
theorem AH9{m:Nd}(h:m∈ns)(hp:m.p=p):bump z more m∈NY p z more ns:=by
 rw[NY];exact EU.2 ⟨m,h,by rw[if_pos hp]⟩
theorem AX6{u:Nd}(h:u∈ns)(hp:u.p=p)(hk:u.k=2147483647):XY (NY p z more ns)=true:=
 lW.2 ⟨_,AH9 h hp,by show 2147483647<u.k+1;omega⟩
theorem AX7{u:Nd}(ha:rW ns)(h:u∈ns)(hp:u.p=p)(hk:u.k<2147483647)(hc:∀n∈ns,n.k<=2147483647):XY (NY p z more ns)=false:=by
 rw[OA];intro n hn;obtain⟨m,hm,rfl⟩:=AH8 hn
 split
 .rename_i e
  have:m=u:=U1 ha hm h (by rw[e,hp]);subst this;show m.k+1<=_;omega
 .exact hc m hm
def Chg(F:Nat->Prop)(b:Nat)(t:Tr)(x:GI)(w:FU)(e:Ending)(w':FU):Prop:=
 e=.returned (I0 (mW t x))/\Touch F w w'/\(mW t x=0->∃vn vs ve,Grow w' F b x.z vn vs ve (eU t x) (oQ t x) (oU t x))
theorem Chg.no{F:Nat->Prop}{b:Nat}{e:Ending}{E:Int}(h:e=.returned (I0 E)/\Touch F w w')(hE:mW t x=E)(h0:E≠0):Chg F b t x w e w':=
 ⟨by rw[hE];exact h.1,h.2,fun h'=>by omega⟩
theorem BY3(F:Nat->Prop)(b:Nat)(t:Tr)(vn vs ve:FV)(x:GI)(w:FU)(h:Grow w F b x.z vn vs ve t.ns t.ss [])(hF:∀k,w.heap.size<=k->F k)(ha:VN t x=0)(ho:x.o=3):
  FW prog 202 #[P0 b,J7 x] w (Chg F b t x w):=by
 obtain⟨g,hg,hz,h1,h2⟩:=PW ha;have f:=YM hg;obtain⟨hp1,hp2⟩:=f.path (.inl ho);have hpl:=ML hp1;have hdl:=f.d;have hdo:=VZ x.p;have hE:kR t x=AE0 t x:=by rw[kR,if_pos ho]
 have hN:eU t x=sU x.z t.ns (A53 x):=by rw[eU,if_neg (by omega),if_pos ho]
 have hS:oQ t x=t.ss:=by rw[oQ,if_neg (by omega),if_neg (by omega)]
 have hV:oU t x=[⟨1,x.p⟩,⟨4,IG x.p⟩]:=by rw[oU,if_neg (by omega),if_pos ho]
 have few:=g.nod.few;rcases Y7 x.p t.ns g.nod.asc with⟨A,n,B,T⟩|⟨A,B,G⟩
 .refine(AW9 F b x.z vn vs ve t.ns A B n t.ss [] x w h T few g.nod.asc).mono fun e w' q=>Chg.no q ?_ (by decide);exact PY (by rw[hE,AE0,T.look,if_pos (by rfl)]) (by decide)
 .rcases Y7 (IG x.p) t.ns g.nod.asc with⟨A',u,B',U⟩|⟨A',B',U⟩
  .by_cases hu:u.o=0
   .have hum:u∈t.ns:=by rw[U.eq];simp
    have ku:=g.nod.ok u hum;have hkc:=g.cap u hum;have hkn:=ku.kids;have hkl:NQ t.ns u.p<=t.ns.length:=List.countP_le_length;by_cases hw:x.w=0\/x.w=x.s
    .by_cases hf:t.ns.length=400
     .have hc:AE0 t x=6:=by
       rw[AE0,G.look,if_neg (by simp),U.look];simp only;rw[if_neg (by omega),if_neg (by rintro⟨a,c⟩;rcases hw with e|e<;>omega),if_pos hf]
      by_cases hw0:x.w=0
      .exact(AX1 F b x.z vn vs ve t.ns A B A' B' u t.ss [] x w h G U hu hw0 hf).mono fun e w' q=>Chg.no q (PY (by rw[hE,hc]) (by decide)) (by decide)
      .exact(AX2 F b x.z vn vs ve t.ns A B A' B' u t.ss [] x w h G U hu hw0 (by omega) hf).mono fun e w' q=>Chg.no q (PY (by rw[hE,hc]) (by decide)) (by decide)
     .have hc:AE0 t x=0:=by
       rw[AE0,G.look,if_neg (by simp),U.look];simp only;rw[if_neg (by omega),if_neg (by rintro⟨a,c⟩;rcases hw with e|e<;>omega),if_neg hf]
      have gn:P8 x.z t.ns t.ss:=g.nod.mono (by omega);have hsm:x.s∈t.ss:=h2 (by omega);have ga:=A52 (x:=A53 x) gn G (by omega) hp1 hp2 ⟨u,hum,U.nm,hu⟩ f.d f.z.1 rfl rfl rfl rfl rfl rfl (by
       rcases hw with c|c
       .exact .inl c
       .exact .inr (by show x.w∈t.ss;rw[c];exact hsm))
      have hins:CL5 t.ns (A53 x)=A++A53 x::B:=G.ins;have hasc:rW (A++A53 x::B):=by
       have:=(OE _).1 ga.asc;rw[sU,VY,hins]at this;exact(OE _).2 this
      have CO1:u∈A++A53 x::B:=by
       have:=hum;rw[G.eq]at this;rcases BU.1 this with e|e<;>simp[e]
      obtain⟨A2,B2,U2⟩:∃A2 B2,KD (A++A53 x::B) A2 u B2 (IG x.p):=by
       rw[<-U.nm];exact QW hasc (ZI hasc CO1)
      have hlen:(A++A53 x::B).length<=400:=by rw[<-hins,<-qF (IG x.p) x.z 1];exact ga.few
      by_cases hk:u.k=2147483647
      .have hfu:mW t x=6:=jF (by rw[hE,hc]) (by rw[hN,sU,hins];exact AX6 CO1 U.nm hk);have P:∀W vn' ve',Grow W F b x.z vn' vs ve' (A++A53 x::B) t.ss ([]++[⟨1,x.p⟩])->w.heap.size<=W.heap.size->Touch F w W->FW prog 229 #[P0 b,S0 (IG x.p),I0 1] W fun e w'=>e=.returned (I0 6)/\Touch F w w':=by
        intro W vn' ve' hG hs ht;refine(jC F b x.z vn' vs ve' _ A2 B2 u t.ss _ (IG x.p) 1 W hG U2 hlen hk).mono ?_;rintro e w' ⟨rfl,t'⟩;exact⟨rfl,ht.trans t'⟩
       exact(A79 F b x.z vn vs ve t.ns A B A' B' u 6 _ t.ss [] x w h hF G U few hu hw (by omega) (by omega) (by omega) (by simp) P).mono fun e w' q=>Chg.no q hfu (by decide)
      .have CO2:∀n∈A++A53 x::B,n.k<=2147483647:=by
        intro n hn;rcases BU.1 hn with e|e
        .exact g.cap n (by rw[G.eq];simp[e])
        .rcases BO.1 e with rfl|e
         .show (0:Int)<=_;decide
         .exact g.cap n (by rw[G.eq];simp[e])
       have hfu:mW t x=0:=bU (by rw[hE,hc]) (by rw[hN,sU,hins];exact AX7 hasc CO1 U.nm (by omega) CO2);have P:∀W vn' ve',Grow W F b x.z vn' vs ve' (A++A53 x::B) t.ss ([]++[⟨1,x.p⟩])->w.heap.size<=W.heap.size->Touch F w W->FW prog 229 #[P0 b,S0 (IG x.p),I0 1] W fun e w'=>e=.returned (I0 0)/\((∃vn' ve',Grow w' F b x.z vn' vs ve' (eU t x) t.ss (oU t x))/\Touch F w w'):=by
        intro W vn' ve' hG hs ht;refine(uY F b x.z vn' vs ve' _ A2 B2 u t.ss _ (IG x.p) 1 W hG (fun k hk=>hF k (by omega)) U2 hlen ⟨ku.k0,by omega⟩ (by omega) (by omega) (by omega) (by simp)).mono ?_;rintro e w' ⟨rfl,ve2,g',t'⟩;refine⟨rfl,⟨vn',ve2,?_⟩,ht.trans t'⟩;have e1:eU t x=A2++bump x.z 1 u::B2:=by
         rw[hN,sU,hins];exact U2.bump x.z 1
        rw[e1,hV];exact g'
       have fin:∀ (e:Ending) (w':FU),(e=.returned (I0 0)/\((∃vn' ve',Grow w' F b x.z vn' vs ve' (eU t x) t.ss (oU t x))/\Touch F w w'))->Chg F b t x w e w':=by
        rintro e w' ⟨rfl,⟨vn',ve',g'⟩,t'⟩;exact⟨by rw[hfu],t',fun _=>⟨vn',vs,ve',by rw[hS];exact g'⟩⟩
       exact(A79 F b x.z vn vs ve t.ns A B A' B' u 0 _ t.ss [] x w h hF G U few hu hw (by omega) (by omega) (by omega) (by simp) P).mono fin
    .have hw1:x.w≠0:=fun e=>hw (.inl e);have hw2:x.w≠x.s:=fun e=>hw (.inr e);refine(BY2 F b x.z vn vs ve t.ns A B A' B' u t.ss [] x w h G U few hu hw1 hw2).mono fun e w' q=>Chg.no q ?_ (by decide);refine PY ?_ (by decide);rw[hE,AE0,G.look,if_neg (by simp),U.look];simp only;rw[if_neg (by omega),if_pos ⟨hw1,hw2⟩]
   .refine(AX0 F b x.z vn vs ve t.ns A B A' B' u t.ss [] x w h G U few hu).mono fun e w' q=>Chg.no q ?_ (by decide);refine PY ?_ (by decide);rw[hE,AE0,G.look,if_neg (by simp),U.look];simp only;rw[if_pos hu]
  .refine(BF6 F b x.z vn vs ve t.ns A B A' B' t.ss [] x w h G U few).mono fun e w' q=>Chg.no q ?_ (by decide);refine PY ?_ (by decide);rw[hE,AE0,G.look,if_neg (by simp),U.look]
theorem BY4(F:Nat->Prop)(b:Nat)(t:Tr)(vn vs ve:FV)(x:GI)(w:FU)(h:Grow w F b x.z vn vs ve t.ns t.ss [])(hF:∀k,w.heap.size<=k->F k)(ha:VN t x=0)(ho:x.o=4):
  FW prog 203 #[P0 b,S0 x.p] w (Chg F b t x w):=by
 obtain⟨g,hg,hz,h1,h2⟩:=PW ha;have f:=YM hg;obtain⟨hp1,hp2⟩:=f.path (.inr ho);have hpl:=ML hp1;have hdo:=VZ x.p;have few:=g.nod.few;have hE:kR t x=BB2 t x:=by rw[kR,if_neg (by omega),if_pos ho]
 have hN:eU t x=rmN x.z t.ns x.p:=by rw[eU,if_neg (by omega),if_neg (by omega),if_pos ho]
 have hS:oQ t x=t.ss:=by rw[oQ,if_neg (by omega),if_neg (by omega)]
 have hV:oU t x=[⟨2,x.p⟩,⟨4,IG x.p⟩]:=by rw[oU,if_neg (by omega),if_neg (by omega),if_pos ho]
 rcases Y7 x.p t.ns g.nod.asc with⟨A,n,B,T⟩|⟨A,B,G⟩
 .have hn:n∈t.ns:=by rw[T.eq];simp
  by_cases hk:n.n=0
  .have hd0:BB2 t x=0:=by rw[BB2,T.look];simp only;rw[if_neg (by omega)]
   have gn:P8 x.z t.ns t.ss:=g.nod.mono (by omega);obtain⟨u,hu1,hu2,hu3,hu4,hu5⟩:=AR4 gn hn (by rw[T.nm];exact hp2);rw[T.nm]at hu1 hu3 hu4;obtain⟨A',B',T'⟩:=lZ gn.asc T hu2 hu3 hu4;have ku:=gn.ok u hu2;have hkc:=g.cap u hu2;have hkn:=ku.kids;have hkl:NQ t.ns u.p<=t.ns.length:=List.countP_le_length;by_cases hf:u.k=2147483647
   .refine(jE F b x.z vn vs ve t.ns A B A' B' n u t.ss [] x.p w h hF T T' few hk hf (by omega) (by simp)).mono fun e w' q=>Chg.no q ?_ (by decide);exact jF (by rw[hE,hd0]) (by rw[hN];exact AR9 hu2 hu3 hu4 hf [] (by simp))
   .refine(uZ F b x.z vn vs ve t.ns A B A' B' n u t.ss [] x.p w h hF T T' few hk ⟨ku.k0,by omega⟩ (by omega) (by omega) (by omega) (by simp)).mono ?_;rintro e w' ⟨rfl,vn',ve',g',t'⟩;have hc:mW t x=0:=bU (by rw[hE,hd0]) (by rw[hN,OA];exact BR2 gn.asc hu2 hu3 (by omega) g.cap);exact⟨by rw[hc],t',fun _=>⟨vn',vs,ve',by rw[hN,hS,hV];exact g'⟩⟩
  .refine(zT F b x.z vn vs ve t.ns A B n t.ss [] x.p w h T few hk).mono fun e w' q=>Chg.no q ?_ (by decide);exact PY (by rw[hE,BB2,T.look];simp only;rw[if_pos hk]) (by decide)
 .refine(AH6 F b x.z vn vs ve t.ns A B t.ss [] x.p w h G few).mono fun e w' q=>Chg.no q ?_ (by decide);exact PY (by rw[hE,BB2,G.look]) (by decide)
theorem BY5(F:Nat->Prop)(b:Nat)(t:Tr)(vn vs ve:FV)(x:GI)(w:FU)(h:Grow w F b x.z vn vs ve t.ns t.ss [])(hF:∀k,w.heap.size<=k->F k)(ha:VN t x=0)(ho:x.o=5):
  FW prog 204 #[P0 b,J7 x] w (Chg F b t x w):=by
 obtain⟨g,hg,hz,h1,h2⟩:=PW ha;have f:=YM hg;have hpl:=ML (f.CN3 ho);have hdl:=f.d;have few:=g.nod.few;have hE:kR t x=C84 t x:=by rw[kR,if_neg (by omega),if_neg (by omega),if_pos ho]
 have hN:eU t x=AR2 x.p x.d x.v x.z t.ns:=by rw[eU,if_neg (by omega),if_neg (by omega),if_neg (by omega),if_pos ho]
 have hS:oQ t x=t.ss:=by rw[oQ,if_neg (by omega),if_neg (by omega)]
 have hV:oU t x=[⟨3,x.p⟩]:=by rw[oU,if_neg (by omega),if_neg (by omega),if_neg (by omega),if_pos ho]
 rcases Y7 x.p t.ns g.nod.asc with⟨A,n,B,T⟩|⟨A,B,G⟩
 .have hn:n∈t.ns:=by rw[T.eq];simp
  have kn:=g.nod.ok n hn;by_cases hv:x.v=n.v+1
  .refine(CC6 F b x.z vn vs ve t.ns A B n t.ss [] x w h hF T few ⟨kn.v0,kn.v1⟩ (by omega) (by omega) (by simp) hv).mono ?_;rintro e w' ⟨rfl,ve',g',t'⟩;have hc:mW t x=0:=bU (by rw[hE,C84,T.look];simp only;rw[if_neg (by omega)]) (by
    rw[hN,OA];intro m hm;rw[AR2]at hm;obtain⟨m',hm',rfl⟩:=EU.1 hm
    split
    .exact g.cap m' hm'
    .exact g.cap m' hm')
   exact⟨by rw[hc],t',fun _=>⟨vn,vs,ve',by rw[hN,hS,hV,T.put];exact g'⟩⟩
  .refine(BY1 F b x.z vn vs ve t.ns A B n t.ss [] x w h hF T few ⟨kn.v0,kn.v1⟩ (by omega) (by omega) (by simp) hv).mono fun e w' q=>Chg.no q ?_ (by decide);exact PY (by rw[hE,C84,T.look];simp only;rw[if_pos hv]) (by decide)
 .refine(BY0 F b x.z vn vs ve t.ns A B t.ss [] x w h G few).mono fun e w' q=>Chg.no q ?_ (by decide);exact PY (by rw[hE,C84,G.look]) (by decide)
theorem BY6(F:Nat->Prop)(b:Nat)(t:Tr)(vn vs ve:FV)(x:GI)(w:FU)(h:Grow w F b x.z vn vs ve t.ns t.ss [])(hF:∀k,w.heap.size<=k->F k)(ha:VN t x=0)(ho:x.o=2):
  FW prog 201 #[P0 b,I0 x.s] w (Chg F b t x w):=by
 obtain⟨g,hg,hz,h1,h2⟩:=PW ha;have f:=YM hg;have gn:P8 x.z t.ns t.ss:=g.nod.mono (by omega);have hE:kR t x=0:=by rw[kR,if_neg (by omega),if_neg (by omega),if_neg (by omega)]
 have hN:eU t x=QL x.z t.ns (OG t.ns x.s):=by rw[eU,if_pos ho]
 have hS:oQ t x=AD9 t.ss x.s:=by rw[oQ,if_neg (by omega),if_pos ho]
 have hV:oU t x=AR6 (OG t.ns x.s):=by rw[oU,if_pos ho]
 have hm:=h2 (by omega);rcases sS x.s t.ss g.ses.1 with⟨A,B,T⟩|⟨A,B,G⟩
 .refine(AX5 F b x.z vn vs ve t.ns t.ss A B t.ss x.s w h hF T (SX g.ses) ⟨gn,lX gn (by have:=f.s;omega),g.cap⟩).mono ?_;rintro e w' (⟨hf,rfl,t'⟩|⟨hf,rfl,vn',vs',ve',g',t'⟩)
  .exact Chg.no ⟨rfl,t'⟩ (jF hE (by rw[hN];exact hf)) (by decide)
  .have hc:mW t x=0:=bU hE (by rw[hN];exact hf);exact⟨by rw[hc],t',fun _=>⟨vn',vs',ve',by rw[hN,hS,hV,T.drop];exact g'⟩⟩
 .exact absurd hm G.not
theorem BY7(F:Nat->Prop)(b:Nat)(t:Tr)(vn vs:FV)(x:GI)(w:FU)(h:Grow w F b x.z vn vs (N0) t.ns t.ss [])(hF:∀k,w.heap.size<=k->F k)(ha:VN t x=0)(ho:x.o=1):
  FW prog 200 #[P0 b,I0 x.s] w fun e w'=>e=.returned (.tuple #[])/\Chg F b t x w (.returned (I0 0)) w':=by
 obtain⟨g,hg,hz,h1,h2⟩:=PW ha;have f:=YM hg;have hE:kR t x=0:=by rw[kR,if_neg (by omega),if_neg (by omega),if_neg (by omega)]
 have hN:eU t x=t.ns:=by rw[eU,if_neg (by omega),if_neg (by omega),if_neg (by omega),if_neg (by omega)]
 have hS:oQ t x=BV4 t.ss x.s:=by rw[oQ,if_pos ho]
 have hV:oU t x=[]:=by rw[oU,if_neg (by omega),if_neg (by omega),if_neg (by omega),if_neg (by omega)]
 have hm:=h1 ho;rcases sS x.s t.ss g.ses.1 with⟨A,B,T⟩|⟨A,B,G⟩
 .exact absurd T.mem hm
 .have hl:t.ss.length<=2147483646:=by
   have h3:=SX (A51 g.ses f.s hm);rw[G.ins]at h3;rw[G.eq];simp at h3⊢;omega
  refine(BF8 F b x.z vn vs _ t.ns t.ss A B [] x.s w h hF G hl).mono ?_;rintro e w' ⟨rfl,vs',g',t'⟩;have hc:mW t x=0:=bU hE (by rw[hN,OA];exact g.cap);exact⟨rfl,by rw[hc],t',fun _=>⟨vn,vs',_,by rw[hN,hS,hV,G.ins];exact g'⟩⟩
theorem Chg.boxed{F:Nat->Prop}{b:Nat}{o:Obj}{e:Ending}(h:Chg F b t x (w.alloc o) e w'):Chg F b t x w e w':=
 ⟨h.1,(Touch.of_below (G7 w o)).trans h.2.1,h.2.2⟩
theorem AI0(F:Nat->Prop)(b:Nat)(t:Tr)(vn vs:FV)(x:GI)(w:FU)(h:Grow w F b x.z vn vs (N0) t.ns t.ss [])(hF:∀k,w.heap.size<=k->F k)(ha:VN t x=0)(ho:x.o=1):
  FW prog 171 #[P0 b,J7 x] w (Chg F b t x w):=by
 have C:=BY7 F b t vn vs x (w.alloc (FT #[I0 x.z,I0 x.o,I0 x.s,S0 x.p,S0 x.d,I0 x.v,I0 x.w] 52)) (h.next (G7 _ _)) (fun k hk=>hF k (by simp at hk;omega)) ha ho;clear h hF ha;have HO:=G6 ho;obtain⟨xz,xo,xs,xp,xd,xv,xw⟩:=x;unfold J7;simp only at C ho⊢;subst ho;have HC:=G6 C;clear C;go_enter func171,ntmps171;go_wp2_with fail;refine(G5 HC).mono ?_;rintro e w1 ⟨rfl,hc⟩;have HQ:=G6 hc.boxed;clear hc HC;go_wp2_with fail;go_ret;exact G5 HQ
theorem AI1(F:Nat->Prop)(b:Nat)(t:Tr)(vn vs:FV)(x:GI)(w:FU)(h:Grow w F b x.z vn vs (N0) t.ns t.ss [])(hF:∀k,w.heap.size<=k->F k)(ha:VN t x=0)(ho:x.o=2):
  FW prog 171 #[P0 b,J7 x] w (Chg F b t x w):=by
 have C:=BY6 F b t vn vs _ x (w.alloc (FT #[I0 x.z,I0 x.o,I0 x.s,S0 x.p,S0 x.d,I0 x.v,I0 x.w] 52)) (h.next (G7 _ _)) (fun k hk=>hF k (by simp at hk;omega)) ha ho;clear h hF ha;have HO:=G6 ho;obtain⟨xz,xo,xs,xp,xd,xv,xw⟩:=x;unfold J7;simp only at C ho⊢;subst ho;have HC:=G6 C;clear C;go_enter func171,ntmps171;go_wp2_with fail;refine(G5 HC).mono ?_;rintro e w1 hc;obtain⟨rfl,hc'⟩:=hc.boxed;have HQ:=G6 hc';clear hc hc' HC;go_wp2_with fail;go_ret;exact⟨rfl,G5 HQ⟩
theorem AI2(F:Nat->Prop)(b:Nat)(t:Tr)(vn vs:FV)(x:GI)(w:FU)(h:Grow w F b x.z vn vs (N0) t.ns t.ss [])(hF:∀k,w.heap.size<=k->F k)(ha:VN t x=0)(ho:x.o=3):
  FW prog 171 #[P0 b,J7 x] w (Chg F b t x w):=by
 have C:=BY3 F b t vn vs _ x (w.alloc (FT #[I0 x.z,I0 x.o,I0 x.s,S0 x.p,S0 x.d,I0 x.v,I0 x.w] 52)) (h.next (G7 _ _)) (fun k hk=>hF k (by simp at hk;omega)) ha ho;clear h hF ha;have HO:=G6 ho;obtain⟨xz,xo,xs,xp,xd,xv,xw⟩:=x;unfold J7 at C⊢;simp only at C ho⊢;subst ho;have HC:=G6 C;clear C;go_enter func171,ntmps171;go_wp2_with fail;refine(G5 HC).mono ?_;rintro e w1 hc;obtain⟨rfl,hc'⟩:=hc.boxed;have HQ:=G6 hc';clear hc hc' HC;go_wp2_with fail;go_ret;exact⟨rfl,G5 HQ⟩
theorem AI3(F:Nat->Prop)(b:Nat)(t:Tr)(vn vs:FV)(x:GI)(w:FU)(h:Grow w F b x.z vn vs (N0) t.ns t.ss [])(hF:∀k,w.heap.size<=k->F k)(ha:VN t x=0)(ho:x.o=4):
  FW prog 171 #[P0 b,J7 x] w (Chg F b t x w):=by
 have C:=BY4 F b t vn vs _ x (w.alloc (FT #[I0 x.z,I0 x.o,I0 x.s,S0 x.p,S0 x.d,I0 x.v,I0 x.w] 52)) (h.next (G7 _ _)) (fun k hk=>hF k (by simp at hk;omega)) ha ho;clear h hF ha;have HO:=G6 ho;obtain⟨xz,xo,xs,xp,xd,xv,xw⟩:=x;unfold J7;simp only at C ho⊢;subst ho;have HC:=G6 C;clear C;go_enter func171,ntmps171;go_wp2_with fail;refine(G5 HC).mono ?_;rintro e w1 hc;obtain⟨rfl,hc'⟩:=hc.boxed;have HQ:=G6 hc';clear hc hc' HC;go_wp2_with fail;go_ret;exact⟨rfl,G5 HQ⟩
theorem AI4(F:Nat->Prop)(b:Nat)(t:Tr)(vn vs:FV)(x:GI)(w:FU)(h:Grow w F b x.z vn vs (N0) t.ns t.ss [])(hF:∀k,w.heap.size<=k->F k)(ha:VN t x=0)(ho:x.o=5):
  FW prog 171 #[P0 b,J7 x] w (Chg F b t x w):=by
 have C:=BY5 F b t vn vs _ x (w.alloc (FT #[I0 x.z,I0 x.o,I0 x.s,S0 x.p,S0 x.d,I0 x.v,I0 x.w] 52)) (h.next (G7 _ _)) (fun k hk=>hF k (by simp at hk;omega)) ha ho;clear h hF ha;have HO:=G6 ho;obtain⟨xz,xo,xs,xp,xd,xv,xw⟩:=x;unfold J7 at C⊢;simp only at C ho⊢;subst ho;have HC:=G6 C;clear C;go_enter func171,ntmps171;go_wp2_with fail;refine(G5 HC).mono ?_;rintro e w1 hc;obtain⟨rfl,hc'⟩:=hc.boxed;have HQ:=G6 hc';clear hc hc' HC;go_wp2_with fail;go_ret;exact⟨rfl,G5 HQ⟩
theorem AI5(F:Nat->Prop)(b:Nat)(t:Tr)(vn vs:FV)(x:GI)(w:FU)(h:Grow w F b x.z vn vs (N0) t.ns t.ss [])(hF:∀k,w.heap.size<=k->F k)(ha:VN t x=0):
  FW prog 171 #[P0 b,J7 x] w (Chg F b t x w):=by
 have f:=(YM (PW ha).2.1).op;by_cases h1:x.o=1
 .exact AI0 F b t vn vs x w h hF ha h1
 .by_cases h2:x.o=2
  .exact AI1 F b t vn vs x w h hF ha h2
  .by_cases h3:x.o=3
   .exact AI2 F b t vn vs x w h hF ha h3
   .by_cases h4:x.o=4
    .exact AI3 F b t vn vs x w h hF ha h4
    .exact AI4 F b t vn vs x w h hF ha (by omega)
noncomputable def pd(P:Prop):Bool:= @decide P (Classical.propDecidable _)
theorem S9(h:P):pd P=true:=by unfold pd;exact @decide_eq_true _ (Classical.propDecidable _) h
theorem RD(h:¬P):pd P=false:=by unfold pd;exact @decide_eq_false _ (Classical.propDecidable _) h
theorem BR7:pd P=true↔P:=by unfold pd;exact @decide_eq_true_iff _ (Classical.propDecidable _)
theorem JD{a b:Bool}(h:a=b):Ending.returned (.bool a)=.returned (.bool b):=by rw[h]
structure A81(ns:List Nd):Prop where
 few:ns.length<=400
 root:∃r rest,ns=r::rest/\r.p=[47]
 asc:rW ns
def BG1(ns:List Nd)(p:List UInt8):Prop:=(LM ns (IG p)).isSome=true\/AN9 p=7
structure dQ(z:Int)(n:Nd)(ks:Int)(ss:List Int):Prop where
 c0:0<=n.c
 cm:n.c<=n.m
 cq:n.c<=n.q
 mz:n.m<=z
 qz:n.q<=z
 v0:0<=n.v
 v1:n.v<=2147483647
 k0:0<=n.k
 k1:n.k<=2147483647
 kids:n.n=ks
 own:n.o=0\/ks=0/\n.o∈ss
structure BG2(z:Int)(ns:List Nd)(ss:List Int)(n:Nd):Prop where
 data:n.d.length<=256
 held:BG1 ns n.p
 sound:dQ z n (NQ ns n.p) ss
theorem CC9{q:List UInt8}(h:bl [47] q=true):q≠[]:=by rintro rfl;simp[bl,Op.bytesLess]at h
theorem vF(h:A81 ns)(hn:n∈ns):n.p≠[]:=by
 obtain⟨r,rest,rfl,hr⟩:=h.root;rcases BO.1 hn with rfl|hn
 .rw[hr];simp
 .have:=(List.pairwise_cons.1 h.asc).1 n hn;rw[hr]at this;exact CC9 this
theorem XT:QV t↔KH t.z=true/\A81 t.ns/\oP t.ss/\(∀n∈t.ns,BG2 t.z t.ns t.ss n)/\∀r,t.ns[0]?=FZ r->r.o=0:=by
 constructor
 .intro g;obtain⟨r,rest,hr,hp,ho⟩:=g.nod.root;refine⟨g.zx,⟨g.nod.few,⟨r,rest,hr,hp⟩,g.nod.asc⟩,g.ses,fun n hn=>?_,fun r' h=>by rw[hr]at h;simp at h;rw[<-h];exact ho⟩;have k:=g.nod.ok n hn;refine⟨k.data,?_,⟨k.c0,k.cm,k.cq,k.mz,k.qz,k.v0,k.v1,k.k0,g.cap n hn,k.kids,?_⟩⟩
  .by_cases h:n.p=[47]
   .exact .inr (by rw[h];exact sQ)
   .obtain⟨u,hu,he⟩:=k.up h;exact .inl (by rw[<-he,ZI g.nod.asc hu];rfl)
  .rcases k.own with h|⟨h1,h2⟩
   .exact .inl h
   .exact .inr ⟨by rw[<-k.kids];exact h2,h1⟩
 .rintro⟨hz,ho,hs,hp,hr⟩;refine⟨hz,hs,⟨ho.few,?_,ho.asc,fun n hn=>?_⟩,fun n hn=>(hp n hn).sound.k1⟩
  .obtain⟨r,rest,h1,h2⟩:=ho.root;exact⟨r,rest,h1,h2,hr r (by rw[h1];rfl)⟩
  .have k:=hp n hn;have s:=k.sound;have hg:J4 n.p=true/\(n.p≠[47]->∃u∈t.ns,u.p=IG n.p):=by
    rcases k.held with h|h
    .obtain⟨u,hu⟩:=Option.isSome_iff_exists.1 h;obtain⟨hu1,hu2⟩:=XI hu;have hne:IG n.p≠[]:=by rw[<-hu2];exact vF ho hu1
     cases hb:J4 n.p with
     |false=>exact absurd (ZH hb) hne
     |true=>exact⟨rfl,fun _=>⟨u,hu1,hu2⟩⟩
    .cases hb:J4 n.p with
     |false=>rw[A49 hb]at h;omega
     |true=>
      by_cases h1:n.p=[47]
      .exact⟨rfl,fun h2=>absurd h1 h2⟩
      .rw[AR1 hb h1]at h;omega
   refine⟨k.data,hg.1,hg.2,s.c0,s.cm,s.cq,s.mz,s.qz,s.v0,s.v1,s.k0,s.kids,?_⟩;rcases s.own with h|⟨h1,h2⟩
   .exact .inl h
   .exact .inr ⟨h2,by rw[s.kids];exact h1⟩
def A82(ns:List Nd)(k:Nat):Prop:=∀i,i<k->∀a b,ns[i]?=FZ a->ns[i+1]?=FZ b->bl a.p b.p=true
theorem AX8(h:A82 ns k){a b:Nd}(ha:ns[k]?=FZ a)(hb:ns[k+1]?=FZ b)(hl:bl a.p b.p=true):A82 ns (k+1):=by
 intro i hi x y hx hy;by_cases e:i=k
 .subst e;rw[ha]at hx;rw[hb]at hy;cases hx;cases hy;exact hl
 .exact h i (by omega) x y hx hy
theorem zV(h:A82 ns k)(hk:ns.length<=k+1):rW ns:=by
 have step:∀j i,(hij:i<j)->∀ (hj:j<ns.length),bl (ns[i]'(Nat.lt_trans hij hj)).p ns[j].p=true:=by
  intro j
  induction j with
  |zero=>intro i hi;omega
  |succ j ih=>
   intro i hi hj;have h1:=h j (by omega) ns[j] ns[j+1] (by simp) (by simp);by_cases e:i=j
   .subst e;exact h1
   .exact QT _ _ _ (ih i (by omega) (by omega)) h1
 exact List.pairwise_iff_getElem.2 fun i j hi hj hij=>step j i hij hj
theorem BG3(h:rW ns){i:Nat}{a b:Nd}(ha:ns[i]?=FZ a)(hb:ns[i+1]?=FZ b):bl a.p b.p=true:=by
 obtain⟨h1,rfl⟩:=AU.1 ha;obtain⟨h2,rfl⟩:=AU.1 hb;exact List.pairwise_iff_getElem.1 h i (i+1) h1 h2 (by omega)
theorem YR(v:FV)(ns:List Nd)(w:FU)(hv:IL w v ns):
  FW prog 162 #[v] w (R0 w (.bool (pd (A81 ns)))):=by
 rcases hv with⟨a,cap,rfl,rfl,_⟩|⟨b,off,cap,rfl,hle,hm,hb,hne,hr⟩
 .have F:=G6 (RD (P:=A81 []) (fun h=>by obtain⟨r,rest,h,_⟩:=h.root;cases h)).symm;go_enter func162,ntmps162;go_wp2_with fail;go_ret;exact⟨JD (G5 F),AA _ _⟩
 .obtain⟨r,rest,rfl⟩:∃r rest,ns=r::rest:=by
   cases ns with
   |nil=>exact absurd rfl hne
   |cons r rest=>exact⟨r,rest,rfl⟩
  have e0:=hr.n0 (i:=0) (x:=r) rfl;have H:=G6 hr;simp only[List.length_cons]at hle⊢;simp only[maxLen]at hm;clear hr hne;by_cases hl:rest.length+1<=400
  .by_cases hp:r.p=[47]
   .have hp2:(r.p==[47])=true:=by rw[hp];rfl
    have HL:=G6 hl;have HP:=G6 hp;clear hp;simp only[Nat.zero_mul,Nat.add_zero]at e0;by_cases hc1:cap=1
    .obtain rfl:rest=[]:=List.eq_nil_of_length_eq_zero (by omega);subst hc1;have T:=G6 (S9 (P:=A81 [r]) ⟨by simp,⟨r,[],rfl,G5 HP⟩,List.pairwise_singleton _ _⟩).symm;clear hle hl;simp only[List.length_nil];go_enter func162,ntmps162;go_wp2_with fail
     go_loopg [23] 1 (fun _ s23 wr=>s23=I0 0/\wr=w)
     case atStart=>exact⟨rfl,rfl⟩
     case round=>
      obtain⟨rfl,rfl⟩:=hrel;go_wp2_with fail;go_ret;exact⟨JD (G5 T),AA _ _⟩
    .go_enter func162,ntmps162;go_wp2_with fail
     go_loopg [23] rest.length (fun kx s23 wr=>∃k:Nat,s23=I0 k/\k<=rest.length/\rest.length-k<=kx/\Hid (B0 w wr)/\Hid (A82 (r::rest) k))
     case atStart=>exact⟨0,rfl,AY _,A8 _,G6 (AA _ _),G6 (fun i hi=>absurd hi (Nat.not_lt_zero _))⟩
     case round=>
      obtain⟨k,rfl,hk,hg,hB,hR⟩:=hrel;by_cases hlt:k<rest.length
      .obtain⟨x,hx⟩:∃x,(r::rest)[k+1]?=FZ x:=⟨_,AL (by simp;omega)⟩;obtain⟨y,hy⟩:∃y,(r::rest)[k]?=FZ y:=⟨_,AL (by simp;omega)⟩;have q:=(G5 H).kept (G5 hB) hb;have d0:=q.n0 hx;have d1:=q.n1 hx;have d2:=q.n2 hx;have d3:=q.n3 hx;have d4:=q.n4 hx;have d5:=q.n5 hx;have d6:=q.n6 hx;have d7:=q.n7 hx;have d8:=q.n8 hx;have c0:=q.n0 hy;have hbw:b<wr.heap.size:=AX hb (G5 hB).size;have hofs:off+9+k*9=off+(k+1)*9:=by omega
       rw[<-hofs]at d0 d1 d2 d3 d4 d5 d6 d7 d8;clear hofs;have hk1:(k:Int)<(rest.length:Int)+1:=by omega
       cases hbl:bl y.p x.p with
       |true=>
        have R2:=G6 (AX8 (G5 hR) hy hx hbl);have hbl1:Op.bytesLess x.p y.p=false:=O9 hbl;have hbl2:(x.p==y.p)=false:=by simpa using (TU hbl).symm
        clear hx hy q hbl;go_wp2_with fail;go_region;go_wp2_with fail
        go_roundg (rest.length-(k+1))
        case measure=>omega
        case rel=>exact⟨k+1,rfl,by omega,A8 _,G6 (G8 (G5 hB) ((G7 _ _).drew)),R2⟩
       |false=>
        have F:=G6 (RD (P:=A81 (r::rest)) (fun h=>by have:=BG3 h.asc hy hx;rw[hbl]at this;cases this)).symm;clear hx hy q
        cases hb1:bl x.p y.p with
        |true=>
         have hbl1:Op.bytesLess x.p y.p=true:=hb1;clear hbl hb1;go_wp2_with fail;go_region;go_wp2_with fail;go_ret;exact⟨JD (G5 F),G8 (G5 hB) ((G7 _ _).drew)⟩
        |false=>
         have hbl1:Op.bytesLess x.p y.p=false:=hb1;have hbl2:(x.p==y.p)=true:=by simpa using SQ _ _ hb1 hbl
         clear hbl hb1;go_wp2_with fail;go_region;go_wp2_with fail;go_ret;exact⟨JD (G5 F),G8 (G5 hB) ((G7 _ _).drew)⟩
      .obtain rfl:k=rest.length:=by omega
       go_wp2_with fail;go_ret;exact⟨JD (S9 (P:=A81 (r::rest)) ⟨G5 HL,⟨r,rest,rfl,G5 HP⟩,zV (G5 hR) (by simp)⟩).symm,G5 hB⟩
   .have hp2:(r.p==[47])=false:=by simpa using hp
    have F:=G6 (RD (P:=A81 (r::rest)) (fun h=>by obtain⟨r',s',h1,h2⟩:=h.root;cases h1;exact hp h2)).symm;clear hp;simp only[Nat.zero_mul,Nat.add_zero]at e0;go_enter func162,ntmps162;go_wp2_with fail;go_ret;exact⟨JD (G5 F),AA _ _⟩
  .have F:=G6 (RD (P:=A81 (r::rest)) (fun h=>hl (by simpa using h.few))).symm;go_enter func162,ntmps162;go_wp2_with fail;go_ret;exact⟨JD (G5 F),AA _ _⟩
def QM(ss:List Int):Nat->Int
 |0=>1
 |k+1=>ss.getD k 0+1
def OkS(ss:List Int)(k:Nat):Prop:=∀i,i<k->∀x,ss[i]?=FZ x->QM ss i<=x/\x<=2147483647
theorem BG4(h:OkS ss k){x:Int}(hx:ss[k]?=FZ x)(h1:QM ss k<=x)(h2:x<=2147483647):OkS ss (k+1):=by
 intro i hi y hy;by_cases e:i=k
 .subst e;rw[hx]at hy;cases hy;exact⟨h1,h2⟩
 .exact h i (by omega) y hy
theorem WM{x:Int}(hx:ss[k]?=FZ x):QM ss (k+1)=x+1:=by simp[QM,List.getD,hx]
theorem BG5(h:oP ss){x:Int}(hx:ss[k]?=FZ x):QM ss k<=x/\x<=2147483647:=by
 have hb:=h.2 x (AZ hx);refine⟨?_,hb.2⟩
 cases k with
 |zero=>simp only[QM];omega
 |succ k=>
  obtain⟨h1,rfl⟩:=AU.1 hx;rw[WM (AL (show k<ss.length by omega))];have:=List.pairwise_iff_getElem.1 h.1 k (k+1) (by omega) h1 (by omega);omega
theorem BG6(h:OkS ss ss.length):oP ss:=by
 have step:∀j i,(hij:i<j)->∀ (hj:j<ss.length),ss[i]'(Nat.lt_trans hij hj)<ss[j]:=by
  intro j
  induction j with
  |zero=>intro i hi;omega
  |succ j ih=>
   intro i hi hj;have h1:=(h (j+1) hj _ (AL hj)).1;rw[WM (AL (show j<ss.length by omega))]at h1;by_cases e:i=j
   .subst e;omega
   .have:=ih i (by omega) (by omega);omega
 have pos:∀i,(hi:i<ss.length)->1<=ss[i]:=by
  intro i
  induction i with
  |zero=>intro hi;exact(h 0 hi _ (AL hi)).1
  |succ i ih=>intro hi;have:=step (i+1) i (by omega) hi;have:=ih (by omega);omega
 refine⟨List.pairwise_iff_getElem.2 fun i j hi hj hij=>step j i hij hj,fun s hs=>?_⟩;obtain⟨i,hi,rfl⟩:=List.getElem_of_mem hs;exact⟨pos i hi,(h i hi _ (AL hi)).2⟩
theorem dR(v:FV)(ss:List Int)(w:FU)(hv:IL w v ss)(hi:∀s∈ss,-9223372036854775808<=s/\s<=9223372036854775807):
  FW prog 163 #[v] w fun e w'=>e=.returned (.bool (pd (oP ss)))/\w'=w:=by
 have T:=G6 (fun h:OkS ss ss.length=>(S9 (BG6 h)).symm);have F:=G6 (fun(k:Nat) (x:Int) (hx:ss[k]?=FZ x) (h:¬ (QM ss k<=x/\x<=2147483647))=>(RD (fun g:oP ss=>h (BG5 g hx))).symm);have HI:=G6 hi;clear hi;generalize pd (oP ss)=fin at T F⊢;have R:∀k x,ss[k]?=FZ x->∃b off cap,v=FQ (FZ ⟨b,off,FX⟩) ss.length cap/\w.cell? ⟨b,off+k,FX⟩=FZ (I0 x):=fun k x hx=>by
  obtain⟨b,off,cap,rfl,_,hr,_,_⟩:=NT hv (by rintro rfl;simp at hx);exact⟨b,off,cap,rfl,hr.i0 hx⟩
 have HR:=G6 R;have hml:ss.length<=9223372036854775807:=by
  rcases hv with⟨a,cap,rfl,rfl,_⟩|⟨b,off,cap,rfl,h1,h2,_⟩
  .simp
  .simp only[maxLen]at h2;omega
 obtain⟨a,c,rfl⟩:=GK hv;clear R hv;go_enter func163,ntmps163;go_wp2_with fail
 go_loopg [3,8] ss.length (fun kx s3 s8 wr=>∃k:Nat,s3=I0 (QM ss k)/\s8=I0 k/\k<=ss.length/\ss.length-k<=kx/\wr=w/\Hid (OkS ss k))
 case atStart=>exact⟨0,rfl,rfl,AY _,A8 _,rfl,G6 (fun i hi=>absurd hi (Nat.not_lt_zero _))⟩
 case round=>
  obtain⟨k,rfl,rfl,hk,hg,rfl,hO⟩:=hrel;by_cases hlt:k<ss.length
  .obtain⟨x,hx⟩:∃x,ss[k]?=FZ x:=⟨_,AL hlt⟩;obtain⟨b,off,cap,hv,e0⟩:=G5 HR k x hx;have hbx:=G5 HI x (AZ hx);simp only[Value.slice.injEq]at hv;obtain⟨rfl,_,rfl⟩:=hv;have HX:=G6 hx;clear hx;have LS:=G6 (WM (G5 HX));by_cases h1:QM ss k<=x
   .by_cases h2:x<=2147483647
    .have O2:=G6 (BG4 (G5 hO) (G5 HX) h1 h2);generalize QM ss k=ls at h1;go_wp2_with fail
     go_roundg (ss.length-(k+1))
     case measure=>omega
     case rel=>exact⟨k+1,by rw[G5 LS],rfl,by omega,A8 _,rfl,O2⟩
    .have G:=G6 (G5 F k x (G5 HX) (by omega));generalize QM ss k=ls at h1;go_wp2_with fail;go_ret;exact⟨JD (G5 G),rfl⟩
   .have G:=G6 (G5 F k x (G5 HX) (by omega));generalize QM ss k=ls at h1;go_wp2_with fail;go_ret;exact⟨JD (G5 G),rfl⟩
  .obtain rfl:k=ss.length:=by omega
   have G:=G6 (G5 T (G5 hO));go_wp2_with fail;go_ret;exact⟨JD (G5 G),rfl⟩
theorem BG7(v:FV)(ns:List Nd)(p:List UInt8)(w:FU)(hv:IL w v ns)(ha:A81 ns):
  FW prog 165 #[v,S0 p] w (R0 w (.bool (pd (BG1 ns p)))):=by
 have C:∀W:FU,B0 w W->∃i:Nat,FW prog 28 #[v,S0 (IG p)] W (R0 W (.tuple #[I0 i,.bool (LM ns (IG p)).isSome])):=fun W hW=>by
  obtain⟨i,_,h⟩:=uO v ns (IG p) W (hv.next hW) (by have:=ha.few;omega) ha.asc;exact⟨i,h⟩
 have C':=G6 C;have F:pd (BG1 ns p)=((LM ns (IG p)).isSome||AN9 p==7):=by
  cases h:(LM ns (IG p)).isSome with
  |true=>exact S9 (.inl h)
  |false=>
   by_cases h2:AN9 p=7
   .rw[S9 (.inr h2),h2];rfl
   .rw[RD (fun hh=>hh.elim (fun h1=>by rw[h]at h1;cases h1) h2)];simp[h2]
 rw[F];obtain⟨a,c,rfl⟩:=GK hv;have CS:=fun W=>MZ p W;clear C hv ha F;generalize (LM ns (IG p)).isSome=hd at C'⊢;generalize IG p=dp at C' CS;generalize NH p=sp at CS;generalize AN9 p=ep at CS⊢;generalize ns.length=nl at C'⊢;go_enter func165,ntmps165;go_wp2_with fail;refine(CS _).mono ?_;rintro e w1 ⟨rfl,hb1⟩;go_wp2_with fail;obtain⟨i,C2⟩:=G5 C' _ hb1;refine C2.mono ?_;rintro e w2 ⟨rfl,hb2⟩;have hB:=G8 hb1 hb2;clear CS C2 C' hb1 hb2
 cases hd with
 |true=>
  go_wp2_with fail;go_ret;exact⟨rfl,hB⟩
 |false=>
  go_wp2_with fail;go_ret;exact⟨rfl,hB⟩
theorem AX9(z:Int)(vn vs:FV)(n:Nd)(kids:Int)(ss:List Int)(w:FU)(hv:IL w vs ss)(hs:oP ss):
  FW prog 166 #[.agg #[I0 z,vn,vs],BW6 n,I0 kids] w (R0 w (.bool (pd (dQ z n kids ss)))):=by
 have CO:∀W:FU,B0 w W->FW prog 198 #[.agg #[I0 z,vn,vs],I0 n.o] W (R0 W (.bool (decide (n.o∈ss)))):=fun W hW=>ZW z vn vs ss n.o W (hv.next hW) hs;have C':=G6 CO;have F:=G6 (fun h:¬dQ z n kids ss=>(RD h).symm);have T:=G6 (fun h:dQ z n kids ss=>(S9 h).symm);have SP:=G6 (Iff.intro (fun h:dQ z n kids ss=>C9 h.c0 (C9 h.cm (C9 h.cq (C9 h.mz (C9 h.qz (C9 h.v0 (C9 h.v1 (C9 h.k0 (C9 h.k1 (C9 h.kids h.own)))))))))) (fun⟨a,b,c,d,e,f,g,h,i,j,k⟩=>(⟨a,b,c,d,e,f,g,h,i,j,k⟩:dQ z n kids ss)));generalize pd (dQ z n kids ss)=fin at F T⊢;obtain⟨a,c,rfl⟩:=GK hv;clear CO hv hs;unfold BW6;obtain⟨np,nd,nc,nm,nq,nv,nk,no,nn⟩:=n;simp only at C' SP⊢;go_enter func166,ntmps166;go_wp2_with fail;go_region;go_wp2_with fail
 all_goals try simp only[bne_iff_ne,ne_eq,bne_eq_false_iff_eq]at*
 all_goals (first
  |(go_ret;exact⟨JD (G5 F (fun h=>by have:=(G5 SP).1 h;omega)),(((AA _ _).alloc (A8 _) _).alloc (by simp) _).drew⟩)
  |(go_ret;exact⟨JD (G5 T ((G5 SP).2 (by omega))),(((AA _ _).alloc (A8 _) _).alloc (by simp) _).drew⟩)
  |(go_ret;exact⟨JD ((beq_eq_false_iff_ne.2 (by assumption)).trans (G5 F (fun h=>by rcases((G5 SP).1 h).2.2.2.2.2.2.2.2.2.2 with h|h<;>omega))),(((AA _ _).alloc (A8 _) _).alloc (by simp) _).drew⟩)
  |skip)
 refine(G5 C' _ ((((AA _ _).alloc (A8 _) _).alloc (by simp) _).drew)).mono ?_;rintro e w1 ⟨rfl,hb1⟩;have hB:=G8 ((((AA w.heap.size w).alloc (A8 _) _).alloc (by simp) _).drew) hb1;by_cases hmem:no∈ss
 .have G:=G6 (G5 T ((G5 SP).2 ⟨by omega,by omega,by omega,by omega,by omega,by omega,by omega,by omega,by omega,by omega,.inr ⟨by omega,hmem⟩⟩));go_wp2_with fail;go_ret;exact⟨JD (G5 G),hB⟩
 .have G:=G6 (G5 F (fun h=>by have:=((G5 SP).1 h).2.2.2.2.2.2.2.2.2.2;exact this.elim (fun h=>by omega) (fun h=>hmem h.2)));go_wp2_with fail;go_ret;exact⟨JD ((beq_eq_false_iff_ne.2 (by assumption)).trans (G5 G)),hB⟩
open Go.WideMaps Go.Maps
theorem CO3:Keyed prog 9:=string_keyed underlying9
theorem CD0(w:FU):(zeroValue 3).run prog w=.ok (.int .i64 0) w:=by kernel_rfl
def mX(w:FU)(B k:Nat)(ns:List Nd):Prop:=
 ∃D:DataW Unit,w.ownsMap prog 9 (plainElem prog 3) B k D/\IsMap D/\∀s:List UInt8,D.atKey (.string s) (.lit (.int .i64 0))=.lit (.int .i64 (NQ ns s))
theorem AI6(ns:List Nd)(n:Nd)(s:List UInt8):NQ (ns++[n]) s=NQ ns s+(if IG n.p=s then 1 else 0):=by
 simp only[NQ,List.countP_append,List.countP_cons,List.countP_nil,decide_eq_true_eq];omega
theorem BG8(ns:List Nd)(s:List UInt8):NQ ns s<=ns.length:=List.countP_le_length
theorem zX{D:DataW Unit}(hm:IsMap D)(hD:∀s:List UInt8,D.atKey (.string s) (.lit (.int .i64 0))=.lit (.int .i64 (NQ ns s)))(s:List UInt8):
  (D.put (.string (IG n.p)) (.lit (.int .i64 (NQ ns (IG n.p)+1)))).atKey (.string s) (.lit (.int .i64 0))=.lit (.int .i64 (NQ (ns++[n]) s)):=by
 rw[AI6];by_cases e:IG n.p=s
 .subst e;rw[atKey_put_same hm (show WideAt.IsKeyLit (.string _)from trivial)];simp
 .rw[atKey_put_other (by simpa using fun h=>e h.symm),hD,if_neg e];simp
theorem zY(b off cap:Nat)(ns:List Nd)(w:FU)(hl:ns.length<=400)(hb:b<w.heap.size)(hr:IB w b off (G9 ns)):
  FW prog 164 #[FQ (FZ ⟨b,off,FX⟩) ns.length cap] w fun e w'=>e=.returned (.map (FZ w.heap.size))/\mX w' w.heap.size 400 ns/\Below w.heap.size w w':=by
 have H:=G6 hr;clear hr;have hmm:= @run_makeMap prog;go_enter func164,ntmps164;go_wp2_with fail
 go_loopg [12] ns.length (fun kx i wr=>∃k:Nat,i=.int .i64 k/\k<=ns.length/\ns.length-k<=kx/\Hid (mX wr w.heap.size k (ns.take k))/\Hid (Below w.heap.size w wr))
 case atStart=>exact⟨0,rfl,AY _,A8 _,G6 ⟨_,World.ownsMap_made _ _ _ _,isMap_empty,fun s=>by rfl⟩,G6 (G7 _ _)⟩
 case round=>
  obtain⟨k,rfl,hk,hg,hC,hB⟩:=hrel;by_cases hlt:k<ns.length
  .obtain⟨x,hx⟩:∃x,ns[k]?=FZ x:=⟨_,AL hlt⟩;have q:=(G5 H).kept (G5 hB) hb;have d0:=q.n0 hx;have d1:=q.n1 hx;have d2:=q.n2 hx;have d3:=q.n3 hx;have d4:=q.n4 hx;have d5:=q.n5 hx;have d6:=q.n6 hx;have d7:=q.n7 hx;have d8:=q.n8 hx;have hbw:b<wr.heap.size:=AX hb (G5 hB).size;have hts:ns.take (k+1)=ns.take k++[x]:=by rw[List.take_add_one,hx];rfl
   have HT:=G6 hts;clear q hx hts;have CS:=fun W=>MZ x.p W;have hdl:(IG x.p).length<=1000:=by
    cases hgb:J4 x.p with
    |false=>rw[ZH hgb];simp
    |true=>
     by_cases hr:x.p=[47]
     .rw[hr,TY];simp
     .obtain⟨a,c,he,hc⟩:=ZF hgb;have:=ML hgb;rw[he]at hgb hr this⊢;rw[ZG hgb hr hc,CA1]
      split
      .simp
      .simp at this;omega
   have HDL:=G6 hdl;clear hdl;obtain⟨D,ho,hm,hD⟩:=G5 hC;have HD:=G6 hD;have HM:=G6 hm;have hc1:=BG8 (ns.take k) (IG x.p);simp only[List.length_take]at hc1;have STEP:=G6 (fun s=>zX (n:=x) hm hD s);obtain⟨cn,hcn⟩:∃cn,NQ (ns.take k) (IG x.p)=cn:=⟨_,rfl⟩;rw[hcn]at hc1;have HCN:=G6 hcn;clear hD hm hcn;generalize hdp:IG x.p=dp at CS HDL;have HDP:=G6 hdp;clear hdp;generalize NH x.p=sp at CS;generalize AN9 x.p=ep at CS;go_wp2_with fail;refine(CS _).mono ?_;rintro e w1 ⟨rfl,hb1⟩;have hB1:Below w.heap.size w w1:=G8 (G5 hB) (GU hb1);have ho1:w1.ownsMap prog 9 (plainElem prog 3) w.heap.size k D:=by
    have:Below wr.heap.size wr w1:=GU hb1;obtain⟨es,cl,h1,h2⟩:=ho;exact⟨es,cl,(this.block _ (AB.1 h1).1).trans h1,h2⟩
   have hkey:keyOf prog 9 (.string ⟨dp.toArray⟩)=FZ (.string dp):=by
    have:=keyOf_string_mk (P:=prog) underlying9 (s:=⟨dp.toArray⟩) (by have:=G5 HDL;simp only[maxLen,ByteArray.size,List.size_toArray];omega);simpa using this
   obtain⟨c,hrun,hat,_⟩:=ho1.lookup_int CO3 underlying238 underlying3 (CD0 _) hkey;have hcc:c=(cn:Int):=by
    rw[G5 HD,<-G5 HDP,G5 HCN]at hat;simpa using hat.symm
   subst hcc;clear CS hat hb1 ho d0 d1 d2 d3 d4 d5 d6 d7 d8;go_wp2_with (first
    |(at_mapUpdate;refine wpList_mapUpdate_own _ rfl _ _ _ 238 rfl 9 3 CO3 underlying238 _ w.heap.size k _ rfl ho1 (by unfold maxLen;omega) _ _ _ rfl rfl hkey _ [] (plainElem_int underlying3 (WalkArith.wf_i64 (by omega))) ?_)
    |fail)
   intro w2 hown1 hgrow1;have B2:=hB1.grown hgrow1 hB1.size (fun j hj=>by cases hj;exact A8 _);have C2:mX w2 w.heap.size (k+1) (ns.take (k+1)):=by
    refine⟨_,hown1,(G5 HM).put _ _,fun s=>?_⟩;rw[G5 HT,<-G5 STEP s,G5 HCN,G5 HDP]
   have HC2:=G6 C2;have HB2:=G6 B2;clear C2 B2 hown1 hgrow1 ho1 hrun hB1;go_wp2_with fail
   go_roundg (ns.length-(k+1))
   case measure=>omega
   case rel=>exact⟨k+1,rfl,by omega,A8 _,HC2,HB2⟩
  .obtain rfl:k=ns.length:=by omega
   go_wp2_with fail;go_ret;obtain⟨D,ho,hm,hD⟩:=G5 hC;exact⟨rfl,⟨D,ho.mono (by omega),hm,fun s=>by rw[hD,List.take_length]⟩,G5 hB⟩
structure WfT(t:Tr):Prop where
 ses:∀s∈t.ss,-9223372036854775808<=s/\s<=9223372036854775807
 CD1:∀n∈t.ns,n.p.length<=140737488355328/\n.d.length<=140737488355328
def OkG(t:Tr)(k:Nat):Prop:=∀i,i<k->∀n,t.ns[i]?=FZ n->BG2 t.z t.ns t.ss n
theorem BG9(h:OkG t k)(hn:t.ns[k]?=FZ n)(hp:BG2 t.z t.ns t.ss n):OkG t (k+1):=by
 intro i hi m hm;by_cases e:i=k
 .subst e;rw[hn]at hm;cases hm;exact hp
 .exact h i (by omega) m hm
theorem BH0(hz:KH t.z=true)(ho:A81 t.ns)(hs:oP t.ss)(h:OkG t t.ns.length){r:Nd}(hr:t.ns[0]?=FZ r):U0 t=decide (r.o=0):=by
 by_cases h0:r.o=0
 .rw[decide_eq_true h0,RP,XT];refine⟨hz,ho,hs,fun n hn=>?_,fun r' h=>by rw[hr]at h;cases h;exact h0⟩;obtain⟨i,hi,rfl⟩:=List.getElem_of_mem hn;exact h i hi _ (AL hi)
 .rw[decide_eq_false h0,YL,XT];exact fun g=>h0 (g.2.2.2.2 r hr)
theorem zZ(h:¬ (KH t.z=true/\A81 t.ns/\oP t.ss)):U0 t=false:=by
 rw[YL,XT];exact fun g=>h ⟨g.1,g.2.1,g.2.2.1⟩
theorem AY0(hn:t.ns[k]?=FZ n)(h:¬BG2 t.z t.ns t.ss n):U0 t=false:=by
 rw[YL,XT];exact fun g=>h (g.2.2.2.1 n (AZ hn))
theorem jG{B:Nat}(h:mX w B k ns)(hb:Below w.heap.size w w'):mX w' B k ns:=by
 obtain⟨D,⟨es,cl,h1,h2⟩,h3⟩:=h;exact⟨D,⟨es,cl,(hb.block _ (AB.1 h1).1).trans h1,h2⟩,h3⟩
theorem AI7(t:Tr)(vn vs:FV)(w:FU)(hn:IL w vn t.ns)(hs:IL w vs t.ss)(hw:WfT t)(hz:KH t.z=true)(ho:A81 t.ns)(ha:oP t.ss):
  FW prog 128 #[.agg #[.int .i64 t.z,vn,vs]] w fun e w'=>e=.returned (.bool (U0 t))/\Below w.heap.size w w':=by
 have hne:t.ns≠[]:=by obtain⟨r,rest,h,_⟩:=ho.root;rw[h];simp
 obtain⟨r0,hr0⟩:∃r0,t.ns[0]?=FZ r0:=by obtain⟨r,rest,h,_⟩:=ho.root;exact⟨r,by rw[h];rfl⟩
 have YES:=G6 (fun h=>BH0 hz ho ha h hr0);have NO:=G6 (fun n k h1 h2=>AY0 (t:=t) (n:=n) (k:=k) h1 h2);have CZ:=fun W=>JG t.z W;rw[hz]at CZ;have CO:=G6 (fun W (h:Below w.heap.size w W)=>YR vn t.ns W (hn.next h));have CN:=G6 (fun W (h:Below w.heap.size w W)=>dR vs t.ss W (hs.next h) hw.ses);simp only[S9 ho]at CO;simp only[S9 ha]at CN;have CH:=G6 (fun p W (h:Below w.heap.size w W)=>BG7 vn t.ns p W (hn.next h) ho);have CSD:=G6 (fun n k W (h:Below w.heap.size w W)=>AX9 t.z vn vs n k t.ss W (hs.next h) ha);have hl:=ho.few;have SL:=G6 hw.CD1;obtain⟨sa,sc,rfl⟩:=GK hs;obtain⟨b,off,cap,rfl,hb,hr,hle,hcm⟩:=NT hn hne;have H:=G6 hr;have CC:=G6 (fun W (h:Below w.heap.size w W)=>zY b off cap t.ns W hl (AX hb h.size) (hr.kept h hb));have HR0:=G6 hr0;have hpos:0<t.ns.length:=List.length_pos_iff.2 hne;clear hn hs hw hz ho ha hne hr hr0;generalize U0 t=fin at YES NO⊢;go_enter func128,ntmps128;go_wp2_with fail;refine(CZ _).mono ?_;rintro e w0 ⟨rfl,rfl⟩;have B0:=G7 w (FT #[.int .i64 t.z,FQ (FZ ⟨b,off,FX⟩) t.ns.length cap,FQ sa t.ss.length sc] 46);generalize hW0:w.alloc (FT #[.int .i64 t.z,FQ (FZ ⟨b,off,FX⟩) t.ns.length cap,FQ sa t.ss.length sc] 46)=W0 at*;have b0:W0.cell? ⟨w.heap.size,0,FX⟩=FZ (.int .i64 t.z):=by rw[<-hW0];simp
 have b1:W0.cell? ⟨w.heap.size,1,FX⟩=FZ (FQ (FZ ⟨b,off,FX⟩) t.ns.length cap):=by rw[<-hW0];simp
 have b2:W0.cell? ⟨w.heap.size,2,FX⟩=FZ (FQ sa t.ss.length sc):=by rw[<-hW0];simp
 have hsz:w.heap.size<W0.heap.size:=by rw[<-hW0];simp
 have BX:=G6 (fun W (h:Below W0.heap.size W0 W)=>(⟨(h.cell (p:=⟨w.heap.size,0,FX⟩) hsz).trans b0,(h.cell (p:=⟨w.heap.size,1,FX⟩) hsz).trans b1,(h.cell (p:=⟨w.heap.size,2,FX⟩) hsz).trans b2⟩:W.cell? ⟨w.heap.size,0,FX⟩=FZ (.int .i64 t.z)/\W.cell? ⟨w.heap.size,1,FX⟩=FZ (FQ (FZ ⟨b,off,FX⟩) t.ns.length cap)/\W.cell? ⟨w.heap.size,2,FX⟩=FZ (FQ sa t.ss.length sc)));clear hW0;go_wp2_with fail;refine(G5 CO _ B0).mono ?_;rintro e w1 ⟨rfl,hb1⟩;obtain⟨c0,c1,c2⟩:=G5 BX w1 hb1;clear b0 b1 b2;go_wp2_with fail;refine(G5 CN _ (G8 B0 hb1)).mono ?_;rintro e w2 ⟨rfl,rfl⟩;go_wp2_with fail;refine(G5 CC _ (G8 B0 hb1)).mono ?_;rintro e w3 ⟨rfl,hC3,hb3⟩;have hb3':=G8 hb1 hb3;obtain⟨d0,d1,d2⟩:=G5 BX w3 hb3';have HC:=G6 hC3;clear c0 c1 c2 CO CN CC CZ hC3;go_wp2_with fail
 go_loopg [28] t.ns.length (fun kx i wr=>∃k:Nat,i=.int .i64 k/\k<=t.ns.length/\t.ns.length-k<=kx/\Hid (Below W0.heap.size W0 wr)/\Hid (mX wr w2.heap.size 400 t.ns)/\Hid (OkG t k))
 case atStart=>exact⟨0,rfl,AY _,A8 _,G6 hb3',HC,G6 (fun i hi=>absurd hi (Nat.not_lt_zero _))⟩
 case round=>
  obtain⟨k,rfl,hk,hg,hB,hC,hO⟩:=hrel;obtain⟨x0,x1,x2⟩:=G5 BX wr (G5 hB);clear d0 d1 d2;by_cases hlt:k<t.ns.length
  .obtain⟨x,hx⟩:∃x,t.ns[k]?=FZ x:=⟨_,AL hlt⟩;have hBw:Below w.heap.size w wr:=G8 B0 (G5 hB);have q:=(G5 H).kept hBw hb;have d0:=q.n0 hx;have d1:=q.n1 hx;have d2:=q.n2 hx;have d3:=q.n3 hx;have d4:=q.n4 hx;have d5:=q.n5 hx;have d6:=q.n6 hx;have d7:=q.n7 hx;have d8:=q.n8 hx;have hbw:b<wr.heap.size:=AX hb hBw.size;have hww:w.heap.size<wr.heap.size:=AX hsz (G5 hB).size;have sl:=G5 SL x (AZ hx);have sld:=sl.2;have HX:=G6 hx;have SLP:=G6 sl.1;clear q hx sl;by_cases hd:x.d.length<=256
   .have HD:=G6 hd
    cases hh:pd (BG1 t.ns x.p)with
    |false=>
     have G:=G6 (G5 NO x k (G5 HX) (fun p=>by have:=S9 p.held;rw[hh]at this;cases this));go_wp2_with fail;refine(G5 CH x.p _ (G8 hBw (G7 _ _))).mono ?_;rintro e w4 ⟨rfl,hb4⟩;have hB4:=G8 hBw (GU hb4);rw[hh];clear hb4 d0 d1 d2 d3 d4 d5 d6 d7 d8 x0 x1 x2;go_wp2_with fail;go_ret;exact⟨JD (G5 G).symm,hB4⟩
    |true=>
     have HH:=G6 hh;go_wp2_with fail;refine(G5 CH x.p _ (G8 hBw (G7 _ _))).mono ?_;rintro e w4 ⟨rfl,hb4⟩;have hB4:=G8 hBw (GU hb4);have hB40:=G8 (G5 hB) (GU hb4);rw[hh];clear hh;have r:=fun(j:Nat) (hj:j<9)=>hb4.cell (p:=⟨wr.heap.size,j,FX⟩) (by simp);have y0:w4.cell? ⟨wr.heap.size,0,FX⟩=FZ (.string ⟨x.p.toArray⟩):=by rw[r 0 (by omega)];simp
     have y2:w4.cell? ⟨wr.heap.size,2,FX⟩=FZ (.int .i64 x.c):=by rw[r 2 (by omega)];simp
     have y3:w4.cell? ⟨wr.heap.size,3,FX⟩=FZ (.int .i64 x.m):=by rw[r 3 (by omega)];simp
     have y4:w4.cell? ⟨wr.heap.size,4,FX⟩=FZ (.int .i64 x.q):=by rw[r 4 (by omega)];simp
     have y5:w4.cell? ⟨wr.heap.size,5,FX⟩=FZ (.int .i64 x.v):=by rw[r 5 (by omega)];simp
     have y6:w4.cell? ⟨wr.heap.size,6,FX⟩=FZ (.int .i64 x.k):=by rw[r 6 (by omega)];simp
     have y7:w4.cell? ⟨wr.heap.size,7,FX⟩=FZ (.int .i64 x.o):=by rw[r 7 (by omega)];simp
     have y8:w4.cell? ⟨wr.heap.size,8,FX⟩=FZ (.int .i64 x.n):=by rw[r 8 (by omega)];simp
     obtain⟨z0,z1,z2⟩:=G5 BX w4 hB40;have hC4:=jG (G5 hC) (GU hb4);have HC4:=G6 hC4;obtain⟨D,ho4,_,hD⟩:=hC4;have hkey:keyOf prog 9 (.string ⟨x.p.toArray⟩)=FZ (.string x.p):=by
      have:=keyOf_string_mk (P:=prog) underlying9 (s:=⟨x.p.toArray⟩) (by have:=G5 SLP;simp only[maxLen,ByteArray.size,List.size_toArray];omega);simpa using this
     obtain⟨c,hrun,hat,_⟩:=ho4.lookup_int CO3 underlying238 underlying3 (CD0 _) hkey;have hcc:c=(NQ t.ns x.p:Int):=by
      rw[hD]at hat;simpa using hat.symm
     subst hcc;clear r hat hD ho4 hkey hb4 d0 d1 d2 d3 d4 d5 d6 d7 d8 x0 x1 x2;have CSX:=G5 CSD x (NQ t.ns x.p) w4 hB4;unfold BW6 at CSX
     cases hs:pd (dQ t.z x (NQ t.ns x.p) t.ss)with
     |false=>
      have G:=G6 (G5 NO x k (G5 HX) (fun p=>by have:=S9 p.sound;rw[hs]at this;cases this));rw[hs]at CSX;clear hs;go_wp2_with fail;refine CSX.mono ?_;rintro e w5 ⟨rfl,hb5⟩;have hB5:=G8 hB4 hb5;clear CSX hrun z0 z1 z2 y0 y2 y3 y4 y5 y6 y7 y8;go_wp2_with fail;go_ret;exact⟨JD (G5 G).symm,hB5⟩
     |true=>
      have O2:=G6 (BG9 (G5 hO) (G5 HX) ⟨G5 HD,BR7.1 (G5 HH),BR7.1 hs⟩);rw[hs]at CSX;clear hs;go_wp2_with fail;refine CSX.mono ?_;rintro e w5 ⟨rfl,hb5⟩;have HB5:=G6 (G8 hB40 hb5);have HC5:=G6 (jG (G5 HC4) hb5);clear CSX hrun z0 z1 z2 y0 y2 y3 y4 y5 y6 y7 y8 hb5;go_wp2_with fail
      go_roundg (t.ns.length-(k+1))
      case measure=>omega
      case rel=>exact⟨k+1,rfl,by omega,A8 _,HB5,HC5,O2⟩
   .have G:=G6 (G5 NO x k (G5 HX) (fun p=>hd p.data));go_wp2_with fail;go_ret;exact⟨JD (G5 G).symm,G8 hBw (G7 _ _)⟩
  .obtain rfl:k=t.ns.length:=by omega
   have hBw:Below w.heap.size w wr:=G8 B0 (G5 hB);have d7:=((G5 H).kept hBw hb).n7 (G5 HR0);have G:=G6 (G5 YES (G5 hO));simp only[Nat.zero_mul,Nat.add_zero]at d7;go_wp2_with fail;go_ret;exact⟨JD ((G5 G).trans (by rfl)).symm,hBw⟩
theorem ZY(t:Tr)(vn vs:FV)(w:FU)(hn:IL w vn t.ns)(hs:IL w vs t.ss)(hw:WfT t):
  FW prog 128 #[.agg #[I0 t.z,vn,vs]] w (R0 w (.bool (U0 t))):=by
 by_cases hz:KH t.z=true
 .by_cases ho:A81 t.ns
  .by_cases ha:oP t.ss
   .exact AI7 t vn vs w hn hs hw hz ho ha
   .have F:=G6 (zZ (t:=t) (fun h=>ha h.2.2)).symm;have CZ:=fun W=>JG t.z W;rw[hz]at CZ;have CO:=G6 (fun W (h:B0 w W)=>YR vn t.ns W (hn.next h));have CN:=G6 (fun W (h:B0 w W)=>dR vs t.ss W (hs.next h) hw.ses);simp only[S9 ho]at CO;simp only[RD ha]at CN;obtain⟨na,nc,rfl⟩:=GK hn;obtain⟨sa,sc,rfl⟩:=GK hs;clear hn hs hw hz ho ha;go_enter func128,ntmps128;go_wp2_with fail;refine(CZ _).mono ?_;rintro e w0 ⟨rfl,rfl⟩;go_wp2_with fail;refine(G5 CO _ (G7 _ _)).mono ?_;rintro e w1 ⟨rfl,hb1⟩;have c2:w1.cell? ⟨w.heap.size,2,FX⟩=FZ (FQ sa t.ss.length sc):=by rw[hb1.cell (p:=⟨w.heap.size,2,FX⟩) (by simp)];simp
    have HB:=G6 (GU hb1);clear hb1;go_wp2_with fail;refine(G5 CN _ (G5 HB)).mono ?_;rintro e w2 ⟨rfl,rfl⟩;go_wp2_with fail;go_ret;exact⟨JD (G5 F),G5 HB⟩
  .have F:=G6 (zZ (t:=t) (fun h=>ho h.2.1)).symm;have CZ:=fun W=>JG t.z W;rw[hz]at CZ;have CO:=G6 (fun W (h:B0 w W)=>YR vn t.ns W (hn.next h));simp only[RD ho]at CO;obtain⟨na,nc,rfl⟩:=GK hn;obtain⟨sa,sc,rfl⟩:=GK hs;clear hn hs hw hz ho;go_enter func128,ntmps128;go_wp2_with fail;refine(CZ _).mono ?_;rintro e w0 ⟨rfl,rfl⟩;go_wp2_with fail;refine(G5 CO _ (G7 _ _)).mono ?_;rintro e w1 ⟨rfl,hb1⟩;have HB:=G6 (GU hb1);clear hb1;go_wp2_with fail;go_ret;exact⟨JD (G5 F),G5 HB⟩
 .have F:=G6 (zZ (t:=t) (fun h=>hz h.1)).symm;have hz':KH t.z=false:=by simpa using hz
  have CZ:=fun W=>JG t.z W;rw[hz']at CZ;obtain⟨na,nc,rfl⟩:=GK hn;obtain⟨sa,sc,rfl⟩:=GK hs;clear hn hs hw hz hz';go_enter func128,ntmps128;go_wp2_with fail;refine(CZ _).mono ?_;rintro e w0 ⟨rfl,rfl⟩;go_wp2_with fail;go_ret;exact⟨JD (G5 F),G7 _ _⟩
theorem AY1(h:U0 t=false):VN t x=3:=by rw[VN,if_pos h]
theorem BY8(h:U0 t=true)(h1:gdE x≠0):VN t x=gdE x:=by rw[VN,if_neg (by simp[h]),if_pos h1]
theorem BH1(h:U0 t=true)(h1:gdE x=0):VN t x=(if x.z<=t.z then 13 else if x.o=1/\x.s∈t.ss then 8 else if x.o≠1/\x.s∉t.ss then 12 else 0):=by
 rw[VN,if_neg (by simp[h]),if_neg (by omega)]
theorem A00(t:Tr)(vn vs:FV)(x:GI)(w:FU)(hn:IL w vn t.ns)(hs:IL w vs t.ss)(hw:WfT t)(hg:U0 t=false):
  FW prog 169 #[.agg #[I0 t.z,vn,vs],J7 x] w (R0 w (I0 3)):=by
 have CG:=G6 (fun W (hW:B0 w W)=>ZY t vn vs W (hn.next hW) (hs.next hW) hw);rw[hg]at CG;obtain⟨na,nc,rfl⟩:=GK hn;obtain⟨sa,sc,rfl⟩:=GK hs;clear hn hs hw hg;obtain⟨xz,xo,xs,xp,xd,xv,xw⟩:=x;unfold J7;go_enter func169,ntmps169;go_wp2_with fail;refine(G5 CG _ (G8 (G7 _ _) (G7 _ _))).mono ?_;rintro e w1 ⟨rfl,hb1⟩;have HB:=G6 (G8 (G8 (G7 _ _) (G7 _ _)) hb1);clear hb1;go_wp2_with fail;go_ret;exact⟨rfl,G5 HB⟩
theorem AY2(t:Tr)(vn vs:FV)(x:GI)(w:FU)(hn:IL w vn t.ns)(hs:IL w vs t.ss)(hw:WfT t)(hd:x.d.length<=140737488355328)(hg:U0 t=true)(hx:gdE x≠0):
  FW prog 169 #[.agg #[I0 t.z,vn,vs],J7 x] w (R0 w (I0 (gdE x))):=by
 have CG:=G6 (fun W (hW:B0 w W)=>ZY t vn vs W (hn.next hW) (hs.next hW) hw);rw[hg]at CG;have CW:=G6 (fun W=>WL x W hd);obtain⟨na,nc,rfl⟩:=GK hn;obtain⟨sa,sc,rfl⟩:=GK hs;have hxb:(gdE x !=0)=true:=by simpa using hx
 clear hn hs hw hg hx;have KX:∀W:FU,Below (w.alloc (FT #[I0 t.z,FQ na t.ns.length nc,FQ sa t.ss.length sc] 46)).heap.size (w.alloc (FT #[I0 t.z,FQ na t.ns.length nc,FQ sa t.ss.length sc] 46)) W->B0 w W:=fun W h=>GU h;have HKX:=G6 KX;generalize gdE x=E at hxb CW⊢;obtain⟨xz,xo,xs,xp,xd,xv,xw⟩:=x;unfold J7 at CW⊢;simp only at CW⊢;have KT:∀w1,Below ((w.alloc (FT #[I0 t.z,FQ na t.ns.length nc,FQ sa t.ss.length sc] 46)).alloc (FT #[I0 xz,I0 xo,I0 xs,S0 xp,S0 xd,I0 xv,I0 xw] 52)).heap.size ((w.alloc (FT #[I0 t.z,FQ na t.ns.length nc,FQ sa t.ss.length sc] 46)).alloc (FT #[I0 xz,I0 xo,I0 xs,S0 xp,S0 xd,I0 xv,I0 xw] 52)) w1->TAt w1 (w.heap.size+1) ⟨xz,xo,xs,xp,xd,xv,xw⟩:=fun w1 h1=>by
  have:=(TAt.new (w.alloc (FT #[I0 t.z,FQ na t.ns.length nc,FQ sa t.ss.length sc] 46)) ⟨xz,xo,xs,xp,xd,xv,xw⟩).next h1;simpa using this
 have HKT:=G6 KT;clear KX KT;go_enter func169,ntmps169;go_wp2_with fail;refine(G5 CG _ (G8 (G7 _ _) (G7 _ _))).mono ?_;rintro e w1 ⟨rfl,hb1⟩;have HB:=G6 (G8 (G8 (G7 _ _) (G7 _ _)) hb1);have tx:=G5 HKT w1 hb1;have y0:=tx.c0;have y1:=tx.c1;have y2:=tx.c2;have y3:=tx.c3;have y4:=tx.c4;have y5:=tx.c5;have y6:=tx.c6;clear hb1 tx;go_wp2_with fail;refine(G5 CW _).mono ?_;rintro e w2 ⟨rfl,hb2⟩;have HB2:=G6 (G8 (G5 HB) hb2);clear hb2;go_wp2_with fail;go_ret;exact⟨rfl,G5 HB2⟩
theorem AI8(t:Tr)(vn vs:FV)(x:GI)(w:FU)(hn:IL w vn t.ns)(hs:IL w vs t.ss)(hw:WfT t)(hd:x.d.length<=140737488355328)(hg:U0 t=true)(hx:gdE x=0):
  FW prog 169 #[.agg #[I0 t.z,vn,vs],J7 x] w (R0 w (I0 (VN t x))):=by
 have CG:=G6 (fun W (hW:B0 w W)=>ZY t vn vs W (hn.next hW) (hs.next hW) hw);have CO:=fun W (hW:B0 w W)=>ZW t.z vn vs t.ss x.s W (hs.next hW) (RP.1 hg).ses;rw[hg]at CG;have CW:=G6 (fun W=>WL x W hd);rw[hx]at CW;rw[BH1 hg hx];generalize hr:(if x.z<=t.z then(13:Int)else if x.o=1/\x.s∈t.ss then 8 else if x.o≠1/\x.s∉t.ss then 12 else 0)=r;have q:(decide (x.z<=t.z)=true/\r=13)\/(decide (x.z<=t.z)=false/\(((x.o==1)=true/\(x.o !=1)=false/\((decide (x.s∈t.ss)=true/\r=8)\/(decide (x.s∈t.ss)=false/\r=0)))\/((x.o==1)=false/\(x.o !=1)=true/\((decide (x.s∈t.ss)=true/\r=0)\/(decide (x.s∈t.ss)=false/\r=12))))):=by
  subst hr;by_cases h1:x.z<=t.z<;>by_cases h2:x.o=1<;>by_cases h3:x.s∈t.ss<;>simp[h1,h2,h3]
 generalize decide (x.s∈t.ss)=op at CO q;clear hr;rcases q with⟨q1,rfl⟩|⟨q1,⟨q2,q3,⟨rfl,rfl⟩|⟨rfl,rfl⟩⟩|⟨q2,q3,⟨rfl,rfl⟩|⟨rfl,rfl⟩⟩⟩
 all_goals
  have HCO:=G6 CO;obtain⟨na,nc,rfl⟩:=GK hn;obtain⟨sa,sc,rfl⟩:=GK hs;clear hn hs hw hg hx CO;obtain⟨xz,xo,xs,xp,xd,xv,xw⟩:=x;unfold J7 at CW⊢;simp only at*;have KT:∀w1,Below ((w.alloc (FT #[I0 t.z,FQ na t.ns.length nc,FQ sa t.ss.length sc] 46)).alloc (FT #[I0 xz,I0 xo,I0 xs,S0 xp,S0 xd,I0 xv,I0 xw] 52)).heap.size ((w.alloc (FT #[I0 t.z,FQ na t.ns.length nc,FQ sa t.ss.length sc] 46)).alloc (FT #[I0 xz,I0 xo,I0 xs,S0 xp,S0 xd,I0 xv,I0 xw] 52)) w1->TAt w1 (w.heap.size+1) ⟨xz,xo,xs,xp,xd,xv,xw⟩/\w1.heap[w.heap.size]?=FZ (FT #[I0 t.z,FQ na t.ns.length nc,FQ sa t.ss.length sc] 46 (0,0)):=fun w1 h1=>by
   have:=(TAt.new (w.alloc (FT #[I0 t.z,FQ na t.ns.length nc,FQ sa t.ss.length sc] 46)) ⟨xz,xo,xs,xp,xd,xv,xw⟩).next h1;refine⟨by simpa using this,?_⟩;rw[h1.block _ (by simp;omega)];rw[(G7 (w.alloc (FT #[I0 t.z,FQ na t.ns.length nc,FQ sa t.ss.length sc] 46)) (FT #[I0 xz,I0 xo,I0 xs,S0 xp,S0 xd,I0 xv,I0 xw] 52)).block _ (by simp)];exact heap_alloc_new w _
  have HKT:=G6 KT;clear KT;go_enter func169,ntmps169;go_wp2_with fail;refine(G5 CG _ (G8 (G7 _ _) (G7 _ _))).mono ?_;rintro e w1 ⟨rfl,hb1⟩;have HB:=G6 (G8 (G8 (G7 _ _) (G7 _ _)) hb1);obtain⟨tx,tt⟩:=G5 HKT w1 hb1;have y0:=tx.c0;have y1:=tx.c1;have y2:=tx.c2;have y3:=tx.c3;have y4:=tx.c4;have y5:=tx.c5;have y6:=tx.c6;have HTX:=G6 tx;have HTT:=G6 tt;clear hb1 tx tt;go_wp2_with fail;refine(G5 CW _).mono ?_;rintro e w2 ⟨rfl,hb2⟩;have HB2:=G6 (G8 (G5 HB) hb2);have tx2:=(G5 HTX).next hb2;have tt2:=(hb2.block _ (AB.1 (G5 HTT)).1).trans (G5 HTT);have u0:=tx2.c0;have u1:=tx2.c1;have u2:=tx2.c2;have v0:w2.cell? ⟨w.heap.size,0,FX⟩=FZ (I0 t.z):=by simp[World.cell?,tt2]
  have v1:w2.cell? ⟨w.heap.size,1,FX⟩=FZ (FQ na t.ns.length nc):=by simp[World.cell?,tt2]
  have v2:w2.cell? ⟨w.heap.size,2,FX⟩=FZ (FQ sa t.ss.length sc):=by simp[World.cell?,tt2]
  have zU:=G6 tx2;have HTT2:=G6 tt2;clear hb2 y0 y1 y2 y3 y4 y5 y6 tx2 tt2;go_wp2_with fail;refine(G5 HCO _ (G5 HB2)).mono ?_;rintro e w3 ⟨rfl,hb3⟩;have HB3:=G6 (G8 (G5 HB2) hb3);have tx3:=(G5 zU).next hb3;have tt3:=(hb3.block _ (AB.1 (G5 HTT2)).1).trans (G5 HTT2);have z0:=tx3.c0;have z1:=tx3.c1;have r0:w3.cell? ⟨w.heap.size,0,FX⟩=FZ (I0 t.z):=by simp[World.cell?,tt3]
  clear hb3 u0 u1 u2 v0 v1 v2 tx3 tt3;go_wp2_with fail;go_ret;exact⟨rfl,G5 HB3⟩
theorem vG(t:Tr)(vn vs:FV)(x:GI)(w:FU)(hn:IL w vn t.ns)(hs:IL w vs t.ss)(hw:WfT t)(hd:x.d.length<=140737488355328):
  FW prog 169 #[.agg #[I0 t.z,vn,vs],J7 x] w (R0 w (I0 (VN t x))):=by
 cases hg:U0 t with
 |false=>rw[AY1 hg];exact A00 t vn vs x w hn hs hw hg
 |true=>
  by_cases hx:gdE x=0
  .exact AI8 t vn vs x w hn hs hw hd hg hx
  .rw[BY8 hg hx];exact AY2 t vn vs x w hn hs hw hd hg hx
