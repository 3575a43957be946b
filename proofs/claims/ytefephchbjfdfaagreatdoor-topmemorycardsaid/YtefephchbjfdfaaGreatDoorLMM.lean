/-
  Part.
-/
import Derived.Test.YtefephchbjfdfaaGreatDoorLML
import Derived.Lib.ConvBytes
import Derived.Laws.EntriesVeiled
set_option maxRecDepth 20000
set_option maxHeartbeats 8000000
namespace Go.Proofs.YtefephchbjfdfaaGreatDoor
open Go.RowKit Go.Proofs.Tryz
open _root_.Nat renaming le_refl->AA,lt_of_lt_of_le->AY,zero_le->AZ,le_trans->BP
open Go.RowKit.Below renaming refl->AB
open _root_.Array renaming getElem?_eq_some_iff->AL
open _root_.List renaming getElem?_eq_getElem->AO,getElem?_eq_some_iff->AV,mem_of_getElem?->BA,mem_cons->BR,mem_append->D8,length_map->EJ,mem_map->F5
open Go.World renaming cell?->AX
open _root_.And renaming intro->DJ
open Go.Value renaming slice->FV
open Go.Obj renaming cells->FW
open Go renaming World->FX,Value->FZ,Calls->G5
open _root_.Option renaming none->G6,some->G8
variable{t:Tr}{x:GV}{E z more:Int}{p:List UInt8}{ns:List Nd}{n:Nd}{F:Nat->Prop}{b q k B:Nat}{w w' W V:FX}{e:Ending}{P:Prop}{ss:List Int}{vn vs:FZ}
def oG(t:Tr)(x:GV):Int:=if lY t x≠0 then lY t x else if YQ (gQ t x)=true then 6 else 0
theorem BK9(h:WL t x≠0):YR t x=WL t x:=by rw[YR,if_pos h]
theorem AB1(h:WL t x=0):YR t x=oG t x:=by rw[YR,if_neg (by omega),oG]
theorem QM(h:lY t x=E)(h0:E≠0):oG t x=E:=by rw[oG,if_pos (by omega),h]
theorem kG(h:lY t x=0)(hf:YQ (gQ t x)=true):oG t x=6:=by rw[oG,if_neg (by omega),if_pos hf]
theorem dY(h:lY t x=0)(hf:YQ (gQ t x)=false):oG t x=0:=by rw[oG,if_neg (by omega),if_neg (by simp[hf])]
theorem rJ(p:List UInt8)(z more:Int)(ns:List Nd):(OL p z more ns).length=ns.length:=by rw[OL,EJ]
theorem AL2(h:n∈OL p z more ns):∃m∈ns,n=(if m.p=p then bump z more m else m):=by
 rw[OL]at h;obtain⟨m,hm,rfl⟩:=F5.1 h;exact⟨m,hm,rfl⟩
theorem AL3{m:Nd}(h:m∈ns)(hp:m.p=p):bump z more m∈OL p z more ns:=by
 rw[OL];exact F5.2 ⟨m,h,by rw[if_pos hp]⟩
theorem B17{u:Nd}(h:u∈ns)(hp:u.p=p)(hk:u.k=2147483647):YQ (OL p z more ns)=true:=
 nM.2 ⟨_,AL3 h hp,by show 2147483647<u.k+1;omega⟩
theorem B18{u:Nd}(ha:uD ns)(h:u∈ns)(hp:u.p=p)(hk:u.k<2147483647)(hc:∀n∈ns,n.k<=2147483647):YQ (OL p z more ns)=false:=by
 rw[OW];intro n hn;obtain⟨m,hm,rfl⟩:=AL2 hn
 split
 .rename_i e
  have:m=u:=UL ha hm h (by rw[e,hp]);subst this;show m.k+1<=_;omega
 .exact hc m hm
def Chg(F:Nat->Prop)(b:Nat)(t:Tr)(x:GV)(w:FX)(e:Ending)(w':FX):Prop:=
 e=.returned (I0 (oG t x))/\Touch F w w'/\(oG t x=0->∃vn vs ve,Grow w' F b x.z vn vs ve (gQ t x) (qJ t x) (qK t x))
theorem Chg.no(h:e=.returned (I0 E)/\Touch F w w')(hE:oG t x=E)(h0:E≠0):Chg F b t x w e w':=
 ⟨by rw[hE];exact h.1,h.2,fun h'=>by omega⟩
theorem C41(F:Nat->Prop)(b:Nat)(t:Tr)(vn vs ve:FZ)(x:GV)(w:FX)(h:Grow w F b x.z vn vs ve t.ns t.ss [])(hF:∀k,w.heap.size<=k->F k)(ha:WL t x=0)(ho:x.o=3):
  G5 prog 199 #[P0 b,JC x] w (Chg F b t x w):=by
 obtain⟨g,hg,hz,h1,h2⟩:=QK ha;have f:=ZJ hg;obtain⟨hp1,hp2⟩:=f.path (.inl ho);have hpl:=MV hp1;have hdl:=f.d;have hdo:=WZ x.p;have hE:lY t x=AH3 t x:=by rw[lY,if_pos ho]
 have hN:gQ t x=uU x.z t.ns (A84 x):=by rw[gQ,if_neg (by omega),if_pos ho]
 have hS:qJ t x=t.ss:=by rw[qJ,if_neg (by omega),if_neg (by omega)]
 have hV:qK t x=[⟨1,x.p⟩,⟨4,IL x.p⟩]:=by rw[qK,if_neg (by omega),if_pos ho]
 have few:=g.nod.few;rcases YU x.p t.ns g.nod.asc with⟨A,n,B,T⟩|⟨A,B,G⟩
 .refine(B08 F b x.z vn vs ve t.ns A B n t.ss [] x w h T few g.nod.asc).mono fun e w' q=>Chg.no q ?_ (by decide);exact QM (by rw[hE,AH3,T.look,if_pos (by rfl)]) (by decide)
 .rcases YU (IL x.p) t.ns g.nod.asc with⟨A',u,B',U⟩|⟨A',B',U⟩
  .by_cases hu:u.o=0
   .have hum:u∈t.ns:=by rw[U.eq];simp
    have ku:=g.nod.ok u hum;have hkc:=g.cap u hum;have hkn:=ku.kids;have hkl:OG t.ns u.p<=t.ns.length:=List.countP_le_length;by_cases hw:x.w=0\/x.w=x.s
    .by_cases hf:t.ns.length=400
     .have hc:AH3 t x=6:=by
       rw[AH3,G.look,if_neg (by simp),U.look];simp only;rw[if_neg (by omega),if_neg (by rintro⟨a,c⟩;rcases hw with e|e<;>omega),if_pos hf]
      by_cases hw0:x.w=0
      .exact(B12 F b x.z vn vs ve t.ns A B A' B' u t.ss [] x w h G U hu hw0 hf).mono fun e w' q=>Chg.no q (QM (by rw[hE,hc]) (by decide)) (by decide)
      .exact(B13 F b x.z vn vs ve t.ns A B A' B' u t.ss [] x w h G U hu hw0 (by omega) hf).mono fun e w' q=>Chg.no q (QM (by rw[hE,hc]) (by decide)) (by decide)
     .have hc:AH3 t x=0:=by
       rw[AH3,G.look,if_neg (by simp),U.look];simp only;rw[if_neg (by omega),if_neg (by rintro⟨a,c⟩;rcases hw with e|e<;>omega),if_neg hf]
      have gn:PZ x.z t.ns t.ss:=g.nod.mono (by omega);have hsm:x.s∈t.ss:=h2 (by omega);have ga:=A83 (x:=A84 x) gn G (by omega) hp1 hp2 ⟨u,hum,U.nm,hu⟩ f.d f.z.1 rfl rfl rfl rfl rfl rfl (by
       rcases hw with c|c
       .exact .inl c
       .exact .inr (by show x.w∈t.ss;rw[c];exact hsm))
      have hins:CR8 t.ns (A84 x)=A++A84 x::B:=G.ins;have hasc:uD (A++A84 x::B):=by
       have:=(OZ _).1 ga.asc;rw[uU,WY,hins]at this;exact(OZ _).2 this
      have CU7:u∈A++A84 x::B:=by
       have:=hum;rw[G.eq]at this;rcases D8.1 this with e|e<;>simp[e]
      obtain⟨A2,B2,U2⟩:∃A2 B2,KL (A++A84 x::B) A2 u B2 (IL x.p):=by
       rw[<-U.nm];exact RY hasc (aQ hasc CU7)
      have hlen:(A++A84 x::B).length<=400:=by rw[<-hins,<-rJ (IL x.p) x.z 1];exact ga.few
      by_cases hk:u.k=2147483647
      .have hfu:oG t x=6:=kG (by rw[hE,hc]) (by rw[hN,uU,hins];exact B17 CU7 U.nm hk);have P:∀W vn' ve',Grow W F b x.z vn' vs ve' (A++A84 x::B) t.ss ([]++[⟨1,x.p⟩])->w.heap.size<=W.heap.size->Touch F w W->G5 prog 226 #[P0 b,S0 (IL x.p),I0 1] W fun e w'=>e=.returned (I0 6)/\Touch F w w':=by
        intro W vn' ve' hG hs ht;refine(kD F b x.z vn' vs ve' _ A2 B2 u t.ss _ (IL x.p) 1 W hG U2 hlen hk).mono ?_;rintro e w' ⟨rfl,t'⟩;exact⟨rfl,ht.trans t'⟩
       exact(AB0 F b x.z vn vs ve t.ns A B A' B' u 6 _ t.ss [] x w h hF G U few hu hw (by omega) (by omega) (by omega) (by simp) P).mono fun e w' q=>Chg.no q hfu (by decide)
      .have CU8:∀n∈A++A84 x::B,n.k<=2147483647:=by
        intro n hn;rcases D8.1 hn with e|e
        .exact g.cap n (by rw[G.eq];simp[e])
        .rcases BR.1 e with rfl|e
         .show (0:Int)<=_;decide
         .exact g.cap n (by rw[G.eq];simp[e])
       have hfu:oG t x=0:=dY (by rw[hE,hc]) (by rw[hN,uU,hins];exact B18 hasc CU7 U.nm (by omega) CU8);have P:∀W vn' ve',Grow W F b x.z vn' vs ve' (A++A84 x::B) t.ss ([]++[⟨1,x.p⟩])->w.heap.size<=W.heap.size->Touch F w W->G5 prog 226 #[P0 b,S0 (IL x.p),I0 1] W fun e w'=>e=.returned (I0 0)/\((∃vn' ve',Grow w' F b x.z vn' vs ve' (gQ t x) t.ss (qK t x))/\Touch F w w'):=by
        intro W vn' ve' hG hs ht;refine(wM F b x.z vn' vs ve' _ A2 B2 u t.ss _ (IL x.p) 1 W hG (fun k hk=>hF k (by omega)) U2 hlen ⟨ku.k0,by omega⟩ (by omega) (by omega) (by omega) (by simp)).mono ?_;rintro e w' ⟨rfl,ve2,g',t'⟩;refine⟨rfl,⟨vn',ve2,?_⟩,ht.trans t'⟩;have e1:gQ t x=A2++bump x.z 1 u::B2:=by
         rw[hN,uU,hins];exact U2.bump x.z 1
        rw[e1,hV];exact g'
       have fin:∀ (e:Ending) (w':FX),(e=.returned (I0 0)/\((∃vn' ve',Grow w' F b x.z vn' vs ve' (gQ t x) t.ss (qK t x))/\Touch F w w'))->Chg F b t x w e w':=by
        rintro e w' ⟨rfl,⟨vn',ve',g'⟩,t'⟩;exact⟨by rw[hfu],t',fun _=>⟨vn',vs,ve',by rw[hS];exact g'⟩⟩
       exact(AB0 F b x.z vn vs ve t.ns A B A' B' u 0 _ t.ss [] x w h hF G U few hu hw (by omega) (by omega) (by omega) (by simp) P).mono fin
    .have hw1:x.w≠0:=fun e=>hw (.inl e);have hw2:x.w≠x.s:=fun e=>hw (.inr e);refine(C40 F b x.z vn vs ve t.ns A B A' B' u t.ss [] x w h G U few hu hw1 hw2).mono fun e w' q=>Chg.no q ?_ (by decide);refine QM ?_ (by decide);rw[hE,AH3,G.look,if_neg (by simp),U.look];simp only;rw[if_neg (by omega),if_pos ⟨hw1,hw2⟩]
   .refine(B09 F b x.z vn vs ve t.ns A B A' B' u t.ss [] x w h G U few hu).mono fun e w' q=>Chg.no q ?_ (by decide);refine QM ?_ (by decide);rw[hE,AH3,G.look,if_neg (by simp),U.look];simp only;rw[if_pos hu]
  .refine(BK5 F b x.z vn vs ve t.ns A B A' B' t.ss [] x w h G U few).mono fun e w' q=>Chg.no q ?_ (by decide);refine QM ?_ (by decide);rw[hE,AH3,G.look,if_neg (by simp),U.look]
theorem C42(F:Nat->Prop)(b:Nat)(t:Tr)(vn vs ve:FZ)(x:GV)(w:FX)(h:Grow w F b x.z vn vs ve t.ns t.ss [])(hF:∀k,w.heap.size<=k->F k)(ha:WL t x=0)(ho:x.o=4):
  G5 prog 200 #[P0 b,S0 x.p] w (Chg F b t x w):=by
 obtain⟨g,hg,hz,h1,h2⟩:=QK ha;have f:=ZJ hg;obtain⟨hp1,hp2⟩:=f.path (.inr ho);have hpl:=MV hp1;have hdo:=WZ x.p;have few:=g.nod.few;have hE:lY t x=BG1 t x:=by rw[lY,if_neg (by omega),if_pos ho]
 have hN:gQ t x=rmN x.z t.ns x.p:=by rw[gQ,if_neg (by omega),if_neg (by omega),if_pos ho]
 have hS:qJ t x=t.ss:=by rw[qJ,if_neg (by omega),if_neg (by omega)]
 have hV:qK t x=[⟨2,x.p⟩,⟨4,IL x.p⟩]:=by rw[qK,if_neg (by omega),if_neg (by omega),if_pos ho]
 rcases YU x.p t.ns g.nod.asc with⟨A,n,B,T⟩|⟨A,B,G⟩
 .have hn:n∈t.ns:=by rw[T.eq];simp
  by_cases hk:n.n=0
  .have hd0:BG1 t x=0:=by rw[BG1,T.look];simp only;rw[if_neg (by omega)]
   have gn:PZ x.z t.ns t.ss:=g.nod.mono (by omega);obtain⟨u,hu1,hu2,hu3,hu4,hu5⟩:=AV4 gn hn (by rw[T.nm];exact hp2);rw[T.nm]at hu1 hu3 hu4;obtain⟨A',B',T'⟩:=nR gn.asc T hu2 hu3 hu4;have ku:=gn.ok u hu2;have hkc:=g.cap u hu2;have hkn:=ku.kids;have hkl:OG t.ns u.p<=t.ns.length:=List.countP_le_length;by_cases hf:u.k=2147483647
   .refine(kF F b x.z vn vs ve t.ns A B A' B' n u t.ss [] x.p w h hF T T' few hk hf (by omega) (by simp)).mono fun e w' q=>Chg.no q ?_ (by decide);exact kG (by rw[hE,hd0]) (by rw[hN];exact AV9 hu2 hu3 hu4 hf [] (by simp))
   .refine(wO F b x.z vn vs ve t.ns A B A' B' n u t.ss [] x.p w h hF T T' few hk ⟨ku.k0,by omega⟩ (by omega) (by omega) (by omega) (by simp)).mono ?_;rintro e w' ⟨rfl,vn',ve',g',t'⟩;have hc:oG t x=0:=dY (by rw[hE,hd0]) (by rw[hN,OW];exact BW8 gn.asc hu2 hu3 (by omega) g.cap);exact⟨by rw[hc],t',fun _=>⟨vn',vs,ve',by rw[hN,hS,hV];exact g'⟩⟩
  .refine(A20 F b x.z vn vs ve t.ns A B n t.ss [] x.p w h T few hk).mono fun e w' q=>Chg.no q ?_ (by decide);exact QM (by rw[hE,BG1,T.look];simp only;rw[if_pos hk]) (by decide)
 .refine(AL0 F b x.z vn vs ve t.ns A B t.ss [] x.p w h G few).mono fun e w' q=>Chg.no q ?_ (by decide);exact QM (by rw[hE,BG1,G.look]) (by decide)
theorem C43(F:Nat->Prop)(b:Nat)(t:Tr)(vn vs ve:FZ)(x:GV)(w:FX)(h:Grow w F b x.z vn vs ve t.ns t.ss [])(hF:∀k,w.heap.size<=k->F k)(ha:WL t x=0)(ho:x.o=5):
  G5 prog 201 #[P0 b,JC x] w (Chg F b t x w):=by
 obtain⟨g,hg,hz,h1,h2⟩:=QK ha;have f:=ZJ hg;have hpl:=MV (f.CT9 ho);have hdl:=f.d;have few:=g.nod.few;have hE:lY t x=CF3 t x:=by rw[lY,if_neg (by omega),if_neg (by omega),if_pos ho]
 have hN:gQ t x=AV2 x.p x.d x.v x.z t.ns:=by rw[gQ,if_neg (by omega),if_neg (by omega),if_neg (by omega),if_pos ho]
 have hS:qJ t x=t.ss:=by rw[qJ,if_neg (by omega),if_neg (by omega)]
 have hV:qK t x=[⟨3,x.p⟩]:=by rw[qK,if_neg (by omega),if_neg (by omega),if_neg (by omega),if_pos ho]
 rcases YU x.p t.ns g.nod.asc with⟨A,n,B,T⟩|⟨A,B,G⟩
 .have hn:n∈t.ns:=by rw[T.eq];simp
  have kn:=g.nod.ok n hn;by_cases hv:x.v=n.v+1
  .refine(CJ3 F b x.z vn vs ve t.ns A B n t.ss [] x w h hF T few ⟨kn.v0,kn.v1⟩ (by omega) (by omega) (by simp) hv).mono ?_;rintro e w' ⟨rfl,ve',g',t'⟩;have hc:oG t x=0:=dY (by rw[hE,CF3,T.look];simp only;rw[if_neg (by omega)]) (by
    rw[hN,OW];intro m hm;rw[AV2]at hm;obtain⟨m',hm',rfl⟩:=F5.1 hm
    split
    .exact g.cap m' hm'
    .exact g.cap m' hm')
   exact⟨by rw[hc],t',fun _=>⟨vn,vs,ve',by rw[hN,hS,hV,T.put];exact g'⟩⟩
  .refine(C39 F b x.z vn vs ve t.ns A B n t.ss [] x w h hF T few ⟨kn.v0,kn.v1⟩ (by omega) (by omega) (by simp) hv).mono fun e w' q=>Chg.no q ?_ (by decide);exact QM (by rw[hE,CF3,T.look];simp only;rw[if_pos hv]) (by decide)
 .refine(C38 F b x.z vn vs ve t.ns A B t.ss [] x w h G few).mono fun e w' q=>Chg.no q ?_ (by decide);exact QM (by rw[hE,CF3,G.look]) (by decide)
theorem C44(F:Nat->Prop)(b:Nat)(t:Tr)(vn vs ve:FZ)(x:GV)(w:FX)(h:Grow w F b x.z vn vs ve t.ns t.ss [])(hF:∀k,w.heap.size<=k->F k)(ha:WL t x=0)(ho:x.o=2):
  G5 prog 198 #[P0 b,I0 x.s] w (Chg F b t x w):=by
 obtain⟨g,hg,hz,h1,h2⟩:=QK ha;have f:=ZJ hg;have gn:PZ x.z t.ns t.ss:=g.nod.mono (by omega);have hE:lY t x=0:=by rw[lY,if_neg (by omega),if_neg (by omega),if_neg (by omega)]
 have hN:gQ t x=RJ x.z t.ns (P6 t.ns x.s):=by rw[gQ,if_pos ho]
 have hS:qJ t x=AH2 t.ss x.s:=by rw[qJ,if_neg (by omega),if_pos ho]
 have hV:qK t x=AV6 (P6 t.ns x.s):=by rw[qK,if_pos ho]
 have hm:=h2 (by omega);rcases uT x.s t.ss g.ses.1 with⟨A,B,T⟩|⟨A,B,G⟩
 .refine(B16 F b x.z vn vs ve t.ns t.ss A B t.ss x.s w h hF T (TW g.ses) ⟨gn,nO gn (by have:=f.s;omega),g.cap⟩).mono ?_;rintro e w' (⟨hf,rfl,t'⟩|⟨hf,rfl,vn',vs',ve',g',t'⟩)
  .exact Chg.no ⟨rfl,t'⟩ (kG hE (by rw[hN];exact hf)) (by decide)
  .have hc:oG t x=0:=dY hE (by rw[hN];exact hf);exact⟨by rw[hc],t',fun _=>⟨vn',vs',ve',by rw[hN,hS,hV,T.drop];exact g'⟩⟩
 .exact absurd hm G.not
theorem C45(F:Nat->Prop)(b:Nat)(t:Tr)(vn vs:FZ)(x:GV)(w:FX)(h:Grow w F b x.z vn vs (N0) t.ns t.ss [])(hF:∀k,w.heap.size<=k->F k)(ha:WL t x=0)(ho:x.o=1):
  G5 prog 197 #[P0 b,I0 x.s] w fun e w'=>e=.returned (.tuple #[])/\Chg F b t x w (.returned (I0 0)) w':=by
 obtain⟨g,hg,hz,h1,h2⟩:=QK ha;have f:=ZJ hg;have hE:lY t x=0:=by rw[lY,if_neg (by omega),if_neg (by omega),if_neg (by omega)]
 have hN:gQ t x=t.ns:=by rw[gQ,if_neg (by omega),if_neg (by omega),if_neg (by omega),if_neg (by omega)]
 have hS:qJ t x=C09 t.ss x.s:=by rw[qJ,if_pos ho]
 have hV:qK t x=[]:=by rw[qK,if_neg (by omega),if_neg (by omega),if_neg (by omega),if_neg (by omega)]
 have hm:=h1 ho;rcases uT x.s t.ss g.ses.1 with⟨A,B,T⟩|⟨A,B,G⟩
 .exact absurd T.mem hm
 .have hl:t.ss.length<=2147483646:=by
   have h3:=TW (A82 g.ses f.s hm);rw[G.ins]at h3;rw[G.eq];simp at h3⊢;omega
  refine(BK7 F b x.z vn vs _ t.ns t.ss A B [] x.s w h hF G hl).mono ?_;rintro e w' ⟨rfl,vs',g',t'⟩;have hc:oG t x=0:=dY hE (by rw[hN,OW];exact g.cap);exact⟨rfl,by rw[hc],t',fun _=>⟨vn,vs',_,by rw[hN,hS,hV,G.ins];exact g'⟩⟩
theorem Chg.boxed{o:Obj}(h:Chg F b t x (w.alloc o) e w'):Chg F b t x w e w':=
 ⟨h.1,(Touch.of_below (GI w o)).trans h.2.1,h.2.2⟩
theorem AL4(F:Nat->Prop)(b:Nat)(t:Tr)(vn vs:FZ)(x:GV)(w:FX)(h:Grow w F b x.z vn vs (N0) t.ns t.ss [])(hF:∀k,w.heap.size<=k->F k)(ha:WL t x=0)(ho:x.o=1):
  G5 prog 167 #[P0 b,JC x] w (Chg F b t x w):=by
 have C:=C45 F b t vn vs x (w.alloc (FW #[I0 x.z,I0 x.o,I0 x.s,S0 x.p,S0 x.d,I0 x.v,I0 x.w] 59)) (h.next (GI _ _)) (fun k hk=>hF k (by simp at hk;omega)) ha ho;clear h hF ha;have HO:=GH ho;obtain⟨xz,xo,xs,xp,xd,xv,xw⟩:=x;unfold JC;simp only at C ho⊢;subst ho;have HC:=GH C;clear C;go_enter func167,ntmps167;go_wp2_with fail;refine(G9 HC).mono ?_;rintro e w1 ⟨rfl,hc⟩;have HQ:=GH hc.boxed;clear hc HC;go_wp2_with fail;go_ret;exact G9 HQ
theorem AL5(F:Nat->Prop)(b:Nat)(t:Tr)(vn vs:FZ)(x:GV)(w:FX)(h:Grow w F b x.z vn vs (N0) t.ns t.ss [])(hF:∀k,w.heap.size<=k->F k)(ha:WL t x=0)(ho:x.o=2):
  G5 prog 167 #[P0 b,JC x] w (Chg F b t x w):=by
 have C:=C44 F b t vn vs _ x (w.alloc (FW #[I0 x.z,I0 x.o,I0 x.s,S0 x.p,S0 x.d,I0 x.v,I0 x.w] 59)) (h.next (GI _ _)) (fun k hk=>hF k (by simp at hk;omega)) ha ho;clear h hF ha;have HO:=GH ho;obtain⟨xz,xo,xs,xp,xd,xv,xw⟩:=x;unfold JC;simp only at C ho⊢;subst ho;have HC:=GH C;clear C;go_enter func167,ntmps167;go_wp2_with fail;refine(G9 HC).mono ?_;rintro e w1 hc;obtain⟨rfl,hc'⟩:=hc.boxed;have HQ:=GH hc';clear hc hc' HC;go_wp2_with fail;go_ret;exact⟨rfl,G9 HQ⟩
theorem AL6(F:Nat->Prop)(b:Nat)(t:Tr)(vn vs:FZ)(x:GV)(w:FX)(h:Grow w F b x.z vn vs (N0) t.ns t.ss [])(hF:∀k,w.heap.size<=k->F k)(ha:WL t x=0)(ho:x.o=3):
  G5 prog 167 #[P0 b,JC x] w (Chg F b t x w):=by
 have C:=C41 F b t vn vs _ x (w.alloc (FW #[I0 x.z,I0 x.o,I0 x.s,S0 x.p,S0 x.d,I0 x.v,I0 x.w] 59)) (h.next (GI _ _)) (fun k hk=>hF k (by simp at hk;omega)) ha ho;clear h hF ha;have HO:=GH ho;obtain⟨xz,xo,xs,xp,xd,xv,xw⟩:=x;unfold JC at C⊢;simp only at C ho⊢;subst ho;have HC:=GH C;clear C;go_enter func167,ntmps167;go_wp2_with fail;refine(G9 HC).mono ?_;rintro e w1 hc;obtain⟨rfl,hc'⟩:=hc.boxed;have HQ:=GH hc';clear hc hc' HC;go_wp2_with fail;go_ret;exact⟨rfl,G9 HQ⟩
theorem AL7(F:Nat->Prop)(b:Nat)(t:Tr)(vn vs:FZ)(x:GV)(w:FX)(h:Grow w F b x.z vn vs (N0) t.ns t.ss [])(hF:∀k,w.heap.size<=k->F k)(ha:WL t x=0)(ho:x.o=4):
  G5 prog 167 #[P0 b,JC x] w (Chg F b t x w):=by
 have C:=C42 F b t vn vs _ x (w.alloc (FW #[I0 x.z,I0 x.o,I0 x.s,S0 x.p,S0 x.d,I0 x.v,I0 x.w] 59)) (h.next (GI _ _)) (fun k hk=>hF k (by simp at hk;omega)) ha ho;clear h hF ha;have HO:=GH ho;obtain⟨xz,xo,xs,xp,xd,xv,xw⟩:=x;unfold JC;simp only at C ho⊢;subst ho;have HC:=GH C;clear C;go_enter func167,ntmps167;go_wp2_with fail;refine(G9 HC).mono ?_;rintro e w1 hc;obtain⟨rfl,hc'⟩:=hc.boxed;have HQ:=GH hc';clear hc hc' HC;go_wp2_with fail;go_ret;exact⟨rfl,G9 HQ⟩
theorem AL8(F:Nat->Prop)(b:Nat)(t:Tr)(vn vs:FZ)(x:GV)(w:FX)(h:Grow w F b x.z vn vs (N0) t.ns t.ss [])(hF:∀k,w.heap.size<=k->F k)(ha:WL t x=0)(ho:x.o=5):
  G5 prog 167 #[P0 b,JC x] w (Chg F b t x w):=by
 have C:=C43 F b t vn vs _ x (w.alloc (FW #[I0 x.z,I0 x.o,I0 x.s,S0 x.p,S0 x.d,I0 x.v,I0 x.w] 59)) (h.next (GI _ _)) (fun k hk=>hF k (by simp at hk;omega)) ha ho;clear h hF ha;have HO:=GH ho;obtain⟨xz,xo,xs,xp,xd,xv,xw⟩:=x;unfold JC at C⊢;simp only at C ho⊢;subst ho;have HC:=GH C;clear C;go_enter func167,ntmps167;go_wp2_with fail;refine(G9 HC).mono ?_;rintro e w1 hc;obtain⟨rfl,hc'⟩:=hc.boxed;have HQ:=GH hc';clear hc hc' HC;go_wp2_with fail;go_ret;exact⟨rfl,G9 HQ⟩
theorem AL9(F:Nat->Prop)(b:Nat)(t:Tr)(vn vs:FZ)(x:GV)(w:FX)(h:Grow w F b x.z vn vs (N0) t.ns t.ss [])(hF:∀k,w.heap.size<=k->F k)(ha:WL t x=0):
  G5 prog 167 #[P0 b,JC x] w (Chg F b t x w):=by
 have f:=(ZJ (QK ha).2.1).op;by_cases h1:x.o=1
 .exact AL4 F b t vn vs x w h hF ha h1
 .by_cases h2:x.o=2
  .exact AL5 F b t vn vs x w h hF ha h2
  .by_cases h3:x.o=3
   .exact AL6 F b t vn vs x w h hF ha h3
   .by_cases h4:x.o=4
    .exact AL7 F b t vn vs x w h hF ha h4
    .exact AL8 F b t vn vs x w h hF ha (by omega)
noncomputable def pd(P:Prop):Bool:= @decide P (Classical.propDecidable _)
theorem TG(h:P):pd P=true:=by unfold pd;exact @decide_eq_true _ (Classical.propDecidable _) h
theorem SB(h:¬P):pd P=false:=by unfold pd;exact @decide_eq_false _ (Classical.propDecidable _) h
theorem BX3:pd P=true↔P:=by unfold pd;exact @decide_eq_true_iff _ (Classical.propDecidable _)
theorem JI{a b:Bool}(h:a=b):Ending.returned (.bool a)=.returned (.bool b):=by rw[h]
structure AB2(ns:List Nd):Prop where
 few:ns.length<=400
 root:∃r rest,ns=r::rest/\r.p=[47]
 asc:uD ns
def BL0(ns:List Nd)(p:List UInt8):Prop:=(LW ns (IL p)).isSome=true\/AS1 p=7
structure fO(z:Int)(n:Nd)(ks:Int)(ss:List Int):Prop where
 c0:0<=n.c
 cm:n.c<=n.m
 cq:n.c<=n.q
 mz:n.m<=z
 qz:n.q<=z
 v0:0<=n.v
 v1:n.v<=2147483647
 k0:0<=n.k
 k1:n.k<=2147483647
 kids:n.n=ks
 own:n.o=0\/ks=0/\n.o∈ss
structure BL1(z:Int)(ns:List Nd)(ss:List Int)(n:Nd):Prop where
 data:n.d.length<=256
 held:BL0 ns n.p
 sound:fO z n (OG ns n.p) ss
theorem CJ6{q:List UInt8}(h:bl [47] q=true):q≠[]:=by rintro rfl;simp[bl,Op.bytesLess]at h
theorem wU(h:AB2 ns)(hn:n∈ns):n.p≠[]:=by
 obtain⟨r,rest,rfl,hr⟩:=h.root;rcases BR.1 hn with rfl|hn
 .rw[hr];simp
 .have:=(List.pairwise_cons.1 h.asc).1 n hn;rw[hr]at this;exact CJ6 this
theorem YL:RX t↔KP t.z=true/\AB2 t.ns/\qI t.ss/\(∀n∈t.ns,BL1 t.z t.ns t.ss n)/\∀r,t.ns[0]?=G8 r->r.o=0:=by
 constructor
 .intro g;obtain⟨r,rest,hr,hp,ho⟩:=g.nod.root;refine⟨g.zx,⟨g.nod.few,⟨r,rest,hr,hp⟩,g.nod.asc⟩,g.ses,fun n hn=>?_,fun r' h=>by rw[hr]at h;simp at h;rw[<-h];exact ho⟩;have k:=g.nod.ok n hn;refine⟨k.data,?_,⟨k.c0,k.cm,k.cq,k.mz,k.qz,k.v0,k.v1,k.k0,g.cap n hn,k.kids,?_⟩⟩
  .by_cases h:n.p=[47]
   .exact .inr (by rw[h];exact uS)
   .obtain⟨u,hu,he⟩:=k.up h;exact .inl (by rw[<-he,aQ g.nod.asc hu];rfl)
  .rcases k.own with h|⟨h1,h2⟩
   .exact .inl h
   .exact .inr ⟨by rw[<-k.kids];exact h2,h1⟩
 .rintro⟨hz,ho,hs,hp,hr⟩;refine⟨hz,hs,⟨ho.few,?_,ho.asc,fun n hn=>?_⟩,fun n hn=>(hp n hn).sound.k1⟩
  .obtain⟨r,rest,h1,h2⟩:=ho.root;exact⟨r,rest,h1,h2,hr r (by rw[h1];rfl)⟩
  .have k:=hp n hn;have s:=k.sound;have hg:J8 n.p=true/\(n.p≠[47]->∃u∈t.ns,u.p=IL n.p):=by
    rcases k.held with h|h
    .obtain⟨u,hu⟩:=Option.isSome_iff_exists.1 h;obtain⟨hu1,hu2⟩:=YE hu;have hne:IL n.p≠[]:=by rw[<-hu2];exact wU ho hu1
     cases hb:J8 n.p with
     |false=>exact absurd (aP hb) hne
     |true=>exact⟨rfl,fun _=>⟨u,hu1,hu2⟩⟩
    .cases hb:J8 n.p with
     |false=>rw[A80 hb]at h;omega
     |true=>
      by_cases h1:n.p=[47]
      .exact⟨rfl,fun h2=>absurd h1 h2⟩
      .rw[AV1 hb h1]at h;omega
   refine⟨k.data,hg.1,hg.2,s.c0,s.cm,s.cq,s.mz,s.qz,s.v0,s.v1,s.k0,s.kids,?_⟩;rcases s.own with h|⟨h1,h2⟩
   .exact .inl h
   .exact .inr ⟨h2,by rw[s.kids];exact h1⟩
def AB3(ns:List Nd)(k:Nat):Prop:=∀i,i<k->∀a b,ns[i]?=G8 a->ns[i+1]?=G8 b->bl a.p b.p=true
theorem B19(h:AB3 ns k){a b:Nd}(ha:ns[k]?=G8 a)(hb:ns[k+1]?=G8 b)(hl:bl a.p b.p=true):AB3 ns (k+1):=by
 intro i hi x y hx hy;by_cases e:i=k
 .subst e;rw[ha]at hx;rw[hb]at hy;cases hx;cases hy;exact hl
 .exact h i (by omega) x y hx hy
theorem A22(h:AB3 ns k)(hk:ns.length<=k+1):uD ns:=by
 have step:∀j i,(hij:i<j)->∀ (hj:j<ns.length),bl (ns[i]'(Nat.lt_trans hij hj)).p ns[j].p=true:=by
  intro j
  induction j with
  |zero=>intro i hi;omega
  |succ j ih=>
   intro i hi hj;have h1:=h j (by omega) ns[j] ns[j+1] (by simp) (by simp);by_cases e:i=j
   .subst e;exact h1
   .exact RU _ _ _ (ih i (by omega) (by omega)) h1
 exact List.pairwise_iff_getElem.2 fun i j hi hj hij=>step j i hij hj
theorem BL2(h:uD ns){i:Nat}{a b:Nd}(ha:ns[i]?=G8 a)(hb:ns[i+1]?=G8 b):bl a.p b.p=true:=by
 obtain⟨h1,rfl⟩:=AV.1 ha;obtain⟨h2,rfl⟩:=AV.1 hb;exact List.pairwise_iff_getElem.1 h i (i+1) h1 h2 (by omega)
theorem ZO(v:FZ)(ns:List Nd)(w:FX)(hv:IV w v ns):
  G5 prog 158 #[v] w (R0 w (.bool (pd (AB2 ns)))):=by
 rcases hv with⟨a,cap,rfl,rfl,_⟩|⟨b,off,cap,rfl,hle,hm,hb,hne,hr⟩
 .have F:=GH (SB (P:=AB2 []) (fun h=>by obtain⟨r,rest,h,_⟩:=h.root;cases h)).symm;go_enter func158,ntmps158;go_wp2_with fail;go_ret;exact⟨JI (G9 F),AB _ _⟩
 .obtain⟨r,rest,rfl⟩:∃r rest,ns=r::rest:=by
   cases ns with
   |nil=>exact absurd rfl hne
   |cons r rest=>exact⟨r,rest,rfl⟩
  have e0:=hr.n0 (i:=0) (x:=r) rfl;have H:=GH hr;simp only[List.length_cons]at hle⊢;simp only[maxLen]at hm;clear hr hne;by_cases hl:rest.length+1<=400
  .by_cases hp:r.p=[47]
   .have hp2:(r.p==[47])=true:=by rw[hp];rfl
    have HL:=GH hl;have HP:=GH hp;clear hp;simp only[Nat.zero_mul,Nat.add_zero]at e0;by_cases hc1:cap=1
    .obtain rfl:rest=[]:=List.eq_nil_of_length_eq_zero (by omega);subst hc1;have T:=GH (TG (P:=AB2 [r]) ⟨by simp,⟨r,[],rfl,G9 HP⟩,List.pairwise_singleton _ _⟩).symm;clear hle hl;simp only[List.length_nil];go_enter func158,ntmps158;go_wp2_with fail
     go_loopg [23] 1 (fun _ s23 wr=>s23=I0 0/\wr=w)
     case atStart=>exact⟨rfl,rfl⟩
     case round=>
      obtain⟨rfl,rfl⟩:=hrel;go_wp2_with fail;go_ret;exact⟨JI (G9 T),AB _ _⟩
    .go_enter func158,ntmps158;go_wp2_with fail
     go_loopg [23] rest.length (fun kx s23 wr=>∃k:Nat,s23=I0 k/\k<=rest.length/\rest.length-k<=kx/\Hid (B0 w wr)/\Hid (AB3 (r::rest) k))
     case atStart=>exact⟨0,rfl,AZ _,AA _,GH (AB _ _),GH (fun i hi=>absurd hi (Nat.not_lt_zero _))⟩
     case round=>
      obtain⟨k,rfl,hk,hg,hB,hR⟩:=hrel;by_cases hlt:k<rest.length
      .obtain⟨x,hx⟩:∃x,(r::rest)[k+1]?=G8 x:=⟨_,AO (by simp;omega)⟩;obtain⟨y,hy⟩:∃y,(r::rest)[k]?=G8 y:=⟨_,AO (by simp;omega)⟩;have q:=(G9 H).kept (G9 hB) hb;have d0:=q.n0 hx;have d1:=q.n1 hx;have d2:=q.n2 hx;have d3:=q.n3 hx;have d4:=q.n4 hx;have d5:=q.n5 hx;have d6:=q.n6 hx;have d7:=q.n7 hx;have d8:=q.n8 hx;have c0:=q.n0 hy;have hbw:b<wr.heap.size:=AY hb (G9 hB).size;have hofs:off+9+k*9=off+(k+1)*9:=by omega
       rw[<-hofs]at d0 d1 d2 d3 d4 d5 d6 d7 d8;clear hofs;have hk1:(k:Int)<(rest.length:Int)+1:=by omega
       cases hbl:bl y.p x.p with
       |true=>
        have R2:=GH (B19 (G9 hR) hy hx hbl);have hbl1:Op.bytesLess x.p y.p=false:=OT hbl;have hbl2:(x.p==y.p)=false:=by simpa using (WT hbl).symm
        clear hx hy q hbl;go_wp2_with fail;go_region;go_wp2_with fail
        go_roundg (rest.length-(k+1))
        case measure=>omega
        case rel=>exact⟨k+1,rfl,by omega,AA _,GH (GK (G9 hB) ((GI _ _).drew)),R2⟩
       |false=>
        have F:=GH (SB (P:=AB2 (r::rest)) (fun h=>by have:=BL2 h.asc hy hx;rw[hbl]at this;cases this)).symm;clear hx hy q
        cases hb1:bl x.p y.p with
        |true=>
         have hbl1:Op.bytesLess x.p y.p=true:=hb1;clear hbl hb1;go_wp2_with fail;go_region;go_wp2_with fail;go_ret;exact⟨JI (G9 F),GK (G9 hB) ((GI _ _).drew)⟩
        |false=>
         have hbl1:Op.bytesLess x.p y.p=false:=hb1;have hbl2:(x.p==y.p)=true:=by simpa using TU _ _ hb1 hbl
         clear hbl hb1;go_wp2_with fail;go_region;go_wp2_with fail;go_ret;exact⟨JI (G9 F),GK (G9 hB) ((GI _ _).drew)⟩
      .obtain rfl:k=rest.length:=by omega
       go_wp2_with fail;go_ret;exact⟨JI (TG (P:=AB2 (r::rest)) ⟨G9 HL,⟨r,rest,rfl,G9 HP⟩,A22 (G9 hR) (by simp)⟩).symm,G9 hB⟩
   .have hp2:(r.p==[47])=false:=by simpa using hp
    have F:=GH (SB (P:=AB2 (r::rest)) (fun h=>by obtain⟨r',s',h1,h2⟩:=h.root;cases h1;exact hp h2)).symm;clear hp;simp only[Nat.zero_mul,Nat.add_zero]at e0;go_enter func158,ntmps158;go_wp2_with fail;go_ret;exact⟨JI (G9 F),AB _ _⟩
  .have F:=GH (SB (P:=AB2 (r::rest)) (fun h=>hl (by simpa using h.few))).symm;go_enter func158,ntmps158;go_wp2_with fail;go_ret;exact⟨JI (G9 F),AB _ _⟩
def RN(ss:List Int):Nat->Int
 |0=>1
 |k+1=>ss.getD k 0+1
def OkS(ss:List Int)(k:Nat):Prop:=∀i,i<k->∀x,ss[i]?=G8 x->RN ss i<=x/\x<=2147483647
theorem BL3(h:OkS ss k){x:Int}(hx:ss[k]?=G8 x)(h1:RN ss k<=x)(h2:x<=2147483647):OkS ss (k+1):=by
 intro i hi y hy;by_cases e:i=k
 .subst e;rw[hx]at hy;cases hy;exact⟨h1,h2⟩
 .exact h i (by omega) y hy
theorem XI{x:Int}(hx:ss[k]?=G8 x):RN ss (k+1)=x+1:=by simp[RN,List.getD,hx]
theorem BL4(h:qI ss){x:Int}(hx:ss[k]?=G8 x):RN ss k<=x/\x<=2147483647:=by
 have hb:=h.2 x (BA hx);refine⟨?_,hb.2⟩
 cases k with
 |zero=>simp only[RN];omega
 |succ k=>
  obtain⟨h1,rfl⟩:=AV.1 hx;rw[XI (AO (show k<ss.length by omega))];have:=List.pairwise_iff_getElem.1 h.1 k (k+1) (by omega) h1 (by omega);omega
theorem BL5(h:OkS ss ss.length):qI ss:=by
 have step:∀j i,(hij:i<j)->∀ (hj:j<ss.length),ss[i]'(Nat.lt_trans hij hj)<ss[j]:=by
  intro j
  induction j with
  |zero=>intro i hi;omega
  |succ j ih=>
   intro i hi hj;have h1:=(h (j+1) hj _ (AO hj)).1;rw[XI (AO (show j<ss.length by omega))]at h1;by_cases e:i=j
   .subst e;omega
   .have:=ih i (by omega) (by omega);omega
 have pos:∀i,(hi:i<ss.length)->1<=ss[i]:=by
  intro i
  induction i with
  |zero=>intro hi;exact(h 0 hi _ (AO hi)).1
  |succ i ih=>intro hi;have:=step (i+1) i (by omega) hi;have:=ih (by omega);omega
 refine⟨List.pairwise_iff_getElem.2 fun i j hi hj hij=>step j i hij hj,fun s hs=>?_⟩;obtain⟨i,hi,rfl⟩:=List.getElem_of_mem hs;exact⟨pos i hi,(h i hi _ (AO hi)).2⟩
theorem fP(v:FZ)(ss:List Int)(w:FX)(hv:IV w v ss)(hi:∀s∈ss,-9223372036854775808<=s/\s<=9223372036854775807):
  G5 prog 159 #[v] w fun e w'=>e=.returned (.bool (pd (qI ss)))/\w'=w:=by
 have T:=GH (fun h:OkS ss ss.length=>(TG (BL5 h)).symm);have F:=GH (fun(k:Nat) (x:Int) (hx:ss[k]?=G8 x) (h:¬ (RN ss k<=x/\x<=2147483647))=>(SB (fun g:qI ss=>h (BL4 g hx))).symm);have HI:=GH hi;clear hi;generalize pd (qI ss)=fin at T F⊢;have R:∀k x,ss[k]?=G8 x->∃b off cap,v=FV (G8 ⟨b,off,G6⟩) ss.length cap/\w.cell? ⟨b,off+k,G6⟩=G8 (I0 x):=fun k x hx=>by
  obtain⟨b,off,cap,rfl,_,hr,_,_⟩:=N8 hv (by rintro rfl;simp at hx);exact⟨b,off,cap,rfl,hr.i0 hx⟩
 have HR:=GH R;have hml:ss.length<=9223372036854775807:=by
  rcases hv with⟨a,cap,rfl,rfl,_⟩|⟨b,off,cap,rfl,h1,h2,_⟩
  .simp
  .simp only[maxLen]at h2;omega
 obtain⟨a,c,rfl⟩:=GU hv;clear R hv;go_enter func159,ntmps159;go_wp2_with fail
 go_loopg [3,8] ss.length (fun kx s3 s8 wr=>∃k:Nat,s3=I0 (RN ss k)/\s8=I0 k/\k<=ss.length/\ss.length-k<=kx/\wr=w/\Hid (OkS ss k))
 case atStart=>exact⟨0,rfl,rfl,AZ _,AA _,rfl,GH (fun i hi=>absurd hi (Nat.not_lt_zero _))⟩
 case round=>
  obtain⟨k,rfl,rfl,hk,hg,rfl,hO⟩:=hrel;by_cases hlt:k<ss.length
  .obtain⟨x,hx⟩:∃x,ss[k]?=G8 x:=⟨_,AO hlt⟩;obtain⟨b,off,cap,hv,e0⟩:=G9 HR k x hx;have hbx:=G9 HI x (BA hx);simp only[Value.slice.injEq]at hv;obtain⟨rfl,_,rfl⟩:=hv;have HX:=GH hx;clear hx;have LS:=GH (XI (G9 HX));by_cases h1:RN ss k<=x
   .by_cases h2:x<=2147483647
    .have O2:=GH (BL3 (G9 hO) (G9 HX) h1 h2);generalize RN ss k=ls at h1;go_wp2_with fail
     go_roundg (ss.length-(k+1))
     case measure=>omega
     case rel=>exact⟨k+1,by rw[G9 LS],rfl,by omega,AA _,rfl,O2⟩
    .have G:=GH (G9 F k x (G9 HX) (by omega));generalize RN ss k=ls at h1;go_wp2_with fail;go_ret;exact⟨JI (G9 G),rfl⟩
   .have G:=GH (G9 F k x (G9 HX) (by omega));generalize RN ss k=ls at h1;go_wp2_with fail;go_ret;exact⟨JI (G9 G),rfl⟩
  .obtain rfl:k=ss.length:=by omega
   have G:=GH (G9 T (G9 hO));go_wp2_with fail;go_ret;exact⟨JI (G9 G),rfl⟩
theorem BL6(v:FZ)(ns:List Nd)(p:List UInt8)(w:FX)(hv:IV w v ns)(ha:AB2 ns):
  G5 prog 161 #[v,S0 p] w (R0 w (.bool (pd (BL0 ns p)))):=by
 have C:∀W:FX,B0 w W->∃i:Nat,G5 prog 85 #[v,S0 (IL p)] W (R0 W (.tuple #[I0 i,.bool (LW ns (IL p)).isSome])):=fun W hW=>by
  obtain⟨i,_,h⟩:=wB v ns (IL p) W (hv.next hW) (by have:=ha.few;omega) ha.asc;exact⟨i,h⟩
 have C':=GH C;have F:pd (BL0 ns p)=((LW ns (IL p)).isSome||AS1 p==7):=by
  cases h:(LW ns (IL p)).isSome with
  |true=>exact TG (.inl h)
  |false=>
   by_cases h2:AS1 p=7
   .rw[TG (.inr h2),h2];rfl
   .rw[SB (fun hh=>hh.elim (fun h1=>by rw[h]at h1;cases h1) h2)];simp[h2]
 rw[F];obtain⟨a,c,rfl⟩:=GU hv;have CS:=fun W=>NU p W;clear C hv ha F;generalize (LW ns (IL p)).isSome=hd at C'⊢;generalize IL p=dp at C' CS;generalize OD p=sp at CS;generalize AS1 p=ep at CS⊢;generalize ns.length=nl at C'⊢;go_enter func161,ntmps161;go_wp2_with fail;refine(CS _).mono ?_;rintro e w1 ⟨rfl,hb1⟩;go_wp2_with fail;obtain⟨i,C2⟩:=G9 C' _ hb1;refine C2.mono ?_;rintro e w2 ⟨rfl,hb2⟩;have hB:=GK hb1 hb2;clear CS C2 C' hb1 hb2
 cases hd with
 |true=>
  go_wp2_with fail;go_ret;exact⟨rfl,hB⟩
 |false=>
  go_wp2_with fail;go_ret;exact⟨rfl,hB⟩
theorem B20(z:Int)(vn vs:FZ)(n:Nd)(kids:Int)(ss:List Int)(w:FX)(hv:IV w vs ss)(hs:qI ss):
  G5 prog 162 #[.agg #[I0 z,vn,vs],C24 n,I0 kids] w (R0 w (.bool (pd (fO z n kids ss)))):=by
 have CO:∀W:FX,B0 w W->G5 prog 195 #[.agg #[I0 z,vn,vs],I0 n.o] W (R0 W (.bool (decide (n.o∈ss)))):=fun W hW=>bI z vn vs ss n.o W (hv.next hW) hs;have C':=GH CO;have F:=GH (fun h:¬fO z n kids ss=>(SB h).symm);have T:=GH (fun h:fO z n kids ss=>(TG h).symm);have SP:=GH (Iff.intro (fun h:fO z n kids ss=>DJ h.c0 (DJ h.cm (DJ h.cq (DJ h.mz (DJ h.qz (DJ h.v0 (DJ h.v1 (DJ h.k0 (DJ h.k1 (DJ h.kids h.own)))))))))) (fun⟨a,b,c,d,e,f,g,h,i,j,k⟩=>(⟨a,b,c,d,e,f,g,h,i,j,k⟩:fO z n kids ss)));generalize pd (fO z n kids ss)=fin at F T⊢;obtain⟨a,c,rfl⟩:=GU hv;clear CO hv hs;unfold C24;obtain⟨np,nd,nc,nm,nq,nv,nk,no,nn⟩:=n;simp only at C' SP⊢;go_enter func162,ntmps162;go_wp2_with fail;go_region;go_wp2_with fail
 all_goals try simp only[bne_iff_ne,ne_eq,bne_eq_false_iff_eq]at*
 all_goals (first
  |(go_ret;exact⟨JI (G9 F (fun h=>by have:=(G9 SP).1 h;omega)),(((AB _ _).alloc (AA _) _).alloc (by simp) _).drew⟩)
  |(go_ret;exact⟨JI (G9 T ((G9 SP).2 (by omega))),(((AB _ _).alloc (AA _) _).alloc (by simp) _).drew⟩)
  |(go_ret;exact⟨JI ((beq_eq_false_iff_ne.2 (by assumption)).trans (G9 F (fun h=>by rcases((G9 SP).1 h).2.2.2.2.2.2.2.2.2.2 with h|h<;>omega))),(((AB _ _).alloc (AA _) _).alloc (by simp) _).drew⟩)
  |skip)
 refine(G9 C' _ ((((AB _ _).alloc (AA _) _).alloc (by simp) _).drew)).mono ?_;rintro e w1 ⟨rfl,hb1⟩;have hB:=GK ((((AB w.heap.size w).alloc (AA _) _).alloc (by simp) _).drew) hb1;by_cases hmem:no∈ss
 .have G:=GH (G9 T ((G9 SP).2 ⟨by omega,by omega,by omega,by omega,by omega,by omega,by omega,by omega,by omega,by omega,.inr ⟨by omega,hmem⟩⟩));go_wp2_with fail;go_ret;exact⟨JI (G9 G),hB⟩
 .have G:=GH (G9 F (fun h=>by have:=((G9 SP).1 h).2.2.2.2.2.2.2.2.2.2;exact this.elim (fun h=>by omega) (fun h=>hmem h.2)));go_wp2_with fail;go_ret;exact⟨JI ((beq_eq_false_iff_ne.2 (by assumption)).trans (G9 G)),hB⟩
open Go.WideMaps Go.Maps
theorem CU9:Keyed prog 9:=string_keyed underlying9
theorem CJ7(w:FX):(zeroValue 3).run prog w=.ok (.int .i64 0) w:=by kernel_rfl
def oH(w:FX)(B k:Nat)(ns:List Nd):Prop:=
 ∃D:DataW Unit,w.ownsMap prog 9 (plainElem prog 3) B k D/\IsMap D/\∀s:List UInt8,D.atKey (.string s) (.lit (.int .i64 0))=.lit (.int .i64 (OG ns s))
theorem AM0(ns:List Nd)(n:Nd)(s:List UInt8):OG (ns++[n]) s=OG ns s+(if IL n.p=s then 1 else 0):=by
 simp only[OG,List.countP_append,List.countP_cons,List.countP_nil,decide_eq_true_eq];omega
theorem BL7(ns:List Nd)(s:List UInt8):OG ns s<=ns.length:=List.countP_le_length
theorem A23{D:DataW Unit}(hm:IsMap D)(hD:∀s:List UInt8,D.atKey (.string s) (.lit (.int .i64 0))=.lit (.int .i64 (OG ns s)))(s:List UInt8):
  (D.put (.string (IL n.p)) (.lit (.int .i64 (OG ns (IL n.p)+1)))).atKey (.string s) (.lit (.int .i64 0))=.lit (.int .i64 (OG (ns++[n]) s)):=by
 rw[AM0];by_cases e:IL n.p=s
 .subst e;rw[atKey_put_same hm (show WideAt.IsKeyLit (.string _)from trivial)];simp
 .rw[atKey_put_other (by simpa using fun h=>e h.symm),hD,if_neg e];simp
theorem A24(b off cap:Nat)(ns:List Nd)(w:FX)(hl:ns.length<=400)(hb:b<w.heap.size)(hr:II w b off (GL ns)):
  G5 prog 160 #[FV (G8 ⟨b,off,G6⟩) ns.length cap] w fun e w'=>e=.returned (.map (G8 w.heap.size))/\oH w' w.heap.size 400 ns/\Below w.heap.size w w':=by
 have H:=GH hr;clear hr;have hmm:= @run_makeMap prog;go_enter func160,ntmps160;go_wp2_with fail
 go_loopg [12] ns.length (fun kx i wr=>∃k:Nat,i=.int .i64 k/\k<=ns.length/\ns.length-k<=kx/\Hid (oH wr w.heap.size k (ns.take k))/\Hid (Below w.heap.size w wr))
 case atStart=>exact⟨0,rfl,AZ _,AA _,GH ⟨_,World.ownsMap_made _ _ _ _,isMap_empty,fun s=>by rfl⟩,GH (GI _ _)⟩
 case round=>
  obtain⟨k,rfl,hk,hg,hC,hB⟩:=hrel;by_cases hlt:k<ns.length
  .obtain⟨x,hx⟩:∃x,ns[k]?=G8 x:=⟨_,AO hlt⟩;have q:=(G9 H).kept (G9 hB) hb;have d0:=q.n0 hx;have d1:=q.n1 hx;have d2:=q.n2 hx;have d3:=q.n3 hx;have d4:=q.n4 hx;have d5:=q.n5 hx;have d6:=q.n6 hx;have d7:=q.n7 hx;have d8:=q.n8 hx;have hbw:b<wr.heap.size:=AY hb (G9 hB).size;have hts:ns.take (k+1)=ns.take k++[x]:=by rw[List.take_add_one,hx];rfl
   have HT:=GH hts;clear q hx hts;have CS:=fun W=>NU x.p W;have hdl:(IL x.p).length<=1000:=by
    cases hgb:J8 x.p with
    |false=>rw[aP hgb];simp
    |true=>
     by_cases hr:x.p=[47]
     .rw[hr,UJ];simp
     .obtain⟨a,c,he,hc⟩:=aK hgb;have:=MV hgb;rw[he]at hgb hr this⊢;rw[aO hgb hr hc,CG7]
      split
      .simp
      .simp at this;omega
   have HDL:=GH hdl;clear hdl;obtain⟨D,ho,hm,hD⟩:=G9 hC;have HD:=GH hD;have HM:=GH hm;have hc1:=BL7 (ns.take k) (IL x.p);simp only[List.length_take]at hc1;have STEP:=GH (fun s=>A23 (n:=x) hm hD s);obtain⟨cn,hcn⟩:∃cn,OG (ns.take k) (IL x.p)=cn:=⟨_,rfl⟩;rw[hcn]at hc1;have HCN:=GH hcn;clear hD hm hcn;generalize hdp:IL x.p=dp at CS HDL;have HDP:=GH hdp;clear hdp;generalize OD x.p=sp at CS;generalize AS1 x.p=ep at CS;go_wp2_with fail;refine(CS _).mono ?_;rintro e w1 ⟨rfl,hb1⟩;have hB1:Below w.heap.size w w1:=GK (G9 hB) (H7 hb1);have ho1:w1.ownsMap prog 9 (plainElem prog 3) w.heap.size k D:=by
    have:Below wr.heap.size wr w1:=H7 hb1;obtain⟨es,cl,h1,h2⟩:=ho;exact⟨es,cl,(this.block _ (AL.1 h1).1).trans h1,h2⟩
   have hkey:keyOf prog 9 (.string ⟨dp.toArray⟩)=G8 (.string dp):=by
    have:=keyOf_string_mk (P:=prog) underlying9 (s:=⟨dp.toArray⟩) (by have:=G9 HDL;simp only[maxLen,ByteArray.size,List.size_toArray];omega);simpa using this
   obtain⟨c,hrun,hat,_⟩:=ho1.lookup_int CU9 underlying235 underlying3 (CJ7 _) hkey;have hcc:c=(cn:Int):=by
    rw[G9 HD,<-G9 HDP,G9 HCN]at hat;simpa using hat.symm
   subst hcc;clear CS hat hb1 ho d0 d1 d2 d3 d4 d5 d6 d7 d8;go_wp2_with (first
    |(at_mapUpdate;refine wpList_mapUpdate_own _ rfl _ _ _ 235 rfl 9 3 CU9 underlying235 _ w.heap.size k _ rfl ho1 (by unfold maxLen;omega) _ _ _ rfl rfl hkey _ [] (plainElem_int underlying3 (WalkArith.wf_i64 (by omega))) ?_)
    |fail)
   intro w2 hown1 hgrow1;have B2:=hB1.grown hgrow1 hB1.size (fun j hj=>by cases hj;exact AA _);have C2:oH w2 w.heap.size (k+1) (ns.take (k+1)):=by
    refine⟨_,hown1,(G9 HM).put _ _,fun s=>?_⟩;rw[G9 HT,<-G9 STEP s,G9 HCN,G9 HDP]
   have HC2:=GH C2;have HB2:=GH B2;clear C2 B2 hown1 hgrow1 ho1 hrun hB1;go_wp2_with fail
   go_roundg (ns.length-(k+1))
   case measure=>omega
   case rel=>exact⟨k+1,rfl,by omega,AA _,HC2,HB2⟩
  .obtain rfl:k=ns.length:=by omega
   go_wp2_with fail;go_ret;obtain⟨D,ho,hm,hD⟩:=G9 hC;exact⟨rfl,⟨D,ho.mono (by omega),hm,fun s=>by rw[hD,List.take_length]⟩,G9 hB⟩
structure WfT(t:Tr):Prop where
 ses:∀s∈t.ss,-9223372036854775808<=s/\s<=9223372036854775807
 CJ8:∀n∈t.ns,n.p.length<=140737488355328/\n.d.length<=140737488355328
def OkG(t:Tr)(k:Nat):Prop:=∀i,i<k->∀n,t.ns[i]?=G8 n->BL1 t.z t.ns t.ss n
theorem BL8(h:OkG t k)(hn:t.ns[k]?=G8 n)(hp:BL1 t.z t.ns t.ss n):OkG t (k+1):=by
 intro i hi m hm;by_cases e:i=k
 .subst e;rw[hn]at hm;cases hm;exact hp
 .exact h i (by omega) m hm
theorem BL9(hz:KP t.z=true)(ho:AB2 t.ns)(hs:qI t.ss)(h:OkG t t.ns.length){r:Nd}(hr:t.ns[0]?=G8 r):UK t=decide (r.o=0):=by
 by_cases h0:r.o=0
 .rw[decide_eq_true h0,SV,YL];refine⟨hz,ho,hs,fun n hn=>?_,fun r' h=>by rw[hr]at h;cases h;exact h0⟩;obtain⟨i,hi,rfl⟩:=List.getElem_of_mem hn;exact h i hi _ (AO hi)
 .rw[decide_eq_false h0,ZI,YL];exact fun g=>h0 (g.2.2.2.2 r hr)
theorem A25(h:¬ (KP t.z=true/\AB2 t.ns/\qI t.ss)):UK t=false:=by
 rw[ZI,YL];exact fun g=>h ⟨g.1,g.2.1,g.2.2.1⟩
theorem B21(hn:t.ns[k]?=G8 n)(h:¬BL1 t.z t.ns t.ss n):UK t=false:=by
 rw[ZI,YL];exact fun g=>h (g.2.2.2.1 n (BA hn))
theorem kH(h:oH w B k ns)(hb:Below w.heap.size w w'):oH w' B k ns:=by
 obtain⟨D,⟨es,cl,h1,h2⟩,h3⟩:=h;exact⟨D,⟨es,cl,(hb.block _ (AL.1 h1).1).trans h1,h2⟩,h3⟩
theorem AM1(t:Tr)(vn vs:FZ)(w:FX)(hn:IV w vn t.ns)(hs:IV w vs t.ss)(hw:WfT t)(hz:KP t.z=true)(ho:AB2 t.ns)(ha:qI t.ss):
  G5 prog 119 #[.agg #[.int .i64 t.z,vn,vs]] w fun e w'=>e=.returned (.bool (UK t))/\Below w.heap.size w w':=by
 have hne:t.ns≠[]:=by obtain⟨r,rest,h,_⟩:=ho.root;rw[h];simp
 obtain⟨r0,hr0⟩:∃r0,t.ns[0]?=G8 r0:=by obtain⟨r,rest,h,_⟩:=ho.root;exact⟨r,by rw[h];rfl⟩
 have YES:=GH (fun h=>BL9 hz ho ha h hr0);have NO:=GH (fun n k h1 h2=>B21 (t:=t) (n:=n) (k:=k) h1 h2);have CZ:=fun W=>JM t.z W;rw[hz]at CZ;have CO:=GH (fun W (h:Below w.heap.size w W)=>ZO vn t.ns W (hn.next h));have CN:=GH (fun W (h:Below w.heap.size w W)=>fP vs t.ss W (hs.next h) hw.ses);simp only[TG ho]at CO;simp only[TG ha]at CN;have CH:=GH (fun p W (h:Below w.heap.size w W)=>BL6 vn t.ns p W (hn.next h) ho);have CSD:=GH (fun n k W (h:Below w.heap.size w W)=>B20 t.z vn vs n k t.ss W (hs.next h) ha);have hl:=ho.few;have SL:=GH hw.CJ8;obtain⟨sa,sc,rfl⟩:=GU hs;obtain⟨b,off,cap,rfl,hb,hr,hle,hcm⟩:=N8 hn hne;have H:=GH hr;have CC:=GH (fun W (h:Below w.heap.size w W)=>A24 b off cap t.ns W hl (AY hb h.size) (hr.kept h hb));have HR0:=GH hr0;have hpos:0<t.ns.length:=List.length_pos_iff.2 hne;clear hn hs hw hz ho ha hne hr hr0;generalize UK t=fin at YES NO⊢;go_enter func119,ntmps119;go_wp2_with fail;refine(CZ _).mono ?_;rintro e w0 ⟨rfl,rfl⟩;have B0:=GI w (FW #[.int .i64 t.z,FV (G8 ⟨b,off,G6⟩) t.ns.length cap,FV sa t.ss.length sc] 52);generalize hW0:w.alloc (FW #[.int .i64 t.z,FV (G8 ⟨b,off,G6⟩) t.ns.length cap,FV sa t.ss.length sc] 52)=W0 at*;have b0:W0.cell? ⟨w.heap.size,0,G6⟩=G8 (.int .i64 t.z):=by rw[<-hW0];simp
 have b1:W0.cell? ⟨w.heap.size,1,G6⟩=G8 (FV (G8 ⟨b,off,G6⟩) t.ns.length cap):=by rw[<-hW0];simp
 have b2:W0.cell? ⟨w.heap.size,2,G6⟩=G8 (FV sa t.ss.length sc):=by rw[<-hW0];simp
 have hsz:w.heap.size<W0.heap.size:=by rw[<-hW0];simp
 have BX:=GH (fun W (h:Below W0.heap.size W0 W)=>(⟨(h.cell (p:=⟨w.heap.size,0,G6⟩) hsz).trans b0,(h.cell (p:=⟨w.heap.size,1,G6⟩) hsz).trans b1,(h.cell (p:=⟨w.heap.size,2,G6⟩) hsz).trans b2⟩:W.cell? ⟨w.heap.size,0,G6⟩=G8 (.int .i64 t.z)/\W.cell? ⟨w.heap.size,1,G6⟩=G8 (FV (G8 ⟨b,off,G6⟩) t.ns.length cap)/\W.cell? ⟨w.heap.size,2,G6⟩=G8 (FV sa t.ss.length sc)));clear hW0;go_wp2_with fail;refine(G9 CO _ B0).mono ?_;rintro e w1 ⟨rfl,hb1⟩;obtain⟨c0,c1,c2⟩:=G9 BX w1 hb1;clear b0 b1 b2;go_wp2_with fail;refine(G9 CN _ (GK B0 hb1)).mono ?_;rintro e w2 ⟨rfl,rfl⟩;go_wp2_with fail;refine(G9 CC _ (GK B0 hb1)).mono ?_;rintro e w3 ⟨rfl,hC3,hb3⟩;have hb3':=GK hb1 hb3;obtain⟨d0,d1,d2⟩:=G9 BX w3 hb3';have HC:=GH hC3;clear c0 c1 c2 CO CN CC CZ hC3;go_wp2_with fail
 go_loopg [28] t.ns.length (fun kx i wr=>∃k:Nat,i=.int .i64 k/\k<=t.ns.length/\t.ns.length-k<=kx/\Hid (Below W0.heap.size W0 wr)/\Hid (oH wr w2.heap.size 400 t.ns)/\Hid (OkG t k))
 case atStart=>exact⟨0,rfl,AZ _,AA _,GH hb3',HC,GH (fun i hi=>absurd hi (Nat.not_lt_zero _))⟩
 case round=>
  obtain⟨k,rfl,hk,hg,hB,hC,hO⟩:=hrel;obtain⟨x0,x1,x2⟩:=G9 BX wr (G9 hB);clear d0 d1 d2;by_cases hlt:k<t.ns.length
  .obtain⟨x,hx⟩:∃x,t.ns[k]?=G8 x:=⟨_,AO hlt⟩;have hBw:Below w.heap.size w wr:=GK B0 (G9 hB);have q:=(G9 H).kept hBw hb;have d0:=q.n0 hx;have d1:=q.n1 hx;have d2:=q.n2 hx;have d3:=q.n3 hx;have d4:=q.n4 hx;have d5:=q.n5 hx;have d6:=q.n6 hx;have d7:=q.n7 hx;have d8:=q.n8 hx;have hbw:b<wr.heap.size:=AY hb hBw.size;have hww:w.heap.size<wr.heap.size:=AY hsz (G9 hB).size;have sl:=G9 SL x (BA hx);have sld:=sl.2;have HX:=GH hx;have SLP:=GH sl.1;clear q hx sl;by_cases hd:x.d.length<=256
   .have HD:=GH hd
    cases hh:pd (BL0 t.ns x.p)with
    |false=>
     have G:=GH (G9 NO x k (G9 HX) (fun p=>by have:=TG p.held;rw[hh]at this;cases this));go_wp2_with fail;refine(G9 CH x.p _ (GK hBw (GI _ _))).mono ?_;rintro e w4 ⟨rfl,hb4⟩;have hB4:=GK hBw (H7 hb4);rw[hh];clear hb4 d0 d1 d2 d3 d4 d5 d6 d7 d8 x0 x1 x2;go_wp2_with fail;go_ret;exact⟨JI (G9 G).symm,hB4⟩
    |true=>
     have HH:=GH hh;go_wp2_with fail;refine(G9 CH x.p _ (GK hBw (GI _ _))).mono ?_;rintro e w4 ⟨rfl,hb4⟩;have hB4:=GK hBw (H7 hb4);have hB40:=GK (G9 hB) (H7 hb4);rw[hh];clear hh;have r:=fun(j:Nat) (hj:j<9)=>hb4.cell (p:=⟨wr.heap.size,j,G6⟩) (by simp);have y0:w4.cell? ⟨wr.heap.size,0,G6⟩=G8 (.string ⟨x.p.toArray⟩):=by rw[r 0 (by omega)];simp
     have y2:w4.cell? ⟨wr.heap.size,2,G6⟩=G8 (.int .i64 x.c):=by rw[r 2 (by omega)];simp
     have y3:w4.cell? ⟨wr.heap.size,3,G6⟩=G8 (.int .i64 x.m):=by rw[r 3 (by omega)];simp
     have y4:w4.cell? ⟨wr.heap.size,4,G6⟩=G8 (.int .i64 x.q):=by rw[r 4 (by omega)];simp
     have y5:w4.cell? ⟨wr.heap.size,5,G6⟩=G8 (.int .i64 x.v):=by rw[r 5 (by omega)];simp
     have y6:w4.cell? ⟨wr.heap.size,6,G6⟩=G8 (.int .i64 x.k):=by rw[r 6 (by omega)];simp
     have y7:w4.cell? ⟨wr.heap.size,7,G6⟩=G8 (.int .i64 x.o):=by rw[r 7 (by omega)];simp
     have y8:w4.cell? ⟨wr.heap.size,8,G6⟩=G8 (.int .i64 x.n):=by rw[r 8 (by omega)];simp
     obtain⟨z0,z1,z2⟩:=G9 BX w4 hB40;have hC4:=kH (G9 hC) (H7 hb4);have HC4:=GH hC4;obtain⟨D,ho4,_,hD⟩:=hC4;have hkey:keyOf prog 9 (.string ⟨x.p.toArray⟩)=G8 (.string x.p):=by
      have:=keyOf_string_mk (P:=prog) underlying9 (s:=⟨x.p.toArray⟩) (by have:=G9 SLP;simp only[maxLen,ByteArray.size,List.size_toArray];omega);simpa using this
     obtain⟨c,hrun,hat,_⟩:=ho4.lookup_int CU9 underlying235 underlying3 (CJ7 _) hkey;have hcc:c=(OG t.ns x.p:Int):=by
      rw[hD]at hat;simpa using hat.symm
     subst hcc;clear r hat hD ho4 hkey hb4 d0 d1 d2 d3 d4 d5 d6 d7 d8 x0 x1 x2;have CSX:=G9 CSD x (OG t.ns x.p) w4 hB4;unfold C24 at CSX
     cases hs:pd (fO t.z x (OG t.ns x.p) t.ss)with
     |false=>
      have G:=GH (G9 NO x k (G9 HX) (fun p=>by have:=TG p.sound;rw[hs]at this;cases this));rw[hs]at CSX;clear hs;go_wp2_with fail;refine CSX.mono ?_;rintro e w5 ⟨rfl,hb5⟩;have hB5:=GK hB4 hb5;clear CSX hrun z0 z1 z2 y0 y2 y3 y4 y5 y6 y7 y8;go_wp2_with fail;go_ret;exact⟨JI (G9 G).symm,hB5⟩
     |true=>
      have O2:=GH (BL8 (G9 hO) (G9 HX) ⟨G9 HD,BX3.1 (G9 HH),BX3.1 hs⟩);rw[hs]at CSX;clear hs;go_wp2_with fail;refine CSX.mono ?_;rintro e w5 ⟨rfl,hb5⟩;have HB5:=GH (GK hB40 hb5);have HC5:=GH (kH (G9 HC4) hb5);clear CSX hrun z0 z1 z2 y0 y2 y3 y4 y5 y6 y7 y8 hb5;go_wp2_with fail
      go_roundg (t.ns.length-(k+1))
      case measure=>omega
      case rel=>exact⟨k+1,rfl,by omega,AA _,HB5,HC5,O2⟩
   .have G:=GH (G9 NO x k (G9 HX) (fun p=>hd p.data));go_wp2_with fail;go_ret;exact⟨JI (G9 G).symm,GK hBw (GI _ _)⟩
  .obtain rfl:k=t.ns.length:=by omega
   have hBw:Below w.heap.size w wr:=GK B0 (G9 hB);have d7:=((G9 H).kept hBw hb).n7 (G9 HR0);have G:=GH (G9 YES (G9 hO));simp only[Nat.zero_mul,Nat.add_zero]at d7;go_wp2_with fail;go_ret;exact⟨JI ((G9 G).trans (by rfl)).symm,hBw⟩
theorem bK(t:Tr)(vn vs:FZ)(w:FX)(hn:IV w vn t.ns)(hs:IV w vs t.ss)(hw:WfT t):
  G5 prog 119 #[.agg #[I0 t.z,vn,vs]] w (R0 w (.bool (UK t))):=by
 by_cases hz:KP t.z=true
 .by_cases ho:AB2 t.ns
  .by_cases ha:qI t.ss
   .exact AM1 t vn vs w hn hs hw hz ho ha
   .have F:=GH (A25 (t:=t) (fun h=>ha h.2.2)).symm;have CZ:=fun W=>JM t.z W;rw[hz]at CZ;have CO:=GH (fun W (h:B0 w W)=>ZO vn t.ns W (hn.next h));have CN:=GH (fun W (h:B0 w W)=>fP vs t.ss W (hs.next h) hw.ses);simp only[TG ho]at CO;simp only[SB ha]at CN;obtain⟨na,nc,rfl⟩:=GU hn;obtain⟨sa,sc,rfl⟩:=GU hs;clear hn hs hw hz ho ha;go_enter func119,ntmps119;go_wp2_with fail;refine(CZ _).mono ?_;rintro e w0 ⟨rfl,rfl⟩;go_wp2_with fail;refine(G9 CO _ (GI _ _)).mono ?_;rintro e w1 ⟨rfl,hb1⟩;have c2:w1.cell? ⟨w.heap.size,2,G6⟩=G8 (FV sa t.ss.length sc):=by rw[hb1.cell (p:=⟨w.heap.size,2,G6⟩) (by simp)];simp
    have HB:=GH (H7 hb1);clear hb1;go_wp2_with fail;refine(G9 CN _ (G9 HB)).mono ?_;rintro e w2 ⟨rfl,rfl⟩;go_wp2_with fail;go_ret;exact⟨JI (G9 F),G9 HB⟩
  .have F:=GH (A25 (t:=t) (fun h=>ho h.2.1)).symm;have CZ:=fun W=>JM t.z W;rw[hz]at CZ;have CO:=GH (fun W (h:B0 w W)=>ZO vn t.ns W (hn.next h));simp only[SB ho]at CO;obtain⟨na,nc,rfl⟩:=GU hn;obtain⟨sa,sc,rfl⟩:=GU hs;clear hn hs hw hz ho;go_enter func119,ntmps119;go_wp2_with fail;refine(CZ _).mono ?_;rintro e w0 ⟨rfl,rfl⟩;go_wp2_with fail;refine(G9 CO _ (GI _ _)).mono ?_;rintro e w1 ⟨rfl,hb1⟩;have HB:=GH (H7 hb1);clear hb1;go_wp2_with fail;go_ret;exact⟨JI (G9 F),G9 HB⟩
 .have F:=GH (A25 (t:=t) (fun h=>hz h.1)).symm;have hz':KP t.z=false:=by simpa using hz
  have CZ:=fun W=>JM t.z W;rw[hz']at CZ;obtain⟨na,nc,rfl⟩:=GU hn;obtain⟨sa,sc,rfl⟩:=GU hs;clear hn hs hw hz hz';go_enter func119,ntmps119;go_wp2_with fail;refine(CZ _).mono ?_;rintro e w0 ⟨rfl,rfl⟩;go_wp2_with fail;go_ret;exact⟨JI (G9 F),GI _ _⟩
theorem B22(h:UK t=false):WL t x=3:=by rw[WL,if_pos h]
theorem C46(h:UK t=true)(h1:gdE x≠0):WL t x=gdE x:=by rw[WL,if_neg (by simp[h]),if_pos h1]
theorem BM0(h:UK t=true)(h1:gdE x=0):WL t x=(if x.z<=t.z then 13 else if x.o=1/\x.s∈t.ss then 8 else if x.o≠1/\x.s∉t.ss then 12 else 0):=by
 rw[WL,if_neg (by simp[h]),if_neg (by omega)]
theorem A26(t:Tr)(vn vs:FZ)(x:GV)(w:FX)(hn:IV w vn t.ns)(hs:IV w vs t.ss)(hw:WfT t)(hg:UK t=false):
  G5 prog 165 #[.agg #[I0 t.z,vn,vs],JC x] w (R0 w (I0 3)):=by
 have CG:=GH (fun W (hW:B0 w W)=>bK t vn vs W (hn.next hW) (hs.next hW) hw);rw[hg]at CG;obtain⟨na,nc,rfl⟩:=GU hn;obtain⟨sa,sc,rfl⟩:=GU hs;clear hn hs hw hg;obtain⟨xz,xo,xs,xp,xd,xv,xw⟩:=x;unfold JC;go_enter func165,ntmps165;go_wp2_with fail;refine(G9 CG _ (GK (GI _ _) (GI _ _))).mono ?_;rintro e w1 ⟨rfl,hb1⟩;have HB:=GH (GK (GK (GI _ _) (GI _ _)) hb1);clear hb1;go_wp2_with fail;go_ret;exact⟨rfl,G9 HB⟩
theorem B23(t:Tr)(vn vs:FZ)(x:GV)(w:FX)(hn:IV w vn t.ns)(hs:IV w vs t.ss)(hw:WfT t)(hd:x.d.length<=140737488355328)(hg:UK t=true)(hx:gdE x≠0):
  G5 prog 165 #[.agg #[I0 t.z,vn,vs],JC x] w (R0 w (I0 (gdE x))):=by
 have CG:=GH (fun W (hW:B0 w W)=>bK t vn vs W (hn.next hW) (hs.next hW) hw);rw[hg]at CG;have CW:=GH (fun W=>XH x W hd);obtain⟨na,nc,rfl⟩:=GU hn;obtain⟨sa,sc,rfl⟩:=GU hs;have hxb:(gdE x !=0)=true:=by simpa using hx
 clear hn hs hw hg hx;have KX:∀W:FX,Below (w.alloc (FW #[I0 t.z,FV na t.ns.length nc,FV sa t.ss.length sc] 52)).heap.size (w.alloc (FW #[I0 t.z,FV na t.ns.length nc,FV sa t.ss.length sc] 52)) W->B0 w W:=fun W h=>H7 h;have HKX:=GH KX;generalize gdE x=E at hxb CW⊢;obtain⟨xz,xo,xs,xp,xd,xv,xw⟩:=x;unfold JC at CW⊢;simp only at CW⊢;have KT:∀w1,Below ((w.alloc (FW #[I0 t.z,FV na t.ns.length nc,FV sa t.ss.length sc] 52)).alloc (FW #[I0 xz,I0 xo,I0 xs,S0 xp,S0 xd,I0 xv,I0 xw] 59)).heap.size ((w.alloc (FW #[I0 t.z,FV na t.ns.length nc,FV sa t.ss.length sc] 52)).alloc (FW #[I0 xz,I0 xo,I0 xs,S0 xp,S0 xd,I0 xv,I0 xw] 59)) w1->TAt w1 (w.heap.size+1) ⟨xz,xo,xs,xp,xd,xv,xw⟩:=fun w1 h1=>by
  have:=(TAt.new (w.alloc (FW #[I0 t.z,FV na t.ns.length nc,FV sa t.ss.length sc] 52)) ⟨xz,xo,xs,xp,xd,xv,xw⟩).next h1;simpa using this
 have HKT:=GH KT;clear KX KT;go_enter func165,ntmps165;go_wp2_with fail;refine(G9 CG _ (GK (GI _ _) (GI _ _))).mono ?_;rintro e w1 ⟨rfl,hb1⟩;have HB:=GH (GK (GK (GI _ _) (GI _ _)) hb1);have tx:=G9 HKT w1 hb1;have y0:=tx.c0;have y1:=tx.c1;have y2:=tx.c2;have y3:=tx.c3;have y4:=tx.c4;have y5:=tx.c5;have y6:=tx.c6;clear hb1 tx;go_wp2_with fail;refine(G9 CW _).mono ?_;rintro e w2 ⟨rfl,hb2⟩;have HB2:=GH (GK (G9 HB) hb2);clear hb2;go_wp2_with fail;go_ret;exact⟨rfl,G9 HB2⟩
theorem AM2(t:Tr)(vn vs:FZ)(x:GV)(w:FX)(hn:IV w vn t.ns)(hs:IV w vs t.ss)(hw:WfT t)(hd:x.d.length<=140737488355328)(hg:UK t=true)(hx:gdE x=0):
  G5 prog 165 #[.agg #[I0 t.z,vn,vs],JC x] w (R0 w (I0 (WL t x))):=by
 have CG:=GH (fun W (hW:B0 w W)=>bK t vn vs W (hn.next hW) (hs.next hW) hw);have CO:=fun W (hW:B0 w W)=>bI t.z vn vs t.ss x.s W (hs.next hW) (SV.1 hg).ses;rw[hg]at CG;have CW:=GH (fun W=>XH x W hd);rw[hx]at CW;rw[BM0 hg hx];generalize hr:(if x.z<=t.z then(13:Int)else if x.o=1/\x.s∈t.ss then 8 else if x.o≠1/\x.s∉t.ss then 12 else 0)=r;have q:(decide (x.z<=t.z)=true/\r=13)\/(decide (x.z<=t.z)=false/\(((x.o==1)=true/\(x.o !=1)=false/\((decide (x.s∈t.ss)=true/\r=8)\/(decide (x.s∈t.ss)=false/\r=0)))\/((x.o==1)=false/\(x.o !=1)=true/\((decide (x.s∈t.ss)=true/\r=0)\/(decide (x.s∈t.ss)=false/\r=12))))):=by
  subst hr;by_cases h1:x.z<=t.z<;>by_cases h2:x.o=1<;>by_cases h3:x.s∈t.ss<;>simp[h1,h2,h3]
 generalize decide (x.s∈t.ss)=op at CO q;clear hr;rcases q with⟨q1,rfl⟩|⟨q1,⟨q2,q3,⟨rfl,rfl⟩|⟨rfl,rfl⟩⟩|⟨q2,q3,⟨rfl,rfl⟩|⟨rfl,rfl⟩⟩⟩
 all_goals
  have HCO:=GH CO;obtain⟨na,nc,rfl⟩:=GU hn;obtain⟨sa,sc,rfl⟩:=GU hs;clear hn hs hw hg hx CO;obtain⟨xz,xo,xs,xp,xd,xv,xw⟩:=x;unfold JC at CW⊢;simp only at*;have KT:∀w1,Below ((w.alloc (FW #[I0 t.z,FV na t.ns.length nc,FV sa t.ss.length sc] 52)).alloc (FW #[I0 xz,I0 xo,I0 xs,S0 xp,S0 xd,I0 xv,I0 xw] 59)).heap.size ((w.alloc (FW #[I0 t.z,FV na t.ns.length nc,FV sa t.ss.length sc] 52)).alloc (FW #[I0 xz,I0 xo,I0 xs,S0 xp,S0 xd,I0 xv,I0 xw] 59)) w1->TAt w1 (w.heap.size+1) ⟨xz,xo,xs,xp,xd,xv,xw⟩/\w1.heap[w.heap.size]?=G8 (FW #[I0 t.z,FV na t.ns.length nc,FV sa t.ss.length sc] 52 (0,0)):=fun w1 h1=>by
   have:=(TAt.new (w.alloc (FW #[I0 t.z,FV na t.ns.length nc,FV sa t.ss.length sc] 52)) ⟨xz,xo,xs,xp,xd,xv,xw⟩).next h1;refine⟨by simpa using this,?_⟩;rw[h1.block _ (by simp;omega)];rw[(GI (w.alloc (FW #[I0 t.z,FV na t.ns.length nc,FV sa t.ss.length sc] 52)) (FW #[I0 xz,I0 xo,I0 xs,S0 xp,S0 xd,I0 xv,I0 xw] 59)).block _ (by simp)];exact heap_alloc_new w _
  have HKT:=GH KT;clear KT;go_enter func165,ntmps165;go_wp2_with fail;refine(G9 CG _ (GK (GI _ _) (GI _ _))).mono ?_;rintro e w1 ⟨rfl,hb1⟩;have HB:=GH (GK (GK (GI _ _) (GI _ _)) hb1);obtain⟨tx,tt⟩:=G9 HKT w1 hb1;have y0:=tx.c0;have y1:=tx.c1;have y2:=tx.c2;have y3:=tx.c3;have y4:=tx.c4;have y5:=tx.c5;have y6:=tx.c6;have HTX:=GH tx;have HTT:=GH tt;clear hb1 tx tt;go_wp2_with fail;refine(G9 CW _).mono ?_;rintro e w2 ⟨rfl,hb2⟩;have HB2:=GH (GK (G9 HB) hb2);have tx2:=(G9 HTX).next hb2;have tt2:=(hb2.block _ (AL.1 (G9 HTT)).1).trans (G9 HTT);have u0:=tx2.c0;have u1:=tx2.c1;have u2:=tx2.c2;have v0:w2.cell? ⟨w.heap.size,0,G6⟩=G8 (I0 t.z):=by simp[AX,tt2]
  have v1:w2.cell? ⟨w.heap.size,1,G6⟩=G8 (FV na t.ns.length nc):=by simp[AX,tt2]
  have v2:w2.cell? ⟨w.heap.size,2,G6⟩=G8 (FV sa t.ss.length sc):=by simp[AX,tt2]
  have A21:=GH tx2;have HTT2:=GH tt2;clear hb2 y0 y1 y2 y3 y4 y5 y6 tx2 tt2;go_wp2_with fail;refine(G9 HCO _ (G9 HB2)).mono ?_;rintro e w3 ⟨rfl,hb3⟩;have HB3:=GH (GK (G9 HB2) hb3);have tx3:=(G9 A21).next hb3;have tt3:=(hb3.block _ (AL.1 (G9 HTT2)).1).trans (G9 HTT2);have z0:=tx3.c0;have z1:=tx3.c1;have r0:w3.cell? ⟨w.heap.size,0,G6⟩=G8 (I0 t.z):=by simp[AX,tt3]
  clear hb3 u0 u1 u2 v0 v1 v2 tx3 tt3;go_wp2_with fail;go_ret;exact⟨rfl,G9 HB3⟩
theorem wV(t:Tr)(vn vs:FZ)(x:GV)(w:FX)(hn:IV w vn t.ns)(hs:IV w vs t.ss)(hw:WfT t)(hd:x.d.length<=140737488355328):
  G5 prog 165 #[.agg #[I0 t.z,vn,vs],JC x] w (R0 w (I0 (WL t x))):=by
 cases hg:UK t with
 |false=>rw[B22 hg];exact A26 t vn vs x w hn hs hw hg
 |true=>
  by_cases hx:gdE x=0
  .exact AM2 t vn vs x w hn hs hw hd hg hx
  .rw[C46 hg hx];exact B23 t vn vs x w hn hs hw hd hg hx
theorem I5.raise{α:Type}[Lay α]{v:FZ}{xs:List α}(h:I5 W 0 v xs)(hb:∀k,v.ownBlock=G8 k->B<=k):I5 W B v xs:=by
 rcases h with h|⟨g,cap,rfl,_,h⟩
 .exact .inl h
 .exact .inr ⟨g,cap,rfl,hb g rfl,h⟩
def bM(w:FX)(t:Tr)(x:GV)(e:Ending)(w':FX):Prop:=
 ∃vn vs ve,e=.returned (.tuple #[.agg #[I0 (jI t x).z,vn,vs],ve,I0 (YR t x)])/\I5 w' w.heap.size vn (jI t x).ns/\I5 w' w.heap.size vs (jI t x).ss/\I5 w' w.heap.size ve (YW t x)/\B0 w w'
theorem AB4(hE:YR t x=E)(h0:E≠0)(he:e=.returned (.tuple #[.agg #[I0 0,N0,N0],N0,I0 E]))(hb:B0 w w'):bM w t x e w':=by
 have h1:jI t x=tr0:=by rw[jI,if_neg (by omega)]
 have h2:YW t x=[]:=by rw[YW,if_neg (by omega)]
 refine⟨N0,N0,N0,?_,?_,?_,?_,hb⟩
 .rw[hE,h1];exact he
 .rw[h1];exact .inl ⟨rfl,rfl⟩
 .rw[h1];exact .inl ⟨rfl,rfl⟩
 .rw[h2];exact .inl ⟨rfl,rfl⟩
structure yV(W:FX)(q:Nat)(z:Int)(vn vs:FZ)(x:GV):Prop where
 t:W.heap[q]?=G8 (FW #[I0 z,vn,vs] 52 (0,0))
 x:TAt W (q+1) x
 r:W.heap[q+2]?=G8 (FW #[I0 0,N0,N0] 52 (0,0))
theorem yV.new(w:FX)(z:Int)(vn vs:FZ)(x:GV):yV (((w.alloc (FW #[I0 z,vn,vs] 52)).alloc (FW #[I0 x.z,I0 x.o,I0 x.s,S0 x.p,S0 x.d,I0 x.v,I0 x.w] 59)).alloc (FW #[I0 0,N0,N0] 52)) w.heap.size z vn vs x:=by
 refine⟨?_,?_,?_⟩
 .rw[(GI _ _).block _ (by simp;omega),(GI _ _).block _ (by simp)];exact heap_alloc_new w _
 .have h:=(TAt.new (w.alloc (FW #[I0 z,vn,vs] 52)) x).next (GI _ (FW #[I0 0,N0,N0] 52));simpa using h
 .have h:=heap_alloc_new ((w.alloc (FW #[I0 z,vn,vs] 52)).alloc (FW #[I0 x.z,I0 x.o,I0 x.s,S0 x.p,S0 x.d,I0 x.v,I0 x.w] 59)) (FW #[I0 0,N0,N0] 52);rw[show ((w.alloc (FW #[I0 z,vn,vs] 52)).alloc (FW #[I0 x.z,I0 x.o,I0 x.s,S0 x.p,S0 x.d,I0 x.v,I0 x.w] 59)).heap.size=w.heap.size+2 by simp]at h;exact h
theorem yV.lt(h:yV W q z vn vs x):q+2<W.heap.size:=(AL.1 h.r).1
theorem yV.touch(h:yV W q z vn vs x)(ht:Touch F W V)(hf:∀k,F k->q+3<=k):yV V q z vn vs x:=by
 have:=h.lt;have n0:∀k,k<q+3->¬F k:=fun k hk hF=>by have:=hf k hF;omega
 exact⟨(ht.block _ (by omega) (n0 _ (by omega))).trans h.t,(ht.block _ (by omega) (n0 _ (by omega))).trans h.x,(ht.block _ (by omega) (n0 _ (by omega))).trans h.r⟩
theorem yV.next(h:yV W q z vn vs x)(hb:B0 W V):yV V q z vn vs x:=h.touch (F:=fun _=>False) (Touch.of_below hb) (fun _ hF=>hF.elim)
theorem yV.cells(h:yV W q z vn vs x):W.cell? ⟨q,0,G6⟩=G8 (I0 z)/\W.cell? ⟨q,1,G6⟩=G8 vn/\W.cell? ⟨q,2,G6⟩=G8 vs/\W.cell? ⟨q+2,0,G6⟩=G8 (I0 0)/\W.cell? ⟨q+2,1,G6⟩=G8 (N0)/\W.cell? ⟨q+2,2,G6⟩=G8 (N0)/\W.frozen? ⟨q+2,0,G6⟩=false/\W.frozen? ⟨q+2,1,G6⟩=false/\W.frozen? ⟨q+2,2,G6⟩=false:=by
 have h1:=h.t;have h2:=h.r;refine⟨?_,?_,?_,?_,?_,?_,?_,?_,?_⟩<;>simp[AX,World.frozen?,h1,h2]
theorem B24(t:Tr)(vn vs:FZ)(x:GV)(w:FX)(hn:IV w vn t.ns)(hs:IV w vs t.ss)(hw:WfT t)(hd:x.d.length<=140737488355328)(ha:WL t x≠0):
  G5 prog 121 #[.agg #[I0 t.z,vn,vs],JC x] w (bM w t x):=by
 have CA:=GH (fun W (hW:B0 w W)=>wV t vn vs x W (hn.next hW) (hs.next hW) hw hd);have FIN:=GH (fun w' e h hb=>AB4 (w:=w) (w':=w') (e:=e) (BK9 ha) ha h hb);have hab:(WL t x !=0)=true:=by simpa using ha
 obtain⟨na,nc,rfl⟩:=GU hn;obtain⟨sa,sc,rfl⟩:=GU hs;clear hn hs hw ha;generalize WL t x=E at hab CA FIN;generalize hQ:bM w t x=Q at FIN⊢;clear hQ;obtain⟨xz,xo,xs,xp,xd,xv,xw⟩:=x;unfold JC at*;simp only at*;have KB:∀W,Below (((w.alloc (FW #[I0 t.z,FV na t.ns.length nc,FV sa t.ss.length sc] 52)).alloc (FW #[I0 xz,I0 xo,I0 xs,S0 xp,S0 xd,I0 xv,I0 xw] 59)).alloc (FW #[I0 0,N0,N0] 52)).heap.size (((w.alloc (FW #[I0 t.z,FV na t.ns.length nc,FV sa t.ss.length sc] 52)).alloc (FW #[I0 xz,I0 xo,I0 xs,S0 xp,S0 xd,I0 xv,I0 xw] 59)).alloc (FW #[I0 0,N0,N0] 52)) W->yV W w.heap.size t.z (FV na t.ns.length nc) (FV sa t.ss.length sc) ⟨xz,xo,xs,xp,xd,xv,xw⟩/\B0 w W:=fun W h=>⟨(yV.new w _ _ _ ⟨xz,xo,xs,xp,xd,xv,xw⟩).next h,H7 (H7 (H7 h))⟩;have HKB:=GH KB;clear KB;go_enter func121,ntmps121;go_wp2_with fail;refine(G9 CA _ (GK (GK (GI _ _) (GI _ _)) (GI _ _))).mono ?_;rintro e w1 ⟨rfl,hb1⟩;obtain⟨b1,B1⟩:=G9 HKB w1 hb1;obtain⟨k0,k1,k2,k3,k4,k5,k6,k7,k8⟩:=b1.cells;have j0:=b1.x.c0;have j1:=b1.x.c1;have j2:=b1.x.c2;have j3:=b1.x.c3;have j4:=b1.x.c4;have j5:=b1.x.c5;have j6:=b1.x.c6;have HB1:=GH B1;have HX1:=GH b1;clear hb1 b1 B1;go_wp2_with fail;exact bodyPost_ret (v:=.tuple #[.agg #[I0 0,N0,N0],N0,I0 E]) (by simp[results,results121,go_sem,k3,k4,k5]) rfl (G9 FIN _ _ rfl ((((G9 HB1).setCell (by show w.heap.size<=w.heap.size+1+1;omega) _).setCell (by show w.heap.size<=w.heap.size+1+1;omega) _).setCell (by show w.heap.size<=w.heap.size+1+1;omega) _))
theorem B25{ve:FZ}{v0 v1 v2:FZ}(ha:YR t x=0)(hg:Grow W (fun k=>B<=k) b x.z vn vs ve (gQ t x) (qJ t x) (qK t x))(hq:w.heap.size+3<=B)(hb:B0 w W):
  bM w t x (.returned (.tuple #[.agg #[I0 x.z,vn,vs],ve,I0 0])) (((W.setCell ⟨w.heap.size+2,0,G6⟩ v0).setCell ⟨w.heap.size+2,1,G6⟩ v1).setCell ⟨w.heap.size+2,2,G6⟩ v2).drew:=by
 have h1:jI t x=⟨x.z,gQ t x,qJ t x⟩:=by rw[jI,if_pos ha]
 have h2:YW t x=qK t x:=by rw[YW,if_pos ha]
 have nn:∀k,vn.ownBlock=G8 k->w.heap.size+3<=k:=fun k hk=>BP hq (hg.fn k hk).1;have ns:∀k,vs.ownBlock=G8 k->w.heap.size+3<=k:=fun k hk=>BP hq (hg.fs k hk).1;have ne:∀k,ve.ownBlock=G8 k->w.heap.size+3<=k:=fun k hk=>BP hq (hg.fe k hk).1;have no:∀ {v:FZ},(∀k,v.ownBlock=G8 k->w.heap.size+3<=k)->v.ownBlock≠G8 (w.heap.size+2):=fun h e=>by have:=h _ e;omega
 refine⟨vn,vs,ve,by rw[h1,ha],?_,?_,?_,?_⟩
 .rw[h1];exact(((hg.n.raise (fun k hk=>by have:=nn k hk;omega)).other (no nn) _).other (no nn) _).other (no nn) _|>.next (AB _ _).drew
 .rw[h1];exact(((hg.s.raise (fun k hk=>by have:=ns k hk;omega)).other (no ns) _).other (no ns) _).other (no ns) _|>.next (AB _ _).drew
 .rw[h2];exact(((hg.e.raise (fun k hk=>by have:=ne k hk;omega)).other (no ne) _).other (no ne) _).other (no ne) _|>.next (AB _ _).drew
 .exact(((hb.setCell (by simp) _).setCell (by simp) _).setCell (by simp) _).drew
theorem B26(t:Tr)(vn vs:FZ)(x:GV)(w:FX)(hn:IV w vn t.ns)(hs:IV w vs t.ss)(hw:WfT t)(hd:x.d.length<=140737488355328)(ha:WL t x=0):
  G5 prog 121 #[.agg #[I0 t.z,vn,vs],JC x] w (bM w t x):=by
 have CA:=GH (fun W (hW:B0 w W)=>wV t vn vs x W (hn.next hW) (hs.next hW) hw hd);rw[ha]at CA;obtain⟨g,_⟩:=QK ha;have few:=g.nod.few;have sl:=TW g.ses;have CB:=GH (fun W (hW:B0 w W)=>B07 t vn vs x.z W (hn.next hW) (hs.next hW) few sl hw.CJ8);have CC:=GH (fun(F:Nat->Prop) b vn' vs' W (hG:Grow W F b x.z vn' vs' (N0) t.ns t.ss []) hF=>AL9 F b t vn' vs' x W hG hF ha);have hap:=AB1 ha;have FNO:=GH (fun w' e (h0:oG t x≠0) h hb=>AB4 (w:=w) (w':=w') (e:=e) hap h0 h hb);have FYE:=GH (fun(W:FX) (B b:Nat) (vn vs ve v0 v1 v2:FZ) (h0:oG t x=0) hg hq hb=>B25 (w:=w) (W:=W) (t:=t) (x:=x) (B:=B) (b:=b) (vn:=vn) (vs:=vs) (ve:=ve) (v0:=v0) (v1:=v1) (v2:=v2) (hap.trans h0) hg hq hb);obtain⟨na,nc,rfl⟩:=GU hn;obtain⟨sa,sc,rfl⟩:=GU hs;clear hn hs hw ha hap g few sl;generalize hQ:bM w t x=Q at FNO FYE⊢;clear hQ;obtain⟨E,hE⟩:∃E,oG t x=E:=⟨_,rfl⟩;unfold Chg at CC;rw[hE]at CC FNO FYE;clear hE;obtain⟨xz,xo,xs,xp,xd,xv,xw⟩:=x;unfold JC at*;simp only at*;have KB:∀W,Below (((w.alloc (FW #[I0 t.z,FV na t.ns.length nc,FV sa t.ss.length sc] 52)).alloc (FW #[I0 xz,I0 xo,I0 xs,S0 xp,S0 xd,I0 xv,I0 xw] 59)).alloc (FW #[I0 0,N0,N0] 52)).heap.size (((w.alloc (FW #[I0 t.z,FV na t.ns.length nc,FV sa t.ss.length sc] 52)).alloc (FW #[I0 xz,I0 xo,I0 xs,S0 xp,S0 xd,I0 xv,I0 xw] 59)).alloc (FW #[I0 0,N0,N0] 52)) W->yV W w.heap.size t.z (FV na t.ns.length nc) (FV sa t.ss.length sc) ⟨xz,xo,xs,xp,xd,xv,xw⟩/\B0 w W:=fun W h=>⟨(yV.new w _ _ _ ⟨xz,xo,xs,xp,xd,xv,xw⟩).next h,H7 (H7 (H7 h))⟩;have HKB:=GH KB;clear KB;go_enter func121,ntmps121;go_wp2_with fail;refine(G9 CA _ (GK (GK (GI _ _) (GI _ _)) (GI _ _))).mono ?_;rintro e w1 ⟨rfl,hb1⟩;obtain⟨b1,B1⟩:=G9 HKB w1 hb1;obtain⟨k0,k1,k2,k3,k4,k5,k6,k7,k8⟩:=b1.cells;have j0:=b1.x.c0;have j1:=b1.x.c1;have j2:=b1.x.c2;have j3:=b1.x.c3;have j4:=b1.x.c4;have j5:=b1.x.c5;have j6:=b1.x.c6;have HB1:=GH B1;have HX1:=GH b1;clear hb1 b1 B1;go_wp2_with fail;refine(G9 CB _ (G9 HB1)).mono ?_;rintro e w2 ⟨b,vn2,vs2,rfl,g2,hb2⟩;have b2:=(G9 HX1).next hb2;obtain⟨m0,m1,m2,m3,m4,m5,m6,m7,m8⟩:=b2.cells;have i0:=b2.x.c0;have i1:=b2.x.c1;have i2:=b2.x.c2;have i3:=b2.x.c3;have i4:=b2.x.c4;have i5:=b2.x.c5;have i6:=b2.x.c6;have HB2:=GH (GK (G9 HB1) hb2);have HX2:=GH b2;have HG2:=GH g2;have hsz2:=hb2.size;clear hb2 g2 b2 k0 k1 k2 k3 k4 k5 k6 k7 k8 j0 j1 j2 j3 j4 j5 j6 CB CA;go_wp2_with fail;refine(G9 CC _ _ _ _ _ (G9 HG2) (fun k hk=>BP hsz2 hk)).mono ?_;rintro e w3 ⟨rfl,t3,g3⟩;have q1:=(G9 HX1).lt;have b3:=(G9 HX2).touch t3 (fun k hk=>by omega);obtain⟨n0,n1,n2,n3,n4,n5,n6,n7,n8⟩:=b3.cells;have B3:B0 w w3:=(G9 HB2).trans (t3.below (by omega) (fun k hk=>by omega));have HB3:=GH B3;clear CC b3 B3 t3 m0 m1 m2 m3 m4 m5 m6 m7 m8 i0 i1 i2 i3 i4 i5 i6;by_cases h0:E=0
 .obtain⟨vn3,vs3,ve3,g3⟩:=g3 h0;have d0:=g3.c0;have d1:=g3.c1;have d2:=g3.c2;have d3:=g3.c3;obtain⟨na3,nc3,hn3,_⟩:=g3.n.slice;obtain⟨sa3,sc3,hs3,_⟩:=g3.s.slice;obtain⟨ea3,ec3,he3,_⟩:=g3.e.slice;have HG3:=GH g3;have hbl:=g3.lt;have hbq:w1.heap.size<=b:=g3.fb;have hne:b≠w.heap.size+2:=by omega
  have FY:=GH (fun(v0 v1 v2:FZ)=>G9 FYE w3 w1.heap.size b vn3 vs3 ve3 v0 v1 v2 h0 (G9 HG3) (by omega) (G9 HB3));subst hn3 hs3 he3 h0;clear g3 FYE FNO HG3;go_wp2_with fail;go_region;go_wp2_with fail;exact bodyPost_ret (v:=.tuple #[.agg #[I0 xz,FV na3 (gQ t ⟨xz,xo,xs,xp,xd,xv,xw⟩).length nc3,FV sa3 (qJ t ⟨xz,xo,xs,xp,xd,xv,xw⟩).length sc3],FV ea3 (qK t ⟨xz,xo,xs,xp,xd,xv,xw⟩).length ec3,I0 0]) (by simp[results,results121,go_sem,n3,n4,n5]) rfl (G9 FY _ _ _)
 .have h0b:(E !=0)=true:=by simpa using h0
  have FN:=GH (fun w' e h hb=>G9 FNO w' e h0 h hb);clear g3 FYE FNO h0;go_wp2_with fail;exact bodyPost_ret (v:=.tuple #[.agg #[I0 0,N0,N0],N0,I0 E]) (by simp[results,results121,go_sem,n3,n4,n5]) rfl (G9 FN _ _ rfl ((((G9 HB3).setCell (by show w.heap.size<=w.heap.size+1+1;omega) _).setCell (by show w.heap.size<=w.heap.size+1+1;omega) _).setCell (by show w.heap.size<=w.heap.size+1+1;omega) _))
theorem wW(t:Tr)(vn vs:FZ)(x:GV)(w:FX)(hn:IV w vn t.ns)(hs:IV w vs t.ss)(hw:WfT t)(hd:x.d.length<=140737488355328):
  G5 prog 121 #[.agg #[I0 t.z,vn,vs],JC x] w (bM w t x):=by
 by_cases ha:WL t x=0
 .exact B26 t vn vs x w hn hs hw hd ha
 .exact B24 t vn vs x w hn hs hw hd ha
def B27(w:FX)(t:Tr)(e:Ending)(w':FX):Prop:=
 ∃vn vs,e=.returned (.agg #[I0 t.z,vn,vs])/\I5 w' w.heap.size vn t.ns/\I5 w' w.heap.size vs t.ss/\B0 w w'
theorem BM1(w:FX):I5 (w.alloc (FW #[.string ⟨#[47]⟩,.string ⟨#[]⟩,I0 0,I0 0,I0 0,I0 0,I0 0,I0 0,I0 0] 61)) w.heap.size (FV (G8 ⟨w.heap.size,0,G6⟩) 1 1) [zO]:=
 .inr ⟨w.heap.size,1,rfl,AA _,[],by rw[heap_alloc_new];rfl,by decide,by decide,by decide⟩
theorem AB5(w:FX):G5 prog 32 #[] w (B27 w QW):=by
 have H:Hid (B27 w QW (.returned (.agg #[I0 0,FV (G8 ⟨w.heap.size+1,0,G6⟩) 1 1,N0])) ((w.alloc (FW #[I0 0,FV (G8 ⟨w.heap.size+1,0,G6⟩) 1 1,N0] 52)).alloc (FW #[.string ⟨#[47]⟩,.string ⟨#[]⟩,I0 0,I0 0,I0 0,I0 0,I0 0,I0 0,I0 0] 61))):=by
  have h:=BM1 (w.alloc (FW #[I0 0,FV (G8 ⟨w.heap.size+1,0,G6⟩) 1 1,N0] 52));rw[show (w.alloc (FW #[I0 0,FV (G8 ⟨w.heap.size+1,0,G6⟩) 1 1,N0] 52)).heap.size=w.heap.size+1 by simp]at h;exact⟨_,_,rfl,h.lower (by omega),.inl ⟨rfl,rfl⟩,GK (GI _ _) (GI _ _)⟩
 go_enter func32,ntmps32;go_wp2_with fail;exact bodyPost_ret (v:=.agg #[I0 0,FV (G8 ⟨w.heap.size+1,0,G6⟩) 1 1,N0]) (by simp[results,results32,go_sem]) rfl (G9 H)
structure GB(w W:FX)(z:Int)(vn vs:FZ):Prop where
 t:W.heap[w.heap.size]?=G8 (FW #[I0 z,vn,vs] 52 (0,0))
 r:W.heap[w.heap.size+1]?=G8 (FW #[.string ⟨#[]⟩,.string ⟨#[]⟩,I0 0,I0 0,I0 0,I0 0,I0 0,I0 0,I0 0] 61 (0,0))
 b:B0 w W
theorem GB.new(w:FX)(z:Int)(vn vs:FZ):GB w ((w.alloc (FW #[I0 z,vn,vs] 52)).alloc (FW #[.string ⟨#[]⟩,.string ⟨#[]⟩,I0 0,I0 0,I0 0,I0 0,I0 0,I0 0,I0 0] 61)) z vn vs:=by
 refine⟨?_,?_,GK (GI _ _) (GI _ _)⟩
 .rw[(GI _ _).block _ (by simp)];exact heap_alloc_new w _
 .have h:=heap_alloc_new (w.alloc (FW #[I0 z,vn,vs] 52)) (FW #[.string ⟨#[]⟩,.string ⟨#[]⟩,I0 0,I0 0,I0 0,I0 0,I0 0,I0 0,I0 0] 61);rw[show (w.alloc (FW #[I0 z,vn,vs] 52)).heap.size=w.heap.size+1 by simp]at h;exact h
theorem GB.lt(h:GB w W z vn vs):w.heap.size+1<W.heap.size:=(AL.1 h.r).1
theorem GB.next(h:GB w W z vn vs)(hb:B0 W V):GB w V z vn vs:=by
 have:=h.lt;exact⟨(hb.block _ (by omega)).trans h.t,(hb.block _ (by omega)).trans h.r,GK h.b hb⟩
theorem GB.c1(h:GB w W z vn vs):W.cell? ⟨w.heap.size,1,G6⟩=G8 vn:=by simp[AX,h.t]
theorem GB.one(h:GB w W z vn vs):JU W (w.heap.size+1) WH:=h.r
theorem BM2(z:Int)(vn vs:FZ)(ns A B:List Nd)(p:List UInt8)(w:FX)(hn:IV w vn ns)(hl:ns.length<=100000)(G:nJ ns A B p):
  G5 prog 53 #[.agg #[I0 z,vn,vs],S0 p] w (R0 w (.tuple #[U8 WH,I0 7])):=by
 have CF:=GH (fun W (hW:B0 w W)=>NV vn ns A B p W (hn.next hW) hl G);have B0:=GH (GB.new w z vn vs);obtain⟨na,nc,rfl⟩:=GU hn;clear hn G;go_enter func53,ntmps53;go_wp2_with fail;refine(G9 CF _ (G9 B0).b).mono ?_;rintro e w1 ⟨rfl,hb1⟩;have b1:=(G9 B0).next hb1;have o1:=b1.one;have c0:=o1.JO 0 _ rfl;have c1:=o1.JO 1 _ rfl;have c2:=o1.JO 2 _ rfl;have c3:=o1.JO 3 _ rfl;have c4:=o1.JO 4 _ rfl;have c5:=o1.JO 5 _ rfl;have c6:=o1.JO 6 _ rfl;have c7:=o1.JO 7 _ rfl;have c8:=o1.JO 8 _ rfl;have f0:=o1.JA 0;have f1:=o1.JA 1;have f2:=o1.JA 2;have f3:=o1.JA 3;have f4:=o1.JA 4;have f5:=o1.JA 5;have f6:=o1.JA 6;have f7:=o1.JA 7;have f8:=o1.JA 8;have BB:=b1.b;have HBB:=GH BB;clear CF B0 hb1 b1 o1 BB;go_wp2_with fail;have BB:=G9 HBB;exact bodyPost_ret (v:=.tuple #[U8 WH,I0 7]) (by simp[results,results53,go_sem,U8,WH,c0,c1,c2,c3,c4,c5,c6,c7,c8]) rfl
  ⟨rfl,((((((((BB.setCell (by simp) _).setCell (by simp) _).setCell (by simp) _).setCell (by simp) _).setCell (by simp) _).setCell (by simp) _).setCell (by simp) _).setCell (by simp) _).setCell (by simp) _⟩
theorem AM3(z:Int)(vn vs:FZ)(ns A B:List Nd)(n:Nd)(p:List UInt8)(w:FX)(hn:IV w vn ns)(hl:ns.length<=100000)(T:KL ns A n B p)(hp:n.p.length<=140737488355328)(hd:n.d.length<=140737488355328):
  G5 prog 53 #[.agg #[I0 z,vn,vs],S0 p] w (R0 w (.tuple #[U8 n,I0 0])):=by
 have CF:=GH (fun W (hW:B0 w W)=>JY vn ns A B n p W (hn.next hW) hl T);have CC:=GH (fun W=>ZM n W hp hd);unfold U8 at CC;have hlt:A.length<ns.length:=by rw[T.eq];simp
 have hat:ns[A.length]?=G8 n:=by rw[T.eq];exact UQ A n B
 obtain⟨b,off,cap,rfl,hb,hr,_,_⟩:=N8 hn (by rw[T.eq];simp);have HR:=GH (fun W (hW:B0 w W)=>hr.kept hW hb);have B0:=GH (GB.new w z (FV (G8 ⟨b,off,G6⟩) ns.length cap) vs);clear hn T hr;have HAT:=GH hat;clear hat;go_enter func53,ntmps53;go_wp2_with fail;refine(G9 CF _ (G9 B0).b).mono ?_;rintro e w1 ⟨rfl,hb1⟩;have b1:=(G9 B0).next hb1;have HB1:=GH b1;have e1:=b1.c1;have q:=G9 HR w1 b1.b;have d0:=q.n0 (G9 HAT);have d1:=q.n1 (G9 HAT);have d2:=q.n2 (G9 HAT);have d3:=q.n3 (G9 HAT);have d4:=q.n4 (G9 HAT);have d5:=q.n5 (G9 HAT);have d6:=q.n6 (G9 HAT);have d7:=q.n7 (G9 HAT);have d8:=q.n8 (G9 HAT);clear q CF b1 hb1;go_wp2_with fail;refine(G9 CC _).mono ?_;rintro e w2 ⟨rfl,hb2⟩;have b2:=(G9 HB1).next hb2;have o1:=b2.one;have c0:=o1.JO 0 _ rfl;have c1:=o1.JO 1 _ rfl;have c2:=o1.JO 2 _ rfl;have c3:=o1.JO 3 _ rfl;have c4:=o1.JO 4 _ rfl;have c5:=o1.JO 5 _ rfl;have c6:=o1.JO 6 _ rfl;have c7:=o1.JO 7 _ rfl;have c8:=o1.JO 8 _ rfl;have f0:=o1.JA 0;have f1:=o1.JA 1;have f2:=o1.JA 2;have f3:=o1.JA 3;have f4:=o1.JA 4;have f5:=o1.JA 5;have f6:=o1.JA 6;have f7:=o1.JA 7;have f8:=o1.JA 8;have HBB:=GH b2.b;clear b2 hb2 o1 CC d0 d1 d2 d3 d4 d5 d6 d7 d8 e1;go_wp2_with fail;have BB:=G9 HBB;exact bodyPost_ret (v:=.tuple #[U8 n,I0 0]) (by simp[results,results53,go_sem,U8,c0,c1,c2,c3,c4,c5,c6,c7,c8]) rfl
  ⟨rfl,((((((((BB.setCell (by simp) _).setCell (by simp) _).setCell (by simp) _).setCell (by simp) _).setCell (by simp) _).setCell (by simp) _).setCell (by simp) _).setCell (by simp) _).setCell (by simp) _⟩
theorem bP:RX QW:=by
 refine⟨by decide,⟨List.Pairwise.nil,by simp[QW]⟩,⟨by decide,⟨zO,[],rfl,rfl,rfl⟩,List.pairwise_singleton _ _,?_⟩,?_⟩
 .intro n hn;obtain rfl:n=zO:=by simpa [QW]using hn
  refine⟨by decide,dR,fun h=>absurd rfl h,by decide,by decide,by decide,by decide,by decide,by decide,by decide,by decide,?_,.inl rfl⟩;show (0:Int)=OG [zO] [47];simp[OG,zO,UJ]
 .intro n hn;obtain rfl:n=zO:=by simpa [QW]using hn
  decide
theorem RX.wf(g:RX t):WfT t:=by
 refine⟨fun s hs=>by have:=g.ses.2 s hs;omega,fun n hn=>?_⟩;have k:=g.nod.ok n hn;have:=MV k.path;have:=k.data;omega
structure TT(w W:FX)(z:Int)(vn vs un us:FZ):Prop where
 a:W.heap[w.heap.size]?=G8 (FW #[I0 z,vn,vs] 52 (0,0))
 b:W.heap[w.heap.size+1]?=G8 (FW #[I0 z,un,us] 52 (0,0))
 bl:B0 w W
theorem TT.new(w:FX)(z:Int)(vn vs un us:FZ):TT w ((w.alloc (FW #[I0 z,vn,vs] 52)).alloc (FW #[I0 z,un,us] 52)) z vn vs un us:=by
 refine⟨?_,?_,GK (GI _ _) (GI _ _)⟩
 .rw[(GI _ _).block _ (by simp)];exact heap_alloc_new w _
 .have h:=heap_alloc_new (w.alloc (FW #[I0 z,vn,vs] 52)) (FW #[I0 z,un,us] 52);rw[show (w.alloc (FW #[I0 z,vn,vs] 52)).heap.size=w.heap.size+1 by simp]at h;exact h
theorem TT.next{un us:FZ}(h:TT w W z vn vs un us)(hb:B0 W V):TT w V z vn vs un us:=
 ⟨(hb.block _ (AL.1 h.a).1).trans h.a,(hb.block _ (AL.1 h.b).1).trans h.b,GK h.bl hb⟩
theorem TT.six{un us:FZ}(h:TT w W z vn vs un us):W.cell? ⟨w.heap.size,0,G6⟩=G8 (I0 z)/\W.cell? ⟨w.heap.size,1,G6⟩=G8 vn/\W.cell? ⟨w.heap.size,2,G6⟩=G8 vs/\W.cell? ⟨w.heap.size+1,0,G6⟩=G8 (I0 z)/\W.cell? ⟨w.heap.size+1,1,G6⟩=G8 un/\W.cell? ⟨w.heap.size+1,2,G6⟩=G8 us:=by
 have h1:=h.a;have h2:=h.b;refine⟨?_,?_,?_,?_,?_,?_⟩<;>simp[AX,h1,h2]
theorem B28(t:Tr)(x:GV):(jI t x).ns.length<=140737488355328/\(jI t x).ss.length<=140737488355328/\(YW t x).length<=140737488355328:=by
 by_cases h:YR t x=0
 .obtain⟨g2,_,_⟩:=aT h;obtain⟨ha,_⟩:=qL h;obtain⟨g,_,_⟩:=QK ha;have few:=g.nod.few;refine⟨by have:=g2.nod.few;omega,by have:=TW g2.ses;omega,?_⟩;rw[YW,if_pos h,qK]
  split
  .rw[A85];have:(P6 t.ns x.s).length<=t.ns.length:=by
    rw[P6,EJ];exact List.length_filter_le _ _
   omega
  .split
   .simp
   .split
    .simp
    .split<;>simp
 .rw[jI,if_neg h,YW,if_neg h];exact⟨by decide,by decide,by decide⟩
