/-
  Part.
-/
import Derived.Test.YtodnhndkghdinaaGreatDoorLOO
set_option maxRecDepth 20000
set_option maxHeartbeats 8000000
namespace Go.Proofs.YtodnhndkghdinaaGreatDoor
open Go.RowKit Go.Proofs.Tryz
variable{t:Tr}{x:AQ}{p:List UInt8}{z more:Int}{ns:List Nd}{n:Nd}{w w':World}{P:Prop}{k:Nat}{ss:List Int}
def jE(t:Tr)(x:AQ):Int:=if gG t x≠0 then gG t x else if UU (ZT t x)=true then 6 else 0
theorem BA2(h:RZ t x≠0):UW t x=RZ t x:=by rw[UW,if_pos h]
theorem A12(h:RZ t x=0):UW t x=jE t x:=by rw[UW,if_neg (by omega),jE]
theorem LX{E:Int}(h:gG t x=E)(h0:E≠0):jE t x=E:=by rw[jE,if_pos (by omega),h]
theorem dS(h:gG t x=0)(hf:UU (ZT t x)=true):jE t x=6:=by rw[jE,if_neg (by omega),if_pos hf]
theorem YP(h:gG t x=0)(hf:UU (ZT t x)=false):jE t x=0:=by rw[jE,if_neg (by omega),if_neg (by simp[hf])]
theorem lU(p:List UInt8)(z more:Int)(ns:List Nd):(JK p z more ns).length=ns.length:=by rw[JK,List.length_map]
theorem AB5(h:n∈JK p z more ns):∃m∈ns,n=(if m.p=p then bump z more m else m):=by
 rw[JK]at h;obtain⟨m,hm,rfl⟩:=List.mem_map.1 h;exact⟨m,hm,rfl⟩
theorem AB6{m:Nd}(h:m∈ns)(hp:m.p=p):bump z more m∈JK p z more ns:=by
 rw[JK];exact List.mem_map.2 ⟨m,h,by rw[if_pos hp]⟩
theorem AR0{u:Nd}(h:u∈ns)(hp:u.p=p)(hk:u.k=2147483647):UU (JK p z more ns)=true:=
 iP.2 ⟨_,AB6 h hp,by show 2147483647<u.k+1;omega⟩
theorem AR1{u:Nd}(ha:nX ns)(h:u∈ns)(hp:u.p=p)(hk:u.k<2147483647)(hc:∀n∈ns,n.k≤2147483647):UU (JK p z more ns)=false:=by
 rw[JV];intro n hn;obtain⟨m,hm,rfl⟩:=AB5 hn
 split
 ·rename_i e
  have:m=u:=PX ha hm h (by rw[e,hp]);subst this;show m.k+1≤_;omega
 ·exact hc m hm
def Chg(F:Nat→Prop)(b:Nat)(t:Tr)(x:AQ)(w:World)(e:Ending)(w':World):Prop:=
 e=.returned (I0 (jE t x))∧Touch F w w'∧(jE t x=0→∃vn vs ve,Grow w' F b x.z vn vs ve (ZT t x) (kS t x) (kT t x))
theorem Chg.no{F:Nat→Prop}{b:Nat}{e:Ending}{E:Int}(h:e=.returned (I0 E)∧Touch F w w')(hE:jE t x=E)(h0:E≠0):Chg F b t x w e w':=
 ⟨by rw[hE];exact h.1,h.2,fun h'=>by omega⟩
theorem BT0(F:Nat→Prop)(b:Nat)(t:Tr)(vn vs ve:Value)(x:AQ)(w:World)(h:Grow w F b x.z vn vs ve t.ns t.ss [])(hF:∀k,w.heap.size≤k→F k)(ha:RZ t x=0)(ho:x.o=3):
  Calls prog 205 #[P0 b,DX x] w (Chg F b t x w):=by
 obtain⟨g,hg,hz,h1,h2⟩:=LV ha;have f:=VN hg;obtain⟨hp1,hp2⟩:=f.path (.inl ho);have hpl:=IQ hp1;have hdl:=f.d;have hdo:=SV x.p;have hE:gG t x=A77 t x:=by rw[gG,if_pos ho]
 have hN:ZT t x=oL x.z t.ns (zI x):=by rw[ZT,if_neg (by omega),if_pos ho]
 have hS:kS t x=t.ss:=by rw[kS,if_neg (by omega),if_neg (by omega)]
 have hV:kT t x=[⟨1,x.p⟩,⟨4,BP x.p⟩]:=by rw[kT,if_neg (by omega),if_pos ho]
 have few:=g.nod.few;rcases V6 x.p t.ns g.nod.asc with⟨A,n,B,T⟩|⟨A,B,G⟩
 ·refine(AQ3 F b x.z vn vs ve t.ns A B n t.ss [] x w h T few g.nod.asc).mono fun e w' q=>Chg.no q ?_ (by decide);exact LX (by rw[hE,A77,T.look,if_pos (by rfl)]) (by decide)
 ·rcases V6 (BP x.p) t.ns g.nod.asc with⟨A',u,B',U⟩|⟨A',B',U⟩
  ·by_cases hu:u.o=0
   ·have hum:u∈t.ns:=by rw[U.eq];simp
    have ku:=g.nod.ok u hum;have hkc:=g.cap u hum;have hkn:=ku.kids;have hkl:JF t.ns u.p≤t.ns.length:=List.countP_le_length;by_cases hw:x.w=0∨x.w=x.s
    ·by_cases hf:t.ns.length=400
     ·have hc:A77 t x=6:=by
       rw[A77,G.look,if_neg (by simp),U.look];simp only;rw[if_neg (by omega),if_neg (by rintro⟨a,c⟩;rcases hw with e|e<;>omega),if_pos hf]
      by_cases hw0:x.w=0
      ·exact(AQ5 F b x.z vn vs ve t.ns A B A' B' u t.ss [] x w h G U hu hw0 hf).mono fun e w' q=>Chg.no q (LX (by rw[hE,hc]) (by decide)) (by decide)
      ·exact(AQ6 F b x.z vn vs ve t.ns A B A' B' u t.ss [] x w h G U hu hw0 (by omega) hf).mono fun e w' q=>Chg.no q (LX (by rw[hE,hc]) (by decide)) (by decide)
     ·have hc:A77 t x=0:=by
       rw[A77,G.look,if_neg (by simp),U.look];simp only;rw[if_neg (by omega),if_neg (by rintro⟨a,c⟩;rcases hw with e|e<;>omega),if_neg hf]
      have gn:L9 x.z t.ns t.ss:=g.nod.mono (by omega);have hsm:x.s∈t.ss:=h2 (by omega);have ga:=zH (x:=zI x) gn G (by omega) hp1 hp2 ⟨u,hum,U.nm,hu⟩ f.d f.z.1 rfl rfl rfl rfl rfl rfl (by
       rcases hw with c|c
       ·exact .inl c
       ·exact .inr (by show x.w∈t.ss;rw[c];exact hsm))
      have hins:CE6 t.ns (zI x)=A++zI x::B:=G.ins;have hasc:nX (A++zI x::B):=by
       have:=(JY _).1 ga.asc;rw[oL,SQ,hins]at this;exact(JY _).2 this
      have CH4:u∈A++zI x::B:=by
       have:=hum;rw[G.eq]at this;rcases List.mem_append.1 this with e|e<;>simp[e]
      obtain⟨A2,B2,U2⟩:∃A2 B2,FP (A++zI x::B) A2 u B2 (BP x.p):=by
       rw[←U.nm];exact N7 hasc (WV hasc CH4)
      have hlen:(A++zI x::B).length≤400:=by rw[←hins,←lU (BP x.p) x.z 1];exact ga.few
      by_cases hk:u.k=2147483647
      ·have hfu:jE t x=6:=dS (by rw[hE,hc]) (by rw[hN,oL,hins];exact AR0 CH4 U.nm hk);have P:∀W vn' ve',Grow W F b x.z vn' vs ve' (A++zI x::B) t.ss ([]++[⟨1,x.p⟩])→w.heap.size≤W.heap.size→Touch F w W→Calls prog 228 #[P0 b,S0 (BP x.p),I0 1] W fun e w'=>e=.returned (I0 6)∧Touch F w w':=by
        intro W vn' ve' hG hs ht;refine(dP F b x.z vn' vs ve' _ A2 B2 u t.ss _ (BP x.p) 1 W hG U2 hlen hk).mono ?_;rintro e w' ⟨rfl,t'⟩;exact⟨rfl,ht.trans t'⟩
       exact(A11 F b x.z vn vs ve t.ns A B A' B' u 6 _ t.ss [] x w h hF G U few hu hw (by omega) (by omega) (by omega) (by simp) P).mono fun e w' q=>Chg.no q hfu (by decide)
      ·have CH5:∀n∈A++zI x::B,n.k≤2147483647:=by
        intro n hn;rcases List.mem_append.1 hn with e|e
        ·exact g.cap n (by rw[G.eq];simp[e])
        ·rcases List.mem_cons.1 e with rfl|e
         ·show (0:Int)≤_;decide
         ·exact g.cap n (by rw[G.eq];simp[e])
       have hfu:jE t x=0:=YP (by rw[hE,hc]) (by rw[hN,oL,hins];exact AR1 hasc CH4 U.nm (by omega) CH5);have P:∀W vn' ve',Grow W F b x.z vn' vs ve' (A++zI x::B) t.ss ([]++[⟨1,x.p⟩])→w.heap.size≤W.heap.size→Touch F w W→Calls prog 228 #[P0 b,S0 (BP x.p),I0 1] W fun e w'=>e=.returned (I0 0)∧((∃vn' ve',Grow w' F b x.z vn' vs ve' (ZT t x) t.ss (kT t x))∧Touch F w w'):=by
        intro W vn' ve' hG hs ht;refine(qJ F b x.z vn' vs ve' _ A2 B2 u t.ss _ (BP x.p) 1 W hG (fun k hk=>hF k (by omega)) U2 hlen ⟨ku.k0,by omega⟩ (by omega) (by omega) (by omega) (by simp)).mono ?_;rintro e w' ⟨rfl,ve2,g',t'⟩;refine⟨rfl,⟨vn',ve2,?_⟩,ht.trans t'⟩;have e1:ZT t x=A2++bump x.z 1 u::B2:=by
         rw[hN,oL,hins];exact U2.bump x.z 1
        rw[e1,hV];exact g'
       have fin:∀ (e:Ending) (w':World),(e=.returned (I0 0)∧((∃vn' ve',Grow w' F b x.z vn' vs ve' (ZT t x) t.ss (kT t x))∧Touch F w w'))→Chg F b t x w e w':=by
        rintro e w' ⟨rfl,⟨vn',ve',g'⟩,t'⟩;exact⟨by rw[hfu],t',fun _=>⟨vn',vs,ve',by rw[hS];exact g'⟩⟩
       exact(A11 F b x.z vn vs ve t.ns A B A' B' u 0 _ t.ss [] x w h hF G U few hu hw (by omega) (by omega) (by omega) (by simp) P).mono fin
    ·have hw1:x.w≠0:=fun e=>hw (.inl e);have hw2:x.w≠x.s:=fun e=>hw (.inr e);refine(BS9 F b x.z vn vs ve t.ns A B A' B' u t.ss [] x w h G U few hu hw1 hw2).mono fun e w' q=>Chg.no q ?_ (by decide);refine LX ?_ (by decide);rw[hE,A77,G.look,if_neg (by simp),U.look];simp only;rw[if_neg (by omega),if_pos ⟨hw1,hw2⟩]
   ·refine(AQ4 F b x.z vn vs ve t.ns A B A' B' u t.ss [] x w h G U few hu).mono fun e w' q=>Chg.no q ?_ (by decide);refine LX ?_ (by decide);rw[hE,A77,G.look,if_neg (by simp),U.look];simp only;rw[if_pos hu]
  ·refine(B98 F b x.z vn vs ve t.ns A B A' B' t.ss [] x w h G U few).mono fun e w' q=>Chg.no q ?_ (by decide);refine LX ?_ (by decide);rw[hE,A77,G.look,if_neg (by simp),U.look]
theorem BT1(F:Nat→Prop)(b:Nat)(t:Tr)(vn vs ve:Value)(x:AQ)(w:World)(h:Grow w F b x.z vn vs ve t.ns t.ss [])(hF:∀k,w.heap.size≤k→F k)(ha:RZ t x=0)(ho:x.o=4):
  Calls prog 206 #[P0 b,S0 x.p] w (Chg F b t x w):=by
 obtain⟨g,hg,hz,h1,h2⟩:=LV ha;have f:=VN hg;obtain⟨hp1,hp2⟩:=f.path (.inr ho);have hpl:=IQ hp1;have hdo:=SV x.p;have few:=g.nod.few;have hE:gG t x=B54 t x:=by rw[gG,if_neg (by omega),if_pos ho]
 have hN:ZT t x=rmN x.z t.ns x.p:=by rw[ZT,if_neg (by omega),if_neg (by omega),if_pos ho]
 have hS:kS t x=t.ss:=by rw[kS,if_neg (by omega),if_neg (by omega)]
 have hV:kT t x=[⟨2,x.p⟩,⟨4,BP x.p⟩]:=by rw[kT,if_neg (by omega),if_neg (by omega),if_pos ho]
 rcases V6 x.p t.ns g.nod.asc with⟨A,n,B,T⟩|⟨A,B,G⟩
 ·have hn:n∈t.ns:=by rw[T.eq];simp
  by_cases hk:n.n=0
  ·have hd0:B54 t x=0:=by rw[B54,T.look];simp only;rw[if_neg (by omega)]
   have gn:L9 x.z t.ns t.ss:=g.nod.mono (by omega);obtain⟨u,hu1,hu2,hu3,hu4,hu5⟩:=AL2 gn hn (by rw[T.nm];exact hp2);rw[T.nm]at hu1 hu3 hu4;obtain⟨A',B',T'⟩:=iT gn.asc T hu2 hu3 hu4;have ku:=gn.ok u hu2;have hkc:=g.cap u hu2;have hkn:=ku.kids;have hkl:JF t.ns u.p≤t.ns.length:=List.countP_le_length;by_cases hf:u.k=2147483647
   ·refine(dR F b x.z vn vs ve t.ns A B A' B' n u t.ss [] x.p w h hF T T' few hk hf (by omega) (by simp)).mono fun e w' q=>Chg.no q ?_ (by decide);exact dS (by rw[hE,hd0]) (by rw[hN];exact AL7 hu2 hu3 hu4 hf [] (by simp))
   ·refine(qK F b x.z vn vs ve t.ns A B A' B' n u t.ss [] x.p w h hF T T' few hk ⟨ku.k0,by omega⟩ (by omega) (by omega) (by omega) (by simp)).mono ?_;rintro e w' ⟨rfl,vn',ve',g',t'⟩;have hc:jE t x=0:=YP (by rw[hE,hd0]) (by rw[hN,JV];exact BL6 gn.asc hu2 hu3 (by omega) g.cap);exact⟨by rw[hc],t',fun _=>⟨vn',vs,ve',by rw[hN,hS,hV];exact g'⟩⟩
  ·refine(wF F b x.z vn vs ve t.ns A B n t.ss [] x.p w h T few hk).mono fun e w' q=>Chg.no q ?_ (by decide);exact LX (by rw[hE,B54,T.look];simp only;rw[if_pos hk]) (by decide)
 ·refine(AB3 F b x.z vn vs ve t.ns A B t.ss [] x.p w h G few).mono fun e w' q=>Chg.no q ?_ (by decide);exact LX (by rw[hE,B54,G.look]) (by decide)
theorem BT2(F:Nat→Prop)(b:Nat)(t:Tr)(vn vs ve:Value)(x:AQ)(w:World)(h:Grow w F b x.z vn vs ve t.ns t.ss [])(hF:∀k,w.heap.size≤k→F k)(ha:RZ t x=0)(ho:x.o=5):
  Calls prog 207 #[P0 b,DX x] w (Chg F b t x w):=by
 obtain⟨g,hg,hz,h1,h2⟩:=LV ha;have f:=VN hg;have hpl:=IQ (f.CG6 ho);have hdl:=f.d;have few:=g.nod.few;have hE:gG t x=C29 t x:=by rw[gG,if_neg (by omega),if_neg (by omega),if_pos ho]
 have hN:ZT t x=AL0 x.p x.d x.v x.z t.ns:=by rw[ZT,if_neg (by omega),if_neg (by omega),if_neg (by omega),if_pos ho]
 have hS:kS t x=t.ss:=by rw[kS,if_neg (by omega),if_neg (by omega)]
 have hV:kT t x=[⟨3,x.p⟩]:=by rw[kT,if_neg (by omega),if_neg (by omega),if_neg (by omega),if_pos ho]
 rcases V6 x.p t.ns g.nod.asc with⟨A,n,B,T⟩|⟨A,B,G⟩
 ·have hn:n∈t.ns:=by rw[T.eq];simp
  have kn:=g.nod.ok n hn;by_cases hv:x.v=n.v+1
  ·refine(C66 F b x.z vn vs ve t.ns A B n t.ss [] x w h hF T few ⟨kn.v0,kn.v1⟩ (by omega) (by omega) (by simp) hv).mono ?_;rintro e w' ⟨rfl,ve',g',t'⟩;have hc:jE t x=0:=YP (by rw[hE,C29,T.look];simp only;rw[if_neg (by omega)]) (by
    rw[hN,JV];intro m hm;rw[AL0]at hm;obtain⟨m',hm',rfl⟩:=List.mem_map.1 hm
    split
    ·exact g.cap m' hm'
    ·exact g.cap m' hm')
   exact⟨by rw[hc],t',fun _=>⟨vn,vs,ve',by rw[hN,hS,hV,T.put];exact g'⟩⟩
  ·refine(BS8 F b x.z vn vs ve t.ns A B n t.ss [] x w h hF T few ⟨kn.v0,kn.v1⟩ (by omega) (by omega) (by simp) hv).mono fun e w' q=>Chg.no q ?_ (by decide);exact LX (by rw[hE,C29,T.look];simp only;rw[if_pos hv]) (by decide)
 ·refine(BS7 F b x.z vn vs ve t.ns A B t.ss [] x w h G few).mono fun e w' q=>Chg.no q ?_ (by decide);exact LX (by rw[hE,C29,G.look]) (by decide)
theorem BT3(F:Nat→Prop)(b:Nat)(t:Tr)(vn vs ve:Value)(x:AQ)(w:World)(h:Grow w F b x.z vn vs ve t.ns t.ss [])(hF:∀k,w.heap.size≤k→F k)(ha:RZ t x=0)(ho:x.o=2):
  Calls prog 204 #[P0 b,I0 x.s] w (Chg F b t x w):=by
 obtain⟨g,hg,hz,h1,h2⟩:=LV ha;have f:=VN hg;have gn:L9 x.z t.ns t.ss:=g.nod.mono (by omega);have hE:gG t x=0:=by rw[gG,if_neg (by omega),if_neg (by omega),if_neg (by omega)]
 have hN:ZT t x=MR x.z t.ns (JZ t.ns x.s):=by rw[ZT,if_pos ho]
 have hS:kS t x=A76 t.ss x.s:=by rw[kS,if_neg (by omega),if_pos ho]
 have hV:kT t x=AL4 (JZ t.ns x.s):=by rw[kT,if_pos ho]
 have hm:=h2 (by omega);rcases oK x.s t.ss g.ses.1 with⟨A,B,T⟩|⟨A,B,G⟩
 ·refine(AQ9 F b x.z vn vs ve t.ns t.ss A B t.ss x.s w h hF T (OV g.ses) ⟨gn,iQ gn (by have:=f.s;omega),g.cap⟩).mono ?_;rintro e w' (⟨hf,rfl,t'⟩|⟨hf,rfl,vn',vs',ve',g',t'⟩)
  ·exact Chg.no ⟨rfl,t'⟩ (dS hE (by rw[hN];exact hf)) (by decide)
  ·have hc:jE t x=0:=YP hE (by rw[hN];exact hf);exact⟨by rw[hc],t',fun _=>⟨vn',vs',ve',by rw[hN,hS,hV,T.drop];exact g'⟩⟩
 ·exact absurd hm G.not
theorem BT4(F:Nat→Prop)(b:Nat)(t:Tr)(vn vs:Value)(x:AQ)(w:World)(h:Grow w F b x.z vn vs (N0) t.ns t.ss [])(hF:∀k,w.heap.size≤k→F k)(ha:RZ t x=0)(ho:x.o=1):
  Calls prog 203 #[P0 b,I0 x.s] w fun e w'=>e=.returned (.tuple #[])∧Chg F b t x w (.returned (I0 0)) w':=by
 obtain⟨g,hg,hz,h1,h2⟩:=LV ha;have f:=VN hg;have hE:gG t x=0:=by rw[gG,if_neg (by omega),if_neg (by omega),if_neg (by omega)]
 have hN:ZT t x=t.ns:=by rw[ZT,if_neg (by omega),if_neg (by omega),if_neg (by omega),if_neg (by omega)]
 have hS:kS t x=BQ0 t.ss x.s:=by rw[kS,if_pos ho]
 have hV:kT t x=[]:=by rw[kT,if_neg (by omega),if_neg (by omega),if_neg (by omega),if_neg (by omega)]
 have hm:=h1 ho;rcases oK x.s t.ss g.ses.1 with⟨A,B,T⟩|⟨A,B,G⟩
 ·exact absurd T.mem hm
 ·have hl:t.ss.length≤2147483646:=by
   have h3:=OV (zG g.ses f.s hm);rw[G.ins]at h3;rw[G.eq];simp at h3⊢;omega
  refine(BA0 F b x.z vn vs _ t.ns t.ss A B [] x.s w h hF G hl).mono ?_;rintro e w' ⟨rfl,vs',g',t'⟩;have hc:jE t x=0:=YP hE (by rw[hN,JV];exact g.cap);exact⟨rfl,by rw[hc],t',fun _=>⟨vn,vs',_,by rw[hN,hS,hV,G.ins];exact g'⟩⟩
theorem Chg.boxed{F:Nat→Prop}{b:Nat}{o:Obj}{e:Ending}(h:Chg F b t x (w.alloc o) e w'):Chg F b t x w e w':=
 ⟨h.1,(Touch.of_below (AB w o)).trans h.2.1,h.2.2⟩
theorem AB7(F:Nat→Prop)(b:Nat)(t:Tr)(vn vs:Value)(x:AQ)(w:World)(h:Grow w F b x.z vn vs (N0) t.ns t.ss [])(hF:∀k,w.heap.size≤k→F k)(ha:RZ t x=0)(ho:x.o=1):
  Calls prog 182 #[P0 b,DX x] w (Chg F b t x w):=by
 have C:=BT4 F b t vn vs x (w.alloc (.cells #[I0 x.z,I0 x.o,I0 x.s,S0 x.p,S0 x.d,I0 x.v,I0 x.w] 62)) (h.next (AB _ _)) (fun k hk=>hF k (by simp at hk;omega)) ha ho;clear h hF ha;have HO:=AA ho;obtain⟨xz,xo,xs,xp,xd,xv,xw⟩:=x;unfold DX;simp only at C ho⊢;subst ho;have HC:=AA C;clear C;go_enter func182,ntmps182;go_wp2_with fail;refine(A8 HC).mono ?_;rintro e w1 ⟨rfl,hc⟩;have HQ:=AA hc.boxed;clear hc HC;go_wp2_with fail;go_ret;exact A8 HQ
theorem AB8(F:Nat→Prop)(b:Nat)(t:Tr)(vn vs:Value)(x:AQ)(w:World)(h:Grow w F b x.z vn vs (N0) t.ns t.ss [])(hF:∀k,w.heap.size≤k→F k)(ha:RZ t x=0)(ho:x.o=2):
  Calls prog 182 #[P0 b,DX x] w (Chg F b t x w):=by
 have C:=BT3 F b t vn vs _ x (w.alloc (.cells #[I0 x.z,I0 x.o,I0 x.s,S0 x.p,S0 x.d,I0 x.v,I0 x.w] 62)) (h.next (AB _ _)) (fun k hk=>hF k (by simp at hk;omega)) ha ho;clear h hF ha;have HO:=AA ho;obtain⟨xz,xo,xs,xp,xd,xv,xw⟩:=x;unfold DX;simp only at C ho⊢;subst ho;have HC:=AA C;clear C;go_enter func182,ntmps182;go_wp2_with fail;refine(A8 HC).mono ?_;rintro e w1 hc;obtain⟨rfl,hc'⟩:=hc.boxed;have HQ:=AA hc';clear hc hc' HC;go_wp2_with fail;go_ret;exact⟨rfl,A8 HQ⟩
theorem AB9(F:Nat→Prop)(b:Nat)(t:Tr)(vn vs:Value)(x:AQ)(w:World)(h:Grow w F b x.z vn vs (N0) t.ns t.ss [])(hF:∀k,w.heap.size≤k→F k)(ha:RZ t x=0)(ho:x.o=3):
  Calls prog 182 #[P0 b,DX x] w (Chg F b t x w):=by
 have C:=BT0 F b t vn vs _ x (w.alloc (.cells #[I0 x.z,I0 x.o,I0 x.s,S0 x.p,S0 x.d,I0 x.v,I0 x.w] 62)) (h.next (AB _ _)) (fun k hk=>hF k (by simp at hk;omega)) ha ho;clear h hF ha;have HO:=AA ho;obtain⟨xz,xo,xs,xp,xd,xv,xw⟩:=x;unfold DX at C⊢;simp only at C ho⊢;subst ho;have HC:=AA C;clear C;go_enter func182,ntmps182;go_wp2_with fail;refine(A8 HC).mono ?_;rintro e w1 hc;obtain⟨rfl,hc'⟩:=hc.boxed;have HQ:=AA hc';clear hc hc' HC;go_wp2_with fail;go_ret;exact⟨rfl,A8 HQ⟩
theorem AC0(F:Nat→Prop)(b:Nat)(t:Tr)(vn vs:Value)(x:AQ)(w:World)(h:Grow w F b x.z vn vs (N0) t.ns t.ss [])(hF:∀k,w.heap.size≤k→F k)(ha:RZ t x=0)(ho:x.o=4):
  Calls prog 182 #[P0 b,DX x] w (Chg F b t x w):=by
 have C:=BT1 F b t vn vs _ x (w.alloc (.cells #[I0 x.z,I0 x.o,I0 x.s,S0 x.p,S0 x.d,I0 x.v,I0 x.w] 62)) (h.next (AB _ _)) (fun k hk=>hF k (by simp at hk;omega)) ha ho;clear h hF ha;have HO:=AA ho;obtain⟨xz,xo,xs,xp,xd,xv,xw⟩:=x;unfold DX;simp only at C ho⊢;subst ho;have HC:=AA C;clear C;go_enter func182,ntmps182;go_wp2_with fail;refine(A8 HC).mono ?_;rintro e w1 hc;obtain⟨rfl,hc'⟩:=hc.boxed;have HQ:=AA hc';clear hc hc' HC;go_wp2_with fail;go_ret;exact⟨rfl,A8 HQ⟩
theorem AC1(F:Nat→Prop)(b:Nat)(t:Tr)(vn vs:Value)(x:AQ)(w:World)(h:Grow w F b x.z vn vs (N0) t.ns t.ss [])(hF:∀k,w.heap.size≤k→F k)(ha:RZ t x=0)(ho:x.o=5):
  Calls prog 182 #[P0 b,DX x] w (Chg F b t x w):=by
 have C:=BT2 F b t vn vs _ x (w.alloc (.cells #[I0 x.z,I0 x.o,I0 x.s,S0 x.p,S0 x.d,I0 x.v,I0 x.w] 62)) (h.next (AB _ _)) (fun k hk=>hF k (by simp at hk;omega)) ha ho;clear h hF ha;have HO:=AA ho;obtain⟨xz,xo,xs,xp,xd,xv,xw⟩:=x;unfold DX at C⊢;simp only at C ho⊢;subst ho;have HC:=AA C;clear C;go_enter func182,ntmps182;go_wp2_with fail;refine(A8 HC).mono ?_;rintro e w1 hc;obtain⟨rfl,hc'⟩:=hc.boxed;have HQ:=AA hc';clear hc hc' HC;go_wp2_with fail;go_ret;exact⟨rfl,A8 HQ⟩
theorem AC2(F:Nat→Prop)(b:Nat)(t:Tr)(vn vs:Value)(x:AQ)(w:World)(h:Grow w F b x.z vn vs (N0) t.ns t.ss [])(hF:∀k,w.heap.size≤k→F k)(ha:RZ t x=0):
  Calls prog 182 #[P0 b,DX x] w (Chg F b t x w):=by
 have f:=(VN (LV ha).2.1).op;by_cases h1:x.o=1
 ·exact AB7 F b t vn vs x w h hF ha h1
 ·by_cases h2:x.o=2
  ·exact AB8 F b t vn vs x w h hF ha h2
  ·by_cases h3:x.o=3
   ·exact AB9 F b t vn vs x w h hF ha h3
   ·by_cases h4:x.o=4
    ·exact AC0 F b t vn vs x w h hF ha h4
    ·exact AC1 F b t vn vs x w h hF ha (by omega)
noncomputable def pd(P:Prop):Bool:= @decide P (Classical.propDecidable _)
theorem OE(h:P):pd P=true:=by unfold pd;exact @decide_eq_true _ (Classical.propDecidable _) h
theorem NH(h:¬P):pd P=false:=by unfold pd;exact @decide_eq_false _ (Classical.propDecidable _) h
theorem BM1:pd P=true↔P:=by unfold pd;exact @decide_eq_true_iff _ (Classical.propDecidable _)
theorem EJ{a b:Bool}(h:a=b):Ending.returned (.bool a)=.returned (.bool b):=by rw[h]
structure A13(ns:List Nd):Prop where
 few:ns.length≤400
 root:∃r rest,ns=r::rest∧r.p=[47]
 asc:nX ns
def BA3(ns:List Nd)(p:List UInt8):Prop:=(GX ns (BP p)).isSome=true∨AH8 p=7
structure ZG(z:Int)(n:Nd)(ks:Int)(ss:List Int):Prop where
 c0:0≤n.c
 cm:n.c≤n.m
 cq:n.c≤n.q
 mz:n.m≤z
 qz:n.q≤z
 v0:0≤n.v
 v1:n.v≤2147483647
 k0:0≤n.k
 k1:n.k≤2147483647
 kids:n.n=ks
 own:n.o=0∨ks=0∧n.o∈ss
structure BA4(z:Int)(ns:List Nd)(ss:List Int)(n:Nd):Prop where
 data:n.d.length≤256
 held:BA3 ns n.p
 sound:ZG z n (JF ns n.p) ss
theorem C69{q:List UInt8}(h:bl [47] q=true):q≠[]:=by rintro rfl;simp[bl,Op.bytesLess]at h
theorem qM(h:A13 ns)(hn:n∈ns):n.p≠[]:=by
 obtain⟨r,rest,rfl,hr⟩:=h.root;rcases List.mem_cons.1 hn with rfl|hn
 ·rw[hr];simp
 ·have:=(List.pairwise_cons.1 h.asc).1 n hn;rw[hr]at this;exact C69 this
theorem UM:MQ t↔FT t.z=true∧A13 t.ns∧kR t.ss∧(∀n∈t.ns,BA4 t.z t.ns t.ss n)∧∀r,t.ns[0]?=some r→r.o=0:=by
 constructor
 ·intro g;obtain⟨r,rest,hr,hp,ho⟩:=g.nod.root;refine⟨g.zx,⟨g.nod.few,⟨r,rest,hr,hp⟩,g.nod.asc⟩,g.ses,fun n hn=>?_,fun r' h=>by rw[hr]at h;simp at h;rw[←h];exact ho⟩;have k:=g.nod.ok n hn;refine⟨k.data,?_,⟨k.c0,k.cm,k.cq,k.mz,k.qz,k.v0,k.v1,k.k0,g.cap n hn,k.kids,?_⟩⟩
  ·by_cases h:n.p=[47]
   ·exact .inr (by rw[h];exact oJ)
   ·obtain⟨u,hu,he⟩:=k.up h;exact .inl (by rw[←he,WV g.nod.asc hu];rfl)
  ·rcases k.own with h|⟨h1,h2⟩
   ·exact .inl h
   ·exact .inr ⟨by rw[←k.kids];exact h2,h1⟩
 ·rintro⟨hz,ho,hs,hp,hr⟩;refine⟨hz,hs,⟨ho.few,?_,ho.asc,fun n hn=>?_⟩,fun n hn=>(hp n hn).sound.k1⟩
  ·obtain⟨r,rest,h1,h2⟩:=ho.root;exact⟨r,rest,h1,h2,hr r (by rw[h1];rfl)⟩
  ·have k:=hp n hn;have s:=k.sound;have hg:DU n.p=true∧(n.p≠[47]→∃u∈t.ns,u.p=BP n.p):=by
    rcases k.held with h|h
    ·obtain⟨u,hu⟩:=Option.isSome_iff_exists.1 h;obtain⟨hu1,hu2⟩:=UD hu;have hne:BP n.p≠[]:=by rw[←hu2];exact qM ho hu1
     cases hb:DU n.p with
     |false=>exact absurd (WU hb) hne
     |true=>exact⟨rfl,fun _=>⟨u,hu1,hu2⟩⟩
    ·cases hb:DU n.p with
     |false=>rw[zC hb]at h;omega
     |true=>
      by_cases h1:n.p=[47]
      ·exact⟨rfl,fun h2=>absurd h1 h2⟩
      ·rw[AK9 hb h1]at h;omega
   refine⟨k.data,hg.1,hg.2,s.c0,s.cm,s.cq,s.mz,s.qz,s.v0,s.v1,s.k0,s.kids,?_⟩;rcases s.own with h|⟨h1,h2⟩
   ·exact .inl h
   ·exact .inr ⟨h2,by rw[s.kids];exact h1⟩
def A14(ns:List Nd)(k:Nat):Prop:=∀i,i<k→∀a b,ns[i]?=some a→ns[i+1]?=some b→bl a.p b.p=true
theorem AR2(h:A14 ns k){a b:Nd}(ha:ns[k]?=some a)(hb:ns[k+1]?=some b)(hl:bl a.p b.p=true):A14 ns (k+1):=by
 intro i hi x y hx hy;by_cases e:i=k
 ·subst e;rw[ha]at hx;rw[hb]at hy;cases hx;cases hy;exact hl
 ·exact h i (by omega) x y hx hy
theorem wH(h:A14 ns k)(hk:ns.length≤k+1):nX ns:=by
 have step:∀j i,(hij:i<j)→∀ (hj:j<ns.length),bl (ns[i]'(Nat.lt_trans hij hj)).p ns[j].p=true:=by
  intro j
  induction j with
  |zero=>intro i hi;omega
  |succ j ih=>
   intro i hi hj;have h1:=h j (by omega) ns[j] ns[j+1] (by simp) (by simp);by_cases e:i=j
   ·subst e;exact h1
   ·exact MX _ _ _ (ih i (by omega) (by omega)) h1
 exact List.pairwise_iff_getElem.2 fun i j hi hj hij=>step j i hij hj
theorem BA5(h:nX ns){i:Nat}{a b:Nd}(ha:ns[i]?=some a)(hb:ns[i+1]?=some b):bl a.p b.p=true:=by
 obtain⟨h1,rfl⟩:=List.getElem?_eq_some_iff.1 ha;obtain⟨h2,rfl⟩:=List.getElem?_eq_some_iff.1 hb;exact List.pairwise_iff_getElem.1 h i (i+1) h1 h2 (by omega)
theorem VT(v:Value)(ns:List Nd)(w:World)(hv:BZ w v ns):
  Calls prog 173 #[v] w (R0 w (.bool (pd (A13 ns)))):=by
 rcases hv with⟨a,cap,rfl,rfl,_⟩|⟨b,off,cap,rfl,hle,hm,hb,hne,hr⟩
 ·have F:=AA (NH (P:=A13 []) (fun h=>by obtain⟨r,rest,h,_⟩:=h.root;cases h)).symm;go_enter func173,ntmps173;go_wp2_with fail;go_ret;exact⟨EJ (A8 F),Below.refl _ _⟩
 ·obtain⟨r,rest,rfl⟩:∃r rest,ns=r::rest:=by
   cases ns with
   |nil=>exact absurd rfl hne
   |cons r rest=>exact⟨r,rest,rfl⟩
  have e0:=hr.n0 (i:=0) (x:=r) rfl;have H:=AA hr;simp only[List.length_cons]at hle⊢;simp only[maxLen]at hm;clear hr hne;by_cases hl:rest.length+1≤400
  ·by_cases hp:r.p=[47]
   ·have hp2:(r.p==[47])=true:=by rw[hp];rfl
    have HL:=AA hl;have HP:=AA hp;clear hp;simp only[Nat.zero_mul,Nat.add_zero]at e0;by_cases hc1:cap=1
    ·obtain rfl:rest=[]:=List.eq_nil_of_length_eq_zero (by omega);subst hc1;have T:=AA (OE (P:=A13 [r]) ⟨by simp,⟨r,[],rfl,A8 HP⟩,List.pairwise_singleton _ _⟩).symm;clear hle hl;simp only[List.length_nil];go_enter func173,ntmps173;go_wp2_with fail
     go_loopg [23] 1 (fun _ s23 wr=>s23=I0 0∧wr=w)
     case atStart=>exact⟨rfl,rfl⟩
     case round=>
      obtain⟨rfl,rfl⟩:=hrel;go_wp2_with fail;go_ret;exact⟨EJ (A8 T),Below.refl _ _⟩
    ·go_enter func173,ntmps173;go_wp2_with fail
     go_loopg [23] rest.length (fun kx s23 wr=>∃k:Nat,s23=I0 k∧k≤rest.length∧rest.length-k≤kx∧Hid (B0 w wr)∧Hid (A14 (r::rest) k))
     case atStart=>exact⟨0,rfl,Nat.zero_le _,Nat.le_refl _,AA (Below.refl _ _),AA (fun i hi=>absurd hi (Nat.not_lt_zero _))⟩
     case round=>
      obtain⟨k,rfl,hk,hg,hB,hR⟩:=hrel;by_cases hlt:k<rest.length
      ·obtain⟨x,hx⟩:∃x,(r::rest)[k+1]?=some x:=⟨_,List.getElem?_eq_getElem (by simp;omega)⟩;obtain⟨y,hy⟩:∃y,(r::rest)[k]?=some y:=⟨_,List.getElem?_eq_getElem (by simp;omega)⟩;have q:=(A8 H).kept (A8 hB) hb;have d0:=q.n0 hx;have d1:=q.n1 hx;have d2:=q.n2 hx;have d3:=q.n3 hx;have d4:=q.n4 hx;have d5:=q.n5 hx;have d6:=q.n6 hx;have d7:=q.n7 hx;have d8:=q.n8 hx;have c0:=q.n0 hy;have hbw:b<wr.heap.size:=Nat.lt_of_lt_of_le hb (A8 hB).size;have hofs:off+9+k*9=off+(k+1)*9:=by omega
       rw[←hofs]at d0 d1 d2 d3 d4 d5 d6 d7 d8;clear hofs;have hk1:(k:Int)<(rest.length:Int)+1:=by omega
       cases hbl:bl y.p x.p with
       |true=>
        have R2:=AA (AR2 (A8 hR) hy hx hbl);have hbl1:Op.bytesLess x.p y.p=false:=JR hbl;have hbl2:(x.p==y.p)=false:=by simpa using (SH hbl).symm
        clear hx hy q hbl;go_wp2_with fail;go_region;go_wp2_with fail
        go_roundg (rest.length-(k+1))
        case measure=>omega
        case rel=>exact⟨k+1,rfl,by omega,Nat.le_refl _,AA (AL (A8 hB) ((AB _ _).drew)),R2⟩
       |false=>
        have F:=AA (NH (P:=A13 (r::rest)) (fun h=>by have:=BA5 h.asc hy hx;rw[hbl]at this;cases this)).symm;clear hx hy q
        cases hb1:bl x.p y.p with
        |true=>
         have hbl1:Op.bytesLess x.p y.p=true:=hb1;clear hbl hb1;go_wp2_with fail;go_region;go_wp2_with fail;go_ret;exact⟨EJ (A8 F),AL (A8 hB) ((AB _ _).drew)⟩
        |false=>
         have hbl1:Op.bytesLess x.p y.p=false:=hb1;have hbl2:(x.p==y.p)=true:=by simpa using OT _ _ hb1 hbl
         clear hbl hb1;go_wp2_with fail;go_region;go_wp2_with fail;go_ret;exact⟨EJ (A8 F),AL (A8 hB) ((AB _ _).drew)⟩
      ·obtain rfl:k=rest.length:=by omega
       go_wp2_with fail;go_ret;exact⟨EJ (OE (P:=A13 (r::rest)) ⟨A8 HL,⟨r,rest,rfl,A8 HP⟩,wH (A8 hR) (by simp)⟩).symm,A8 hB⟩
   ·have hp2:(r.p==[47])=false:=by simpa using hp
    have F:=AA (NH (P:=A13 (r::rest)) (fun h=>by obtain⟨r',s',h1,h2⟩:=h.root;cases h1;exact hp h2)).symm;clear hp;simp only[Nat.zero_mul,Nat.add_zero]at e0;go_enter func173,ntmps173;go_wp2_with fail;go_ret;exact⟨EJ (A8 F),Below.refl _ _⟩
  ·have F:=AA (NH (P:=A13 (r::rest)) (fun h=>hl (by simpa using h.few))).symm;go_enter func173,ntmps173;go_wp2_with fail;go_ret;exact⟨EJ (A8 F),Below.refl _ _⟩
def MS(ss:List Int):Nat→Int
 |0=>1
 |k+1=>ss.getD k 0+1
def OkS(ss:List Int)(k:Nat):Prop:=∀i,i<k→∀x,ss[i]?=some x→MS ss i≤x∧x≤2147483647
theorem BA6(h:OkS ss k){x:Int}(hx:ss[k]?=some x)(h1:MS ss k≤x)(h2:x≤2147483647):OkS ss (k+1):=by
 intro i hi y hy;by_cases e:i=k
 ·subst e;rw[hx]at hy;cases hy;exact⟨h1,h2⟩
 ·exact h i (by omega) y hy
theorem TK{x:Int}(hx:ss[k]?=some x):MS ss (k+1)=x+1:=by simp[MS,List.getD,hx]
theorem BA7(h:kR ss){x:Int}(hx:ss[k]?=some x):MS ss k≤x∧x≤2147483647:=by
 have hb:=h.2 x (List.mem_of_getElem? hx);refine⟨?_,hb.2⟩
 cases k with
 |zero=>simp only[MS];omega
 |succ k=>
  obtain⟨h1,rfl⟩:=List.getElem?_eq_some_iff.1 hx;rw[TK (List.getElem?_eq_getElem (show k<ss.length by omega))];have:=List.pairwise_iff_getElem.1 h.1 k (k+1) (by omega) h1 (by omega);omega
theorem BA8(h:OkS ss ss.length):kR ss:=by
 have step:∀j i,(hij:i<j)→∀ (hj:j<ss.length),ss[i]'(Nat.lt_trans hij hj)<ss[j]:=by
  intro j
  induction j with
  |zero=>intro i hi;omega
  |succ j ih=>
   intro i hi hj;have h1:=(h (j+1) hj _ (List.getElem?_eq_getElem hj)).1;rw[TK (List.getElem?_eq_getElem (show j<ss.length by omega))]at h1;by_cases e:i=j
   ·subst e;omega
   ·have:=ih i (by omega) (by omega);omega
 have pos:∀i,(hi:i<ss.length)→1≤ss[i]:=by
  intro i
  induction i with
  |zero=>intro hi;exact(h 0 hi _ (List.getElem?_eq_getElem hi)).1
  |succ i ih=>intro hi;have:=step (i+1) i (by omega) hi;have:=ih (by omega);omega
 refine⟨List.pairwise_iff_getElem.2 fun i j hi hj hij=>step j i hij hj,fun s hs=>?_⟩;obtain⟨i,hi,rfl⟩:=List.getElem_of_mem hs;exact⟨pos i hi,(h i hi _ (List.getElem?_eq_getElem hi)).2⟩
theorem ZH(v:Value)(ss:List Int)(w:World)(hv:BZ w v ss)(hi:∀s∈ss,-9223372036854775808≤s∧s≤9223372036854775807):
  Calls prog 174 #[v] w fun e w'=>e=.returned (.bool (pd (kR ss)))∧w'=w:=by
 have T:=AA (fun h:OkS ss ss.length=>(OE (BA8 h)).symm);have F:=AA (fun(k:Nat) (x:Int) (hx:ss[k]?=some x) (h:¬ (MS ss k≤x∧x≤2147483647))=>(NH (fun g:kR ss=>h (BA7 g hx))).symm);have HI:=AA hi;clear hi;generalize pd (kR ss)=fin at T F⊢;have R:∀k x,ss[k]?=some x→∃b off cap,v=.slice (some ⟨b,off,none⟩) ss.length cap∧w.cell? ⟨b,off+k,none⟩=some (I0 x):=fun k x hx=>by
  obtain⟨b,off,cap,rfl,_,hr,_,_⟩:=JG hv (by rintro rfl;simp at hx);exact⟨b,off,cap,rfl,hr.i0 hx⟩
 have HR:=AA R;have hml:ss.length≤9223372036854775807:=by
  rcases hv with⟨a,cap,rfl,rfl,_⟩|⟨b,off,cap,rfl,h1,h2,_⟩
  ·simp
  ·simp only[maxLen]at h2;omega
 obtain⟨a,c,rfl⟩:=AU hv;clear R hv;go_enter func174,ntmps174;go_wp2_with fail
 go_loopg [3,8] ss.length (fun kx s3 s8 wr=>∃k:Nat,s3=I0 (MS ss k)∧s8=I0 k∧k≤ss.length∧ss.length-k≤kx∧wr=w∧Hid (OkS ss k))
 case atStart=>exact⟨0,rfl,rfl,Nat.zero_le _,Nat.le_refl _,rfl,AA (fun i hi=>absurd hi (Nat.not_lt_zero _))⟩
 case round=>
  obtain⟨k,rfl,rfl,hk,hg,rfl,hO⟩:=hrel;by_cases hlt:k<ss.length
  ·obtain⟨x,hx⟩:∃x,ss[k]?=some x:=⟨_,List.getElem?_eq_getElem hlt⟩;obtain⟨b,off,cap,hv,e0⟩:=A8 HR k x hx;have hbx:=A8 HI x (List.mem_of_getElem? hx);simp only[Value.slice.injEq]at hv;obtain⟨rfl,_,rfl⟩:=hv;have HX:=AA hx;clear hx;have LS:=AA (TK (A8 HX));by_cases h1:MS ss k≤x
   ·by_cases h2:x≤2147483647
    ·have O2:=AA (BA6 (A8 hO) (A8 HX) h1 h2);generalize MS ss k=ls at h1;go_wp2_with fail
     go_roundg (ss.length-(k+1))
     case measure=>omega
     case rel=>exact⟨k+1,by rw[A8 LS],rfl,by omega,Nat.le_refl _,rfl,O2⟩
    ·have G:=AA (A8 F k x (A8 HX) (by omega));generalize MS ss k=ls at h1;go_wp2_with fail;go_ret;exact⟨EJ (A8 G),rfl⟩
   ·have G:=AA (A8 F k x (A8 HX) (by omega));generalize MS ss k=ls at h1;go_wp2_with fail;go_ret;exact⟨EJ (A8 G),rfl⟩
  ·obtain rfl:k=ss.length:=by omega
   have G:=AA (A8 T (A8 hO));go_wp2_with fail;go_ret;exact⟨EJ (A8 G),rfl⟩
theorem BA9(v:Value)(ns:List Nd)(p:List UInt8)(w:World)(hv:BZ w v ns)(ha:A13 ns):
  Calls prog 176 #[v,S0 p] w (R0 w (.bool (pd (BA3 ns p)))):=by
 have C:∀W:World,B0 w W→∃i:Nat,Calls prog 109 #[v,S0 (BP p)] W (R0 W (.tuple #[I0 i,.bool (GX ns (BP p)).isSome])):=fun W hW=>by
  obtain⟨i,_,h⟩:=qA v ns (BP p) W (hv.next hW) (by have:=ha.few;omega) ha.asc;exact⟨i,h⟩
 have C':=AA C;have F:pd (BA3 ns p)=((GX ns (BP p)).isSome||AH8 p==7):=by
  cases h:(GX ns (BP p)).isSome with
  |true=>exact OE (.inl h)
  |false=>
   by_cases h2:AH8 p=7
   ·rw[OE (.inr h2),h2];rfl
   ·rw[NH (fun hh=>hh.elim (fun h1=>by rw[h]at h1;cases h1) h2)];simp[h2]
 rw[F];obtain⟨a,c,rfl⟩:=AU hv;have CS:=fun W=>J7 p W;clear C hv ha F;generalize (GX ns (BP p)).isSome=hd at C'⊢;generalize BP p=dp at C' CS;generalize JE p=sp at CS;generalize AH8 p=ep at CS⊢;generalize ns.length=nl at C'⊢;go_enter func176,ntmps176;go_wp2_with fail;refine(CS _).mono ?_;rintro e w1 ⟨rfl,hb1⟩;go_wp2_with fail;obtain⟨i,C2⟩:=A8 C' _ hb1;refine C2.mono ?_;rintro e w2 ⟨rfl,hb2⟩;have hB:=AL hb1 hb2;clear CS C2 C' hb1 hb2
 cases hd with
 |true=>
  go_wp2_with fail;go_ret;exact⟨rfl,hB⟩
 |false=>
  go_wp2_with fail;go_ret;exact⟨rfl,hB⟩
theorem AR3(z:Int)(vn vs:Value)(n:Nd)(kids:Int)(ss:List Int)(w:World)(hv:BZ w vs ss)(hs:kR ss):
  Calls prog 177 #[.agg #[I0 z,vn,vs],BR2 n,I0 kids] w (R0 w (.bool (pd (ZG z n kids ss)))):=by
 have CO:∀W:World,B0 w W→Calls prog 14 #[.agg #[I0 z,vn,vs],I0 n.o] W (R0 W (.bool (decide (n.o∈ss)))):=fun W hW=>TF z vn vs ss n.o W (hv.next hW) hs;have C':=AA CO;have F:=AA (fun h:¬ZG z n kids ss=>(NH h).symm);have T:=AA (fun h:ZG z n kids ss=>(OE h).symm);have SP:=AA (Iff.intro (fun h:ZG z n kids ss=>And.intro h.c0 (And.intro h.cm (And.intro h.cq (And.intro h.mz (And.intro h.qz (And.intro h.v0 (And.intro h.v1 (And.intro h.k0 (And.intro h.k1 (And.intro h.kids h.own)))))))))) (fun⟨a,b,c,d,e,f,g,h,i,j,k⟩=>(⟨a,b,c,d,e,f,g,h,i,j,k⟩:ZG z n kids ss)));generalize pd (ZG z n kids ss)=fin at F T⊢;obtain⟨a,c,rfl⟩:=AU hv;clear CO hv hs;unfold BR2;obtain⟨np,nd,nc,nm,nq,nv,nk,no,nn⟩:=n;simp only at C' SP⊢;go_enter func177,ntmps177;go_wp2_with fail;go_region;go_wp2_with fail
 all_goals try simp only[bne_iff_ne,ne_eq,bne_eq_false_iff_eq]at*
 all_goals (first
  |(go_ret;exact⟨EJ (A8 F (fun h=>by have:=(A8 SP).1 h;omega)),(((Below.refl _ _).alloc (Nat.le_refl _) _).alloc (by simp) _).drew⟩)
  |(go_ret;exact⟨EJ (A8 T ((A8 SP).2 (by omega))),(((Below.refl _ _).alloc (Nat.le_refl _) _).alloc (by simp) _).drew⟩)
  |(go_ret;exact⟨EJ ((beq_eq_false_iff_ne.2 (by assumption)).trans (A8 F (fun h=>by rcases((A8 SP).1 h).2.2.2.2.2.2.2.2.2.2 with h|h<;>omega))),(((Below.refl _ _).alloc (Nat.le_refl _) _).alloc (by simp) _).drew⟩)
  |skip)
 refine(A8 C' _ ((((Below.refl _ _).alloc (Nat.le_refl _) _).alloc (by simp) _).drew)).mono ?_;rintro e w1 ⟨rfl,hb1⟩;have hB:=AL ((((Below.refl w.heap.size w).alloc (Nat.le_refl _) _).alloc (by simp) _).drew) hb1;by_cases hmem:no∈ss
 ·have G:=AA (A8 T ((A8 SP).2 ⟨by omega,by omega,by omega,by omega,by omega,by omega,by omega,by omega,by omega,by omega,.inr ⟨by omega,hmem⟩⟩));go_wp2_with fail;go_ret;exact⟨EJ (A8 G),hB⟩
 ·have G:=AA (A8 F (fun h=>by have:=((A8 SP).1 h).2.2.2.2.2.2.2.2.2.2;exact this.elim (fun h=>by omega) (fun h=>hmem h.2)));go_wp2_with fail;go_ret;exact⟨EJ ((beq_eq_false_iff_ne.2 (by assumption)).trans (A8 G)),hB⟩
open Go.WideMaps Go.Maps
theorem CH6:Keyed prog 9:=string_keyed underlying9
theorem C70(w:World):(zeroValue 3).run prog w=.ok (.int .i64 0) w:=by kernel_rfl
def jF(w:World)(B k:Nat)(ns:List Nd):Prop:=
 ∃D:DataW Unit,w.ownsMap prog 9 (plainElem prog 3) B k D∧IsMap D∧∀s:List UInt8,D.atKey (.string s) (.lit (.int .i64 0))=.lit (.int .i64 (JF ns s))
theorem AC3(ns:List Nd)(n:Nd)(s:List UInt8):JF (ns++[n]) s=JF ns s+(if BP n.p=s then 1 else 0):=by
 simp only[JF,List.countP_append,List.countP_cons,List.countP_nil,decide_eq_true_eq];omega
theorem BB0(ns:List Nd)(s:List UInt8):JF ns s≤ns.length:=List.countP_le_length
theorem wI{D:DataW Unit}(hm:IsMap D)(hD:∀s:List UInt8,D.atKey (.string s) (.lit (.int .i64 0))=.lit (.int .i64 (JF ns s)))(s:List UInt8):
  (D.put (.string (BP n.p)) (.lit (.int .i64 (JF ns (BP n.p)+1)))).atKey (.string s) (.lit (.int .i64 0))=.lit (.int .i64 (JF (ns++[n]) s)):=by
 rw[AC3];by_cases e:BP n.p=s
 ·subst e;rw[atKey_put_same hm (show WideAt.IsKeyLit (.string _)from trivial)];simp
 ·rw[atKey_put_other (by simpa using fun h=>e h.symm),hD,if_neg e];simp
theorem wJ(b off cap:Nat)(ns:List Nd)(w:World)(hl:ns.length≤400)(hb:b<w.heap.size)(hr:BM w b off (AO ns)):
  Calls prog 175 #[.slice (some ⟨b,off,none⟩) ns.length cap] w fun e w'=>e=.returned (.map (some w.heap.size))∧jF w' w.heap.size 400 ns∧Below w.heap.size w w':=by
 have H:=AA hr;clear hr;have hmm:= @run_makeMap prog;go_enter func175,ntmps175;go_wp2_with fail
 go_loopg [12] ns.length (fun kx i wr=>∃k:Nat,i=.int .i64 k∧k≤ns.length∧ns.length-k≤kx∧Hid (jF wr w.heap.size k (ns.take k))∧Hid (Below w.heap.size w wr))
 case atStart=>exact⟨0,rfl,Nat.zero_le _,Nat.le_refl _,AA ⟨_,World.ownsMap_made _ _ _ _,isMap_empty,fun s=>by rfl⟩,AA (AB _ _)⟩
 case round=>
  obtain⟨k,rfl,hk,hg,hC,hB⟩:=hrel;by_cases hlt:k<ns.length
  ·obtain⟨x,hx⟩:∃x,ns[k]?=some x:=⟨_,List.getElem?_eq_getElem hlt⟩;have q:=(A8 H).kept (A8 hB) hb;have d0:=q.n0 hx;have d1:=q.n1 hx;have d2:=q.n2 hx;have d3:=q.n3 hx;have d4:=q.n4 hx;have d5:=q.n5 hx;have d6:=q.n6 hx;have d7:=q.n7 hx;have d8:=q.n8 hx;have hbw:b<wr.heap.size:=Nat.lt_of_lt_of_le hb (A8 hB).size;have hts:ns.take (k+1)=ns.take k++[x]:=by rw[List.take_add_one,hx];rfl
   have HT:=AA hts;clear q hx hts;have CS:=fun W=>J7 x.p W;have hdl:(BP x.p).length≤1000:=by
    cases hgb:DU x.p with
    |false=>rw[WU hgb];simp
    |true=>
     by_cases hr:x.p=[47]
     ·rw[hr,PV];simp
     ·obtain⟨a,c,he,hc⟩:=WS hgb;have:=IQ hgb;rw[he]at hgb hr this⊢;rw[WT hgb hr hc,C42]
      split
      ·simp
      ·simp at this;omega
   have HDL:=AA hdl;clear hdl;obtain⟨D,ho,hm,hD⟩:=A8 hC;have HD:=AA hD;have HM:=AA hm;have hc1:=BB0 (ns.take k) (BP x.p);simp only[List.length_take]at hc1;have STEP:=AA (fun s=>wI (n:=x) hm hD s);obtain⟨cn,hcn⟩:∃cn,JF (ns.take k) (BP x.p)=cn:=⟨_,rfl⟩;rw[hcn]at hc1;have HCN:=AA hcn;clear hD hm hcn;generalize hdp:BP x.p=dp at CS HDL;have HDP:=AA hdp;clear hdp;generalize JE x.p=sp at CS;generalize AH8 x.p=ep at CS;go_wp2_with fail;refine(CS _).mono ?_;rintro e w1 ⟨rfl,hb1⟩;have hB1:Below w.heap.size w w1:=AL (A8 hB) (AY hb1);have ho1:w1.ownsMap prog 9 (plainElem prog 3) w.heap.size k D:=by
    have:Below wr.heap.size wr w1:=AY hb1;obtain⟨es,cl,h1,h2⟩:=ho;exact⟨es,cl,(this.block _ (Array.getElem?_eq_some_iff.1 h1).1).trans h1,h2⟩
   have hkey:keyOf prog 9 (.string ⟨dp.toArray⟩)=some (.string dp):=by
    have:=keyOf_string_mk (P:=prog) underlying9 (s:=⟨dp.toArray⟩) (by have:=A8 HDL;simp only[maxLen,ByteArray.size,List.size_toArray];omega);simpa using this
   obtain⟨c,hrun,hat,_⟩:=ho1.lookup_int CH6 underlying232 underlying3 (C70 _) hkey;have hcc:c=(cn:Int):=by
    rw[A8 HD,←A8 HDP,A8 HCN]at hat;simpa using hat.symm
   subst hcc;clear CS hat hb1 ho d0 d1 d2 d3 d4 d5 d6 d7 d8;go_wp2_with (first
    |(at_mapUpdate;refine wpList_mapUpdate_own _ rfl _ _ _ 232 rfl 9 3 CH6 underlying232 _ w.heap.size k _ rfl ho1 (by unfold maxLen;omega) _ _ _ rfl rfl hkey _ [] (plainElem_int underlying3 (WalkArith.wf_i64 (by omega))) ?_)
    |fail)
   intro w2 hown1 hgrow1;have B2:=hB1.grown hgrow1 hB1.size (fun j hj=>by cases hj;exact Nat.le_refl _);have C2:jF w2 w.heap.size (k+1) (ns.take (k+1)):=by
    refine⟨_,hown1,(A8 HM).put _ _,fun s=>?_⟩;rw[A8 HT,←A8 STEP s,A8 HCN,A8 HDP]
   have HC2:=AA C2;have HB2:=AA B2;clear C2 B2 hown1 hgrow1 ho1 hrun hB1;go_wp2_with fail
   go_roundg (ns.length-(k+1))
   case measure=>omega
   case rel=>exact⟨k+1,rfl,by omega,Nat.le_refl _,HC2,HB2⟩
  ·obtain rfl:k=ns.length:=by omega
   go_wp2_with fail;go_ret;obtain⟨D,ho,hm,hD⟩:=A8 hC;exact⟨rfl,⟨D,ho.mono (by omega),hm,fun s=>by rw[hD,List.take_length]⟩,A8 hB⟩
structure WfT(t:Tr):Prop where
 ses:∀s∈t.ss,-9223372036854775808≤s∧s≤9223372036854775807
 BM2:∀n∈t.ns,n.p.length≤140737488355328∧n.d.length≤140737488355328
def OkG(t:Tr)(k:Nat):Prop:=∀i,i<k→∀n,t.ns[i]?=some n→BA4 t.z t.ns t.ss n
theorem BB1(h:OkG t k)(hn:t.ns[k]?=some n)(hp:BA4 t.z t.ns t.ss n):OkG t (k+1):=by
 intro i hi m hm;by_cases e:i=k
 ·subst e;rw[hn]at hm;cases hm;exact hp
 ·exact h i (by omega) m hm
theorem BB2(hz:FT t.z=true)(ho:A13 t.ns)(hs:kR t.ss)(h:OkG t t.ns.length){r:Nd}(hr:t.ns[0]?=some r):PW t=decide (r.o=0):=by
 by_cases h0:r.o=0
 ·rw[decide_eq_true h0,NW,UM];refine⟨hz,ho,hs,fun n hn=>?_,fun r' h=>by rw[hr]at h;cases h;exact h0⟩;obtain⟨i,hi,rfl⟩:=List.getElem_of_mem hn;exact h i hi _ (List.getElem?_eq_getElem hi)
 ·rw[decide_eq_false h0,VL,UM];exact fun g=>h0 (g.2.2.2.2 r hr)
theorem wK(h:¬ (FT t.z=true∧A13 t.ns∧kR t.ss)):PW t=false:=by
 rw[VL,UM];exact fun g=>h ⟨g.1,g.2.1,g.2.2.1⟩
theorem AR4(hn:t.ns[k]?=some n)(h:¬BA4 t.z t.ns t.ss n):PW t=false:=by
 rw[VL,UM];exact fun g=>h (g.2.2.2.1 n (List.mem_of_getElem? hn))
theorem dU{B:Nat}(h:jF w B k ns)(hb:Below w.heap.size w w'):jF w' B k ns:=by
 obtain⟨D,⟨es,cl,h1,h2⟩,h3⟩:=h;exact⟨D,⟨es,cl,(hb.block _ (Array.getElem?_eq_some_iff.1 h1).1).trans h1,h2⟩,h3⟩
theorem AC4(t:Tr)(vn vs:Value)(w:World)(hn:BZ w vn t.ns)(hs:BZ w vs t.ss)(hw:WfT t)(hz:FT t.z=true)(ho:A13 t.ns)(ha:kR t.ss):
  Calls prog 135 #[.agg #[.int .i64 t.z,vn,vs]] w fun e w'=>e=.returned (.bool (PW t))∧Below w.heap.size w w':=by
 have hne:t.ns≠[]:=by obtain⟨r,rest,h,_⟩:=ho.root;rw[h];simp
 obtain⟨r0,hr0⟩:∃r0,t.ns[0]?=some r0:=by obtain⟨r,rest,h,_⟩:=ho.root;exact⟨r,by rw[h];rfl⟩
 have YES:=AA (fun h=>BB2 hz ho ha h hr0);have NO:=AA (fun n k h1 h2=>AR4 (t:=t) (n:=n) (k:=k) h1 h2);have CZ:=fun W=>EO t.z W;rw[hz]at CZ;have CO:=AA (fun W (h:Below w.heap.size w W)=>VT vn t.ns W (hn.next h));have CN:=AA (fun W (h:Below w.heap.size w W)=>ZH vs t.ss W (hs.next h) hw.ses);simp only[OE ho]at CO;simp only[OE ha]at CN;have CH:=AA (fun p W (h:Below w.heap.size w W)=>BA9 vn t.ns p W (hn.next h) ho);have CSD:=AA (fun n k W (h:Below w.heap.size w W)=>AR3 t.z vn vs n k t.ss W (hs.next h) ha);have hl:=ho.few;have SL:=AA hw.BM2;obtain⟨sa,sc,rfl⟩:=AU hs;obtain⟨b,off,cap,rfl,hb,hr,hle,hcm⟩:=JG hn hne;have H:=AA hr;have CC:=AA (fun W (h:Below w.heap.size w W)=>wJ b off cap t.ns W hl (Nat.lt_of_lt_of_le hb h.size) (hr.kept h hb));have HR0:=AA hr0;have hpos:0<t.ns.length:=List.length_pos_iff.2 hne;clear hn hs hw hz ho ha hne hr hr0;generalize PW t=fin at YES NO⊢;go_enter func135,ntmps135;go_wp2_with fail;refine(CZ _).mono ?_;rintro e w0 ⟨rfl,rfl⟩;have B0:=AB w (.cells #[.int .i64 t.z,.slice (some ⟨b,off,none⟩) t.ns.length cap,.slice sa t.ss.length sc] 45);generalize hW0:w.alloc (.cells #[.int .i64 t.z,.slice (some ⟨b,off,none⟩) t.ns.length cap,.slice sa t.ss.length sc] 45)=W0 at*;have b0:W0.cell? ⟨w.heap.size,0,none⟩=some (.int .i64 t.z):=by rw[←hW0];simp
 have b1:W0.cell? ⟨w.heap.size,1,none⟩=some (.slice (some ⟨b,off,none⟩) t.ns.length cap):=by rw[←hW0];simp
 have b2:W0.cell? ⟨w.heap.size,2,none⟩=some (.slice sa t.ss.length sc):=by rw[←hW0];simp
 have hsz:w.heap.size<W0.heap.size:=by rw[←hW0];simp
 have BX:=AA (fun W (h:Below W0.heap.size W0 W)=>(⟨(h.cell (p:=⟨w.heap.size,0,none⟩) hsz).trans b0,(h.cell (p:=⟨w.heap.size,1,none⟩) hsz).trans b1,(h.cell (p:=⟨w.heap.size,2,none⟩) hsz).trans b2⟩:W.cell? ⟨w.heap.size,0,none⟩=some (.int .i64 t.z)∧W.cell? ⟨w.heap.size,1,none⟩=some (.slice (some ⟨b,off,none⟩) t.ns.length cap)∧W.cell? ⟨w.heap.size,2,none⟩=some (.slice sa t.ss.length sc)));clear hW0;go_wp2_with fail;refine(A8 CO _ B0).mono ?_;rintro e w1 ⟨rfl,hb1⟩;obtain⟨c0,c1,c2⟩:=A8 BX w1 hb1;clear b0 b1 b2;go_wp2_with fail;refine(A8 CN _ (AL B0 hb1)).mono ?_;rintro e w2 ⟨rfl,rfl⟩;go_wp2_with fail;refine(A8 CC _ (AL B0 hb1)).mono ?_;rintro e w3 ⟨rfl,hC3,hb3⟩;have hb3':=AL hb1 hb3;obtain⟨d0,d1,d2⟩:=A8 BX w3 hb3';have HC:=AA hC3;clear c0 c1 c2 CO CN CC CZ hC3;go_wp2_with fail
 go_loopg [28] t.ns.length (fun kx i wr=>∃k:Nat,i=.int .i64 k∧k≤t.ns.length∧t.ns.length-k≤kx∧Hid (Below W0.heap.size W0 wr)∧Hid (jF wr w2.heap.size 400 t.ns)∧Hid (OkG t k))
 case atStart=>exact⟨0,rfl,Nat.zero_le _,Nat.le_refl _,AA hb3',HC,AA (fun i hi=>absurd hi (Nat.not_lt_zero _))⟩
 case round=>
  obtain⟨k,rfl,hk,hg,hB,hC,hO⟩:=hrel;obtain⟨x0,x1,x2⟩:=A8 BX wr (A8 hB);clear d0 d1 d2;by_cases hlt:k<t.ns.length
  ·obtain⟨x,hx⟩:∃x,t.ns[k]?=some x:=⟨_,List.getElem?_eq_getElem hlt⟩;have hBw:Below w.heap.size w wr:=AL B0 (A8 hB);have q:=(A8 H).kept hBw hb;have d0:=q.n0 hx;have d1:=q.n1 hx;have d2:=q.n2 hx;have d3:=q.n3 hx;have d4:=q.n4 hx;have d5:=q.n5 hx;have d6:=q.n6 hx;have d7:=q.n7 hx;have d8:=q.n8 hx;have hbw:b<wr.heap.size:=Nat.lt_of_lt_of_le hb hBw.size;have hww:w.heap.size<wr.heap.size:=Nat.lt_of_lt_of_le hsz (A8 hB).size;have sl:=A8 SL x (List.mem_of_getElem? hx);have sld:=sl.2;have HX:=AA hx;have SLP:=AA sl.1;clear q hx sl;by_cases hd:x.d.length≤256
   ·have HD:=AA hd
    cases hh:pd (BA3 t.ns x.p)with
    |false=>
     have G:=AA (A8 NO x k (A8 HX) (fun p=>by have:=OE p.held;rw[hh]at this;cases this));go_wp2_with fail;refine(A8 CH x.p _ (AL hBw (AB _ _))).mono ?_;rintro e w4 ⟨rfl,hb4⟩;have hB4:=AL hBw (AY hb4);rw[hh];clear hb4 d0 d1 d2 d3 d4 d5 d6 d7 d8 x0 x1 x2;go_wp2_with fail;go_ret;exact⟨EJ (A8 G).symm,hB4⟩
    |true=>
     have HH:=AA hh;go_wp2_with fail;refine(A8 CH x.p _ (AL hBw (AB _ _))).mono ?_;rintro e w4 ⟨rfl,hb4⟩;have hB4:=AL hBw (AY hb4);have hB40:=AL (A8 hB) (AY hb4);rw[hh];clear hh;have r:=fun(j:Nat) (hj:j<9)=>hb4.cell (p:=⟨wr.heap.size,j,none⟩) (by simp);have y0:w4.cell? ⟨wr.heap.size,0,none⟩=some (.string ⟨x.p.toArray⟩):=by rw[r 0 (by omega)];simp
     have y2:w4.cell? ⟨wr.heap.size,2,none⟩=some (.int .i64 x.c):=by rw[r 2 (by omega)];simp
     have y3:w4.cell? ⟨wr.heap.size,3,none⟩=some (.int .i64 x.m):=by rw[r 3 (by omega)];simp
     have y4:w4.cell? ⟨wr.heap.size,4,none⟩=some (.int .i64 x.q):=by rw[r 4 (by omega)];simp
     have y5:w4.cell? ⟨wr.heap.size,5,none⟩=some (.int .i64 x.v):=by rw[r 5 (by omega)];simp
     have y6:w4.cell? ⟨wr.heap.size,6,none⟩=some (.int .i64 x.k):=by rw[r 6 (by omega)];simp
     have y7:w4.cell? ⟨wr.heap.size,7,none⟩=some (.int .i64 x.o):=by rw[r 7 (by omega)];simp
     have y8:w4.cell? ⟨wr.heap.size,8,none⟩=some (.int .i64 x.n):=by rw[r 8 (by omega)];simp
     obtain⟨z0,z1,z2⟩:=A8 BX w4 hB40;have hC4:=dU (A8 hC) (AY hb4);have HC4:=AA hC4;obtain⟨D,ho4,_,hD⟩:=hC4;have hkey:keyOf prog 9 (.string ⟨x.p.toArray⟩)=some (.string x.p):=by
      have:=keyOf_string_mk (P:=prog) underlying9 (s:=⟨x.p.toArray⟩) (by have:=A8 SLP;simp only[maxLen,ByteArray.size,List.size_toArray];omega);simpa using this
     obtain⟨c,hrun,hat,_⟩:=ho4.lookup_int CH6 underlying232 underlying3 (C70 _) hkey;have hcc:c=(JF t.ns x.p:Int):=by
      rw[hD]at hat;simpa using hat.symm
     subst hcc;clear r hat hD ho4 hkey hb4 d0 d1 d2 d3 d4 d5 d6 d7 d8 x0 x1 x2;have CSX:=A8 CSD x (JF t.ns x.p) w4 hB4;unfold BR2 at CSX
     cases hs:pd (ZG t.z x (JF t.ns x.p) t.ss)with
     |false=>
      have G:=AA (A8 NO x k (A8 HX) (fun p=>by have:=OE p.sound;rw[hs]at this;cases this));rw[hs]at CSX;clear hs;go_wp2_with fail;refine CSX.mono ?_;rintro e w5 ⟨rfl,hb5⟩;have hB5:=AL hB4 hb5;clear CSX hrun z0 z1 z2 y0 y2 y3 y4 y5 y6 y7 y8;go_wp2_with fail;go_ret;exact⟨EJ (A8 G).symm,hB5⟩
     |true=>
      have O2:=AA (BB1 (A8 hO) (A8 HX) ⟨A8 HD,BM1.1 (A8 HH),BM1.1 hs⟩);rw[hs]at CSX;clear hs;go_wp2_with fail;refine CSX.mono ?_;rintro e w5 ⟨rfl,hb5⟩;have HB5:=AA (AL hB40 hb5);have HC5:=AA (dU (A8 HC4) hb5);clear CSX hrun z0 z1 z2 y0 y2 y3 y4 y5 y6 y7 y8 hb5;go_wp2_with fail
      go_roundg (t.ns.length-(k+1))
      case measure=>omega
      case rel=>exact⟨k+1,rfl,by omega,Nat.le_refl _,HB5,HC5,O2⟩
   ·have G:=AA (A8 NO x k (A8 HX) (fun p=>hd p.data));go_wp2_with fail;go_ret;exact⟨EJ (A8 G).symm,AL hBw (AB _ _)⟩
  ·obtain rfl:k=t.ns.length:=by omega
   have hBw:Below w.heap.size w wr:=AL B0 (A8 hB);have d7:=((A8 H).kept hBw hb).n7 (A8 HR0);have G:=AA (A8 YES (A8 hO));simp only[Nat.zero_mul,Nat.add_zero]at d7;go_wp2_with fail;go_ret;exact⟨EJ ((A8 G).trans (by rfl)).symm,hBw⟩
theorem XK(t:Tr)(vn vs:Value)(w:World)(hn:BZ w vn t.ns)(hs:BZ w vs t.ss)(hw:WfT t):
  Calls prog 135 #[.agg #[I0 t.z,vn,vs]] w (R0 w (.bool (PW t))):=by
 by_cases hz:FT t.z=true
 ·by_cases ho:A13 t.ns
  ·by_cases ha:kR t.ss
   ·exact AC4 t vn vs w hn hs hw hz ho ha
   ·have F:=AA (wK (t:=t) (fun h=>ha h.2.2)).symm;have CZ:=fun W=>EO t.z W;rw[hz]at CZ;have CO:=AA (fun W (h:B0 w W)=>VT vn t.ns W (hn.next h));have CN:=AA (fun W (h:B0 w W)=>ZH vs t.ss W (hs.next h) hw.ses);simp only[OE ho]at CO;simp only[NH ha]at CN;obtain⟨na,nc,rfl⟩:=AU hn;obtain⟨sa,sc,rfl⟩:=AU hs;clear hn hs hw hz ho ha;go_enter func135,ntmps135;go_wp2_with fail;refine(CZ _).mono ?_;rintro e w0 ⟨rfl,rfl⟩;go_wp2_with fail;refine(A8 CO _ (AB _ _)).mono ?_;rintro e w1 ⟨rfl,hb1⟩;have c2:w1.cell? ⟨w.heap.size,2,none⟩=some (.slice sa t.ss.length sc):=by rw[hb1.cell (p:=⟨w.heap.size,2,none⟩) (by simp)];simp
    have HB:=AA (AY hb1);clear hb1;go_wp2_with fail;refine(A8 CN _ (A8 HB)).mono ?_;rintro e w2 ⟨rfl,rfl⟩;go_wp2_with fail;go_ret;exact⟨EJ (A8 F),A8 HB⟩
  ·have F:=AA (wK (t:=t) (fun h=>ho h.2.1)).symm;have CZ:=fun W=>EO t.z W;rw[hz]at CZ;have CO:=AA (fun W (h:B0 w W)=>VT vn t.ns W (hn.next h));simp only[NH ho]at CO;obtain⟨na,nc,rfl⟩:=AU hn;obtain⟨sa,sc,rfl⟩:=AU hs;clear hn hs hw hz ho;go_enter func135,ntmps135;go_wp2_with fail;refine(CZ _).mono ?_;rintro e w0 ⟨rfl,rfl⟩;go_wp2_with fail;refine(A8 CO _ (AB _ _)).mono ?_;rintro e w1 ⟨rfl,hb1⟩;have HB:=AA (AY hb1);clear hb1;go_wp2_with fail;go_ret;exact⟨EJ (A8 F),A8 HB⟩
 ·have F:=AA (wK (t:=t) (fun h=>hz h.1)).symm;have hz':FT t.z=false:=by simpa using hz
  have CZ:=fun W=>EO t.z W;rw[hz']at CZ;obtain⟨na,nc,rfl⟩:=AU hn;obtain⟨sa,sc,rfl⟩:=AU hs;clear hn hs hw hz hz';go_enter func135,ntmps135;go_wp2_with fail;refine(CZ _).mono ?_;rintro e w0 ⟨rfl,rfl⟩;go_wp2_with fail;go_ret;exact⟨EJ (A8 F),AB _ _⟩
theorem AR5(h:PW t=false):RZ t x=3:=by rw[RZ,if_pos h]
theorem BT5(h:PW t=true)(h1:gdE x≠0):RZ t x=gdE x:=by rw[RZ,if_neg (by simp[h]),if_pos h1]
theorem BB3(h:PW t=true)(h1:gdE x=0):RZ t x=(if x.z≤t.z then 13 else if x.o=1∧x.s∈t.ss then 8 else if x.o≠1∧x.s∉t.ss then 12 else 0):=by
 rw[RZ,if_neg (by simp[h]),if_neg (by omega)]
theorem wM(t:Tr)(vn vs:Value)(x:AQ)(w:World)(hn:BZ w vn t.ns)(hs:BZ w vs t.ss)(hw:WfT t)(hg:PW t=false):
  Calls prog 180 #[.agg #[I0 t.z,vn,vs],DX x] w (R0 w (I0 3)):=by
 have CG:=AA (fun W (hW:B0 w W)=>XK t vn vs W (hn.next hW) (hs.next hW) hw);rw[hg]at CG;obtain⟨na,nc,rfl⟩:=AU hn;obtain⟨sa,sc,rfl⟩:=AU hs;clear hn hs hw hg;obtain⟨xz,xo,xs,xp,xd,xv,xw⟩:=x;unfold DX;go_enter func180,ntmps180;go_wp2_with fail;refine(A8 CG _ (AL (AB _ _) (AB _ _))).mono ?_;rintro e w1 ⟨rfl,hb1⟩;have HB:=AA (AL (AL (AB _ _) (AB _ _)) hb1);clear hb1;go_wp2_with fail;go_ret;exact⟨rfl,A8 HB⟩
theorem AR6(t:Tr)(vn vs:Value)(x:AQ)(w:World)(hn:BZ w vn t.ns)(hs:BZ w vs t.ss)(hw:WfT t)(hd:x.d.length≤140737488355328)(hg:PW t=true)(hx:gdE x≠0):
  Calls prog 180 #[.agg #[I0 t.z,vn,vs],DX x] w (R0 w (I0 (gdE x))):=by
 have CG:=AA (fun W (hW:B0 w W)=>XK t vn vs W (hn.next hW) (hs.next hW) hw);rw[hg]at CG;have CW:=AA (fun W=>TJ x W hd);obtain⟨na,nc,rfl⟩:=AU hn;obtain⟨sa,sc,rfl⟩:=AU hs;have hxb:(gdE x !=0)=true:=by simpa using hx
 clear hn hs hw hg hx;have KX:∀W:World,Below (w.alloc (.cells #[I0 t.z,.slice na t.ns.length nc,.slice sa t.ss.length sc] 45)).heap.size (w.alloc (.cells #[I0 t.z,.slice na t.ns.length nc,.slice sa t.ss.length sc] 45)) W→B0 w W:=fun W h=>AY h;have HKX:=AA KX;generalize gdE x=E at hxb CW⊢;obtain⟨xz,xo,xs,xp,xd,xv,xw⟩:=x;unfold DX at CW⊢;simp only at CW⊢;have KT:∀w1,Below ((w.alloc (.cells #[I0 t.z,.slice na t.ns.length nc,.slice sa t.ss.length sc] 45)).alloc (.cells #[I0 xz,I0 xo,I0 xs,S0 xp,S0 xd,I0 xv,I0 xw] 62)).heap.size ((w.alloc (.cells #[I0 t.z,.slice na t.ns.length nc,.slice sa t.ss.length sc] 45)).alloc (.cells #[I0 xz,I0 xo,I0 xs,S0 xp,S0 xd,I0 xv,I0 xw] 62)) w1→TAt w1 (w.heap.size+1) ⟨xz,xo,xs,xp,xd,xv,xw⟩:=fun w1 h1=>by
  have:=(TAt.new (w.alloc (.cells #[I0 t.z,.slice na t.ns.length nc,.slice sa t.ss.length sc] 45)) ⟨xz,xo,xs,xp,xd,xv,xw⟩).next h1;simpa using this
 have HKT:=AA KT;clear KX KT;go_enter func180,ntmps180;go_wp2_with fail;refine(A8 CG _ (AL (AB _ _) (AB _ _))).mono ?_;rintro e w1 ⟨rfl,hb1⟩;have HB:=AA (AL (AL (AB _ _) (AB _ _)) hb1);have tx:=A8 HKT w1 hb1;have y0:=tx.c0;have y1:=tx.c1;have y2:=tx.c2;have y3:=tx.c3;have y4:=tx.c4;have y5:=tx.c5;have y6:=tx.c6;clear hb1 tx;go_wp2_with fail;refine(A8 CW _).mono ?_;rintro e w2 ⟨rfl,hb2⟩;have HB2:=AA (AL (A8 HB) hb2);clear hb2;go_wp2_with fail;go_ret;exact⟨rfl,A8 HB2⟩
theorem AC5(t:Tr)(vn vs:Value)(x:AQ)(w:World)(hn:BZ w vn t.ns)(hs:BZ w vs t.ss)(hw:WfT t)(hd:x.d.length≤140737488355328)(hg:PW t=true)(hx:gdE x=0):
  Calls prog 180 #[.agg #[I0 t.z,vn,vs],DX x] w (R0 w (I0 (RZ t x))):=by
 have CG:=AA (fun W (hW:B0 w W)=>XK t vn vs W (hn.next hW) (hs.next hW) hw);have CO:=fun W (hW:B0 w W)=>TF t.z vn vs t.ss x.s W (hs.next hW) (NW.1 hg).ses;rw[hg]at CG;have CW:=AA (fun W=>TJ x W hd);rw[hx]at CW;rw[BB3 hg hx];generalize hr:(if x.z≤t.z then(13:Int)else if x.o=1∧x.s∈t.ss then 8 else if x.o≠1∧x.s∉t.ss then 12 else 0)=r;have q:(decide (x.z≤t.z)=true∧r=13)∨(decide (x.z≤t.z)=false∧(((x.o==1)=true∧(x.o !=1)=false∧((decide (x.s∈t.ss)=true∧r=8)∨(decide (x.s∈t.ss)=false∧r=0)))∨((x.o==1)=false∧(x.o !=1)=true∧((decide (x.s∈t.ss)=true∧r=0)∨(decide (x.s∈t.ss)=false∧r=12))))):=by
  subst hr;by_cases h1:x.z≤t.z<;>by_cases h2:x.o=1<;>by_cases h3:x.s∈t.ss<;>simp[h1,h2,h3]
 generalize decide (x.s∈t.ss)=op at CO q;clear hr;rcases q with⟨q1,rfl⟩|⟨q1,⟨q2,q3,⟨rfl,rfl⟩|⟨rfl,rfl⟩⟩|⟨q2,q3,⟨rfl,rfl⟩|⟨rfl,rfl⟩⟩⟩
 all_goals
  have HCO:=AA CO;obtain⟨na,nc,rfl⟩:=AU hn;obtain⟨sa,sc,rfl⟩:=AU hs;clear hn hs hw hg hx CO;obtain⟨xz,xo,xs,xp,xd,xv,xw⟩:=x;unfold DX at CW⊢;simp only at*;have KT:∀w1,Below ((w.alloc (.cells #[I0 t.z,.slice na t.ns.length nc,.slice sa t.ss.length sc] 45)).alloc (.cells #[I0 xz,I0 xo,I0 xs,S0 xp,S0 xd,I0 xv,I0 xw] 62)).heap.size ((w.alloc (.cells #[I0 t.z,.slice na t.ns.length nc,.slice sa t.ss.length sc] 45)).alloc (.cells #[I0 xz,I0 xo,I0 xs,S0 xp,S0 xd,I0 xv,I0 xw] 62)) w1→TAt w1 (w.heap.size+1) ⟨xz,xo,xs,xp,xd,xv,xw⟩∧w1.heap[w.heap.size]?=some (.cells #[I0 t.z,.slice na t.ns.length nc,.slice sa t.ss.length sc] 45 (0,0)):=fun w1 h1=>by
   have:=(TAt.new (w.alloc (.cells #[I0 t.z,.slice na t.ns.length nc,.slice sa t.ss.length sc] 45)) ⟨xz,xo,xs,xp,xd,xv,xw⟩).next h1;refine⟨by simpa using this,?_⟩;rw[h1.block _ (by simp;omega)];rw[(AB (w.alloc (.cells #[I0 t.z,.slice na t.ns.length nc,.slice sa t.ss.length sc] 45)) (.cells #[I0 xz,I0 xo,I0 xs,S0 xp,S0 xd,I0 xv,I0 xw] 62)).block _ (by simp)];exact heap_alloc_new w _
  have HKT:=AA KT;clear KT;go_enter func180,ntmps180;go_wp2_with fail;refine(A8 CG _ (AL (AB _ _) (AB _ _))).mono ?_;rintro e w1 ⟨rfl,hb1⟩;have HB:=AA (AL (AL (AB _ _) (AB _ _)) hb1);obtain⟨tx,tt⟩:=A8 HKT w1 hb1;have y0:=tx.c0;have y1:=tx.c1;have y2:=tx.c2;have y3:=tx.c3;have y4:=tx.c4;have y5:=tx.c5;have y6:=tx.c6;have HTX:=AA tx;have HTT:=AA tt;clear hb1 tx tt;go_wp2_with fail;refine(A8 CW _).mono ?_;rintro e w2 ⟨rfl,hb2⟩;have HB2:=AA (AL (A8 HB) hb2);have tx2:=(A8 HTX).next hb2;have tt2:=(hb2.block _ (Array.getElem?_eq_some_iff.1 (A8 HTT)).1).trans (A8 HTT);have u0:=tx2.c0;have u1:=tx2.c1;have u2:=tx2.c2;have v0:w2.cell? ⟨w.heap.size,0,none⟩=some (I0 t.z):=by simp[World.cell?,tt2]
  have v1:w2.cell? ⟨w.heap.size,1,none⟩=some (.slice na t.ns.length nc):=by simp[World.cell?,tt2]
  have v2:w2.cell? ⟨w.heap.size,2,none⟩=some (.slice sa t.ss.length sc):=by simp[World.cell?,tt2]
  have wG:=AA tx2;have HTT2:=AA tt2;clear hb2 y0 y1 y2 y3 y4 y5 y6 tx2 tt2;go_wp2_with fail;refine(A8 HCO _ (A8 HB2)).mono ?_;rintro e w3 ⟨rfl,hb3⟩;have HB3:=AA (AL (A8 HB2) hb3);have tx3:=(A8 wG).next hb3;have tt3:=(hb3.block _ (Array.getElem?_eq_some_iff.1 (A8 HTT2)).1).trans (A8 HTT2);have z0:=tx3.c0;have z1:=tx3.c1;have r0:w3.cell? ⟨w.heap.size,0,none⟩=some (I0 t.z):=by simp[World.cell?,tt3]
  clear hb3 u0 u1 u2 v0 v1 v2 tx3 tt3;go_wp2_with fail;go_ret;exact⟨rfl,A8 HB3⟩
theorem qN(t:Tr)(vn vs:Value)(x:AQ)(w:World)(hn:BZ w vn t.ns)(hs:BZ w vs t.ss)(hw:WfT t)(hd:x.d.length≤140737488355328):
  Calls prog 180 #[.agg #[I0 t.z,vn,vs],DX x] w (R0 w (I0 (RZ t x))):=by
 cases hg:PW t with
 |false=>rw[AR5 hg];exact wM t vn vs x w hn hs hw hg
 |true=>
  by_cases hx:gdE x=0
  ·exact AC5 t vn vs x w hn hs hw hd hg hx
  ·rw[BT5 hg hx];exact AR6 t vn vs x w hn hs hw hd hg hx
end Go.Proofs.YtodnhndkghdinaaGreatDoor
