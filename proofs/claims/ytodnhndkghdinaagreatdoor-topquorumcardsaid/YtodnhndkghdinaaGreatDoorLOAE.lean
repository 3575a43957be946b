/-
  Part.
-/
import Derived.Test.YtodnhndkghdinaaGreatDoorLOAD
set_option maxRecDepth 20000
set_option maxHeartbeats 8000000
namespace Go.Proofs.YtodnhndkghdinaaGreatDoor
open Go.RowKit Go.Proofs.Tryz
variable{s:Nat→Ps}{j k i g:Nat}{W V w:World}{v vd vl vn vs vw:Value}{p:Pw}{e:Int}{b q:Ps}{r:Rq}
def vot(s:Nat→Ps)(j:Nat):List Int:=(([0,1,2].take j).filter fun i=>(s i).up).map fun i:Nat=>(i:Int)
theorem BY5(hj:j<3)(h:(s j).up=true):vot s (j+1)=vot s j++[(j:Int)]:=by
 rcases(show j=0∨j=1∨j=2 by omega)with rfl|rfl|rfl<;>simp[vot,List.filter_cons,h]<;>(repeat' split)<;>simp
theorem CA9(hj:j<3)(h:(s j).up=false):vot s (j+1)=vot s j:=by
 rcases(show j=0∨j=1∨j=2 by omega)with rfl|rfl|rfl<;>simp[vot,List.filter_cons,h]
theorem BY6(s:Nat→Ps)(j:Nat):(vot s j).length≤3:=by
 rw[vot,List.length_map];exact Nat.le_trans (List.length_filter_le _ _) (by simp;omega)
theorem BY7(s:Nat→Ps):vot s 3=(FH s).map fun i:Nat=>(i:Int):=rfl
theorem BG6(i:Nat)(q:Ps):(svP i q).up=q.up:=by
 cases h:q.up
 ·rw[MB h]
 ·rw[DJ h]
theorem fQ{U:World}(h:B0 W V)(hg:V.grownBy U v.ownBlock)(hn:∀g,v.ownBlock=some g→W.heap.size≤g):B0 W U:=
 ⟨hg.os.trans h.os,hg.tape.trans h.tape,hg.output.trans h.output,Nat.le_trans h.size hg.size,fun b hb=>(hg.block b (Nat.lt_of_lt_of_le hb h.size) (fun e=>by have:=hn b e.symm;omega)).trans (h.block b hb)⟩
theorem AY6{α:Type}[Lay α]{B:Nat}{xs:List α}(h:BF W B v xs):∀g,v.ownBlock=some g→B≤g:=fun g hg=>by
 rcases h with⟨rfl,_⟩|⟨g',cap,rfl,hB,_⟩
 ·simp[Value.ownBlock]at hg
 ·simp only[Value.ownBlock,Option.some.injEq]at hg;omega
theorem jW(p:Pw)(k:Nat)(W:World)(hx:WX W k p):Calls prog 94 #[wP k] W fun e w'=>∃v,e=.returned v∧BF w' W.heap.size v ((FH p.s).map fun i:Nat=>(i:Int))∧B0 W w':=by
 obtain⟨t,ht⟩:=hx.sl;have HT:=AA ht;have IX:=AA (fun(m:Nat) (hm:m<3) (u:World)=>BY0 (fun i=>svP i (p.s i)) t m hm u);obtain⟨i0,hi0,hz0,hz1,hz2⟩:=vV;clear hx ht;unfold wP;go_enter func94,ntmps94;go_wp2_with (refine mY rfl _ rfl k (fun i=>svP i (p.s i)) t rfl (A8 HT) ?_);clear HT
 go_loopg [3,10] 3 (fun kx s3 s10 wr=>∃j:Nat,∃a c,s10=I0 j∧s3=.slice a (vot p.s j).length c∧j≤3∧3-j≤kx∧Hid (BF wr W.heap.size (.slice a (vot p.s j).length c) (vot p.s j)∧B0 W wr))
 case atStart=>exact⟨0,none,0,rfl,rfl,by omega,Nat.le_refl _,AA ⟨.inl ⟨rfl,rfl⟩,Below.refl _ _⟩⟩
 case round=>
  obtain⟨j,a,c,rfl,rfl,hj,hg,HI⟩:=hrel;by_cases hlt:j<3
  ·have IXm:=A8 IX j hlt;have hl:=BY6 p.s j;have hjj:(j:Int)<3:=by omega
   have eu:=BG6 j (p.s j);unfold rZ at IXm;generalize svP j (p.s j)=s0 at*;generalize t j=tj at*;obtain⟨up,fs,id,ep,ts,dn,tr,ws⟩:=s0;simp only at eu IXm;subst eu;by_cases hu:(p.s j).up=true
   ·have HS:=AA (BY5 hlt hu);rw[hu]at IXm;clear hu;go_upto_region 5 with fail;have B2:=AA (AL (A8 HI).2 (AB wr (.cells #[.bool true,.slice tj.ad tj.nd tj.cd,I0 id,I0 ep,.slice tj.al ts.length tj.cl,I0 dn,I0 tr.z,.slice tj.an tr.ns.length tj.cn,.slice tj.ai tr.ss.length tj.ci,.slice tj.aw ws.length tj.cw] 48)));have O2:=AA ((A8 HI).1.next (AB wr (.cells #[.bool true,.slice tj.ad tj.nd tj.cd,I0 id,I0 ep,.slice tj.al ts.length tj.cl,I0 dn,I0 tr.z,.slice tj.an tr.ns.length tj.cn,.slice tj.ai tr.ss.length tj.ci,.slice tj.aw ws.length tj.cw] 48)));have E2:=(heap_alloc_new wr (.cells #[.bool true,.slice tj.ad tj.nd tj.cd,I0 id,I0 ep,.slice tj.al ts.length tj.cl,I0 dn,I0 tr.z,.slice tj.an tr.ns.length tj.cn,.slice tj.ai tr.ss.length tj.ci,.slice tj.aw ws.length tj.cw] 48));generalize wr.alloc _=W2 at*;have e0:W2.cell? ⟨wr.heap.size,0,none⟩=some (.bool true):=by simp[World.cell?,E2]
    clear HI IXm IX E2;have O3:=AA (fun O=>(A8 O2).next (AB W2 O));have S3:=AA (fun O=>Nat.le_trans (A8 B2).size (AB W2 O).size);go_wp2_with (at_builtin;refine fP rfl _ _ 43 rfl i0 _ 8 underlying43 hi0 hz0 hz1 hz2 rfl (by decide) _ (vot p.s j) rfl W.heap.size (A8 O3 _) W2.heap.size rfl (j:Int) (lT W2 j) (by omega) (by simp only[maxLen];omega) (A8 S3 _) ?_);intro a8 c8 w8 ho8 hg8;have HO:=AA ho8;have HB:=AA (fQ (AL (A8 B2) (AB W2 _)) hg8 (AY6 (A8 O2)));clear ho8 hg8 O3 S3 B2 O2;go_wp2_with fail
    go_roundg (3-(j+1))
    case measure=>omega
    case rel=>exact⟨j+1,a8,c8,by simp,by rw[A8 HS,List.length_append];rfl,by omega,Nat.le_refl _,AA ⟨by rw[A8 HS,List.length_append];exact A8 HO,A8 HB⟩⟩
   ·have HS:=AA (CA9 hlt (by simpa using hu));rw[show (p.s j).up=false by simpa using hu]at IXm;clear hu;go_upto_region 5 with fail;have B2:=AA (AL (A8 HI).2 (AB wr (.cells #[.bool false,.slice tj.ad tj.nd tj.cd,I0 id,I0 ep,.slice tj.al ts.length tj.cl,I0 dn,I0 tr.z,.slice tj.an tr.ns.length tj.cn,.slice tj.ai tr.ss.length tj.ci,.slice tj.aw ws.length tj.cw] 48)));have O2:=AA ((A8 HI).1.next (AB wr (.cells #[.bool false,.slice tj.ad tj.nd tj.cd,I0 id,I0 ep,.slice tj.al ts.length tj.cl,I0 dn,I0 tr.z,.slice tj.an tr.ns.length tj.cn,.slice tj.ai tr.ss.length tj.ci,.slice tj.aw ws.length tj.cw] 48)));have E2:=(heap_alloc_new wr (.cells #[.bool false,.slice tj.ad tj.nd tj.cd,I0 id,I0 ep,.slice tj.al ts.length tj.cl,I0 dn,I0 tr.z,.slice tj.an tr.ns.length tj.cn,.slice tj.ai tr.ss.length tj.ci,.slice tj.aw ws.length tj.cw] 48));generalize wr.alloc _=W2 at*;have e0:W2.cell? ⟨wr.heap.size,0,none⟩=some (.bool false):=by simp[World.cell?,E2]
    clear HI IXm IX E2;go_wp2_with fail
    go_roundg (3-(j+1))
    case measure=>omega
    case rel=>exact⟨j+1,a,c,by simp,by rw[A8 HS],by omega,Nat.le_refl _,AA ⟨by rw[A8 HS];exact A8 O2,A8 B2⟩⟩
  ·obtain rfl:j=3:=by omega
   go_wp2_with fail;go_ret;exact⟨_,rfl,by rw[←BY7];exact(A8 HI).1,(A8 HI).2⟩
theorem WX.sl2(h:WX W k p):∃t:Nat→Sl,∀i,i<3→Srv W k (1+10*i) (svP i (p.s i)).up (svP i (p.s i)).id (svP i (p.s i)).ep (svP i (p.s i)).dn (svP i (p.s i)).tr.z (.slice (t i).ad (t i).nd (t i).cd) (.slice (t i).al (svP i (p.s i)).ts.length (t i).cl) (.slice (t i).an (svP i (p.s i)).tr.ns.length (t i).cn) (.slice (t i).ai (svP i (p.s i)).tr.ss.length (t i).ci) (.slice (t i).aw (svP i (p.s i)).ws.length (t i).cw)∧J5 W (.slice (t i).al (svP i (p.s i)).ts.length (t i).cl) (svP i (p.s i)).ts:=by
 have e:∀i,∃t:Sl,i<3→Srv W k (1+10*i) (svP i (p.s i)).up (svP i (p.s i)).id (svP i (p.s i)).ep (svP i (p.s i)).dn (svP i (p.s i)).tr.z (.slice t.ad t.nd t.cd) (.slice t.al (svP i (p.s i)).ts.length t.cl) (.slice t.an (svP i (p.s i)).tr.ns.length t.cn) (.slice t.ai (svP i (p.s i)).tr.ss.length t.ci) (.slice t.aw (svP i (p.s i)).ws.length t.cw)∧J5 W (.slice t.al (svP i (p.s i)).ts.length t.cl) (svP i (p.s i)).ts:=fun i=>by
  by_cases hi:i<3
  ·obtain⟨ad,nd,cd,al,cl,an,cn,ai,ci,aw,cw,S,hv,_⟩:=h.srv hi rfl;obtain⟨vd,vl,vn,vs,vw,e,_,r2,_⟩:=hv;simp only[Value.agg.injEq,Array.mk.injEq,List.cons.injEq]at e;exact⟨⟨ad,nd,cd,al,cl,an,cn,ai,ci,aw,cw⟩,fun _=>⟨S,by rw[←e.2.2.2.2.1]at r2;exact r2⟩⟩
  ·exact⟨⟨none,0,0,none,0,none,0,none,0,none,0⟩,fun h=>absurd h hi⟩
 exact⟨fun i=>(e i).choose,fun i hi=>(e i).choose_spec hi⟩
noncomputable def peP(p:Pw)(t:Nat→Sl)(i:Nat):Pe:=⟨(svP i (p.s i)).id,(svP i (p.s i)).ep,(t i).al,(t i).cl,(svP i (p.s i)).ts,(svP i (p.s i)).dn⟩
theorem AY7(w:World)(i e:Int)(a:Option Addr)(c:Nat)(ts:List AQ)(d:Int):F5 (w.alloc (.cells #[I0 i,I0 e,.slice a ts.length c,I0 d] 41)) w.heap.size (⟨i,e,a,c,ts,d⟩:Pe):=heap_alloc_new w _
theorem CB0{t:Nat→Sl}(h:(p.s i).up=true):kk (peP p t i)=((i:Int),(p.s i).e,DL (p.s i).m):=by
 simp only[kk,peP,DJ h]
theorem jX(p:Pw)(k:Nat)(W:World)(v:Value)(l:List Nat)(hx:WX W k p)(hv:BZ W v (l.map fun i:Nat=>(i:Int)))(hl:∀i∈l,i<3)(hln:l.length≤3):
  Calls prog 96 #[wP k,v] W fun e w'=>∃u t,e=.returned u∧BF w' W.heap.size u (l.map (peP p t))∧lZ w' (l.map (peP p t))∧B0 W w':=by
 obtain⟨t,ht⟩:=hx.sl2;have HT:=AA ht;have HV:=AA hv;have HL:=AA hl;have hkl:=hx.lt;obtain⟨i0,hi0,hz0,hz1,hz2⟩:=CJ0;obtain⟨a,c,rfl⟩:=AU hv;rw[List.length_map]at HV⊢;clear hx ht hv hl;unfold wP;go_enter func96,ntmps96;go_wp2_with fail
 go_loopg [5,10] l.length (fun kx s5 s10 wr=>∃j:Nat,∃a c,s10=I0 j∧s5=.slice a j c∧j≤l.length∧l.length-j≤kx∧Hid (BF wr W.heap.size (.slice a j c) ((l.take j).map (peP p t))∧B0 W wr))
 case atStart=>exact⟨0,none,0,rfl,rfl,by omega,Nat.le_refl _,AA ⟨.inl ⟨rfl,rfl⟩,Below.refl _ _⟩⟩
 case round=>
  obtain⟨j,a2,c2,rfl,rfl,hj,hg,HI⟩:=hrel;by_cases hlt:j<l.length
  ·obtain⟨i,hi⟩:∃i,l[j]?=some i:=⟨_,List.getElem?_eq_getElem hlt⟩;have hi3:=A8 HL i (List.mem_of_getElem? hi);have HS:=AA (show (l.take (j+1)).map (peP p t)=(l.take j).map (peP p t)++[peP p t i] by rw[LQ hi,List.map_append];rfl);have hlj:((l.take j).map (peP p t)).length=j:=by simp;omega
   obtain⟨b,off,cap,he,hb,hrow,_,_⟩:=JG ((A8 HV).next (A8 HI).2) (by intro h0;rw[List.map_eq_nil_iff]at h0;rw[h0]at hlt;simp at hlt);simp only[List.length_map,Value.slice.injEq]at he;obtain⟨rfl,_,rfl⟩:=he;have d0:=hrow.i0 (i:=j) (x:=(i:Int)) (by rw[List.getElem?_map,hi];rfl);obtain⟨_,_,e2,e3,e4,e5,_⟩:=(A8 HT i hi3).1.next hkl (A8 HI).2;rw[Nat.mul_comm 10 i]at e2 e3 e4 e5;have hjj:(j:Int)<(l.length:Int):=by omega
   have hi4:(i:Int)<3:=by omega
   have B2:=AA (A8 HI).2;have O2:=AA (A8 HI).1;clear HI hrow hi HV;generalize hs0:svP i (p.s i)=s0 at*;have HP:Hid (peP p t i=⟨s0.id,s0.ep,(t i).al,(t i).cl,s0.ts,s0.dn⟩):=AA (by rw[peP,hs0]);clear hs0;have O3:=AA (fun O=>(A8 O2).next (AB wr O));have S3:=AA (fun O=>Nat.le_trans (A8 B2).size (AB wr O).size);go_wp2_with (at_builtin;refine fP rfl _ _ 161 rfl i0 _ 48 underlying161 hi0 hz0 hz1 hz2 rfl (by decide) _ ((l.take j).map (peP p t)) rfl W.heap.size (A8 O3 _) wr.heap.size rfl (⟨s0.id,s0.ep,(t i).al,(t i).cl,s0.ts,s0.dn⟩:Pe) (AY7 wr _ _ _ _ _ _) (by rw[hlj];omega) (by rw[hlj];simp only[maxLen];omega) (A8 S3 _) ?_);intro a8 c8 w8 ho8 hg8;have HO:=AA ho8;have HB:=AA (fQ (AL (A8 B2) (AB wr _)) hg8 (AY6 (A8 O2)));clear ho8 hg8 O3 S3 B2 O2;go_wp2_with fail
   go_roundg (l.length-(j+1))
   case measure=>omega
   case rel=>exact⟨j+1,a8,c8,by simp,rfl,by omega,Nat.le_refl _,AA ⟨by rw[A8 HS,A8 HP,List.map_take];exact A8 HO,A8 HB⟩⟩
  ·obtain rfl:j=l.length:=by omega
   rw[List.take_length]at HI;go_wp2_with fail;go_ret;exact⟨_,t,rfl,(A8 HI).1,fun q hq=>by
    obtain⟨i,hi,rfl⟩:=List.mem_map.1 hq;exact((A8 HT i (A8 HL i hi)).2).next (A8 HI).2,(A8 HI).2⟩
theorem BG7{m:List AQ}{t:AQ}(e:Int)(h:Logs (m++[t]))(hl:m.length≤300):VF 169 (fun x=>#[x,DX t,.bool true]) [UY e,KL m] [UY e,KL (m++[t])] 0:=by
 have hg:=(Logs.at (a:=m) (b:=[]) h).1;have hx:=mP e;have h1:=mM h.left hl;have h2:=bM hg;have g0:G9 [UY e,KL m]:=OY hx (by simp;omega);have g1:G9 [UY e,⟨JA,BL m,MP t⟩]:=OY hx (by omega);refine jL [UY e,KL m] [UY e,⟨JA,BL m,MP t⟩] [UY e,KL (m++[t])] t 0 hg (IV fun v W hv=>?_) (YU fun v W hv=>?_)
 ·have:=dJ v [UY e,KL m] [UY e] [] (KL m) JA (MP t) W hv (EN g0) g0 (fC _ _ _ _) (by simp only[KL,List.length_nil];omega);simpa [KL]using this
 ·have:=UJ v [UY e,⟨JA,BL m,MP t⟩] [UY e] [] ⟨JA,BL m,MP t⟩ JA W hv (EN g1) g1 (fC _ _ _ _);simpa [KL,LG]using this
theorem CB1{m:List AQ}{e0:Int}(he:zIn e=true)(hm:(BL m).length≤1048576):eY 123 (fun x=>#[x,I0 e]) (epD e0++[KL m]) [UY e,KL m] 0:=by
 by_cases h0:e0=0
 ·subst h0;rw[A34];exact BV9 he hm
 ·rw[xQ h0];have hx:=XC (G6 e 0);have g0:G9 [UY e0,KL m]:=OY (mP e0) (by simpa using hm);have gl:G9 [KL m]:=XP (by simpa using hm);have g1:G9 [⟨EM,[],MJ (G6 e 0)⟩,KL m]:=OY (by simp;omega) (by simpa using hm);refine xE [UY e0,KL m] [KL m] [⟨EM,[],MJ (G6 e 0)⟩,KL m] [UY e,KL m] e 0 (PI he (by decide)).2 (IV fun v W hv=>?_) (IV fun v W hv=>?_) (IV fun v W hv=>?_)
  ·exact pU v [UY e0,KL m] [] [KL m] (UY e0) EM W hv (EN g0) g0 (XT _ _ _ _)
  ·exact XH v [KL m] [] [KL m] EM (MJ (G6 e 0)) W hv (EN gl) gl VO (by simp) (YX (BL m) []) (by omega)
  ·have:=UJ v _ [] [KL m] ⟨EM,[],MJ (G6 e 0)⟩ EM W hv (EN g1) g1 (XT [] (MJ (G6 e 0)) (BL m) []);simpa [UY]using this
theorem AY8{a b:List AQ}(ha:Logs a)(hp:∀x∈a,0<x.z){z:Int}(hz:CI4 b (G5 a b) z):OO z a=a.take (G5 a b):=by
 rcases hz with⟨h0,rfl⟩|⟨x,h0,hx,rfl⟩
 ·rw[h0,List.take_zero]
  cases a with
  |nil=>rfl
  |cons t r=>
   have:=hp t (by simp);unfold OO;rw[List.takeWhile_cons_of_neg (by simp;omega)]
 ·obtain⟨x',y',h1,h2,h3⟩:=dW a b (G5 a b-1) (by omega);rw[hx]at h2
  cases h2
  rw[←h3,BW0 ha h1,show G5 a b-1+1=G5 a b by omega]
theorem CB2(a b:List AQ):∃z,CI4 b (G5 a b) z:=by
 by_cases h0:G5 a b=0
 ·exact⟨-1,.inl ⟨h0,rfl⟩⟩
 ·obtain⟨x,y,_,h2,_⟩:=dW a b (G5 a b-1) (by omega);exact⟨y.z,.inr ⟨y,by omega,h2,rfl⟩⟩
theorem BG8{a b:List AQ}(h:∀x∈a,∀y∈b,x.z=y.z→x=y):a.take (G5 a b)=b.take (G5 a b):=by
 obtain⟨k1,k2⟩:=TN a b
 apply List.ext_getElem?
 intro i;by_cases hi:i<G5 a b
 ·obtain⟨x,y,h1,h2,h3⟩:=dW a b i hi;rw[List.getElem?_take_of_lt hi,List.getElem?_take_of_lt hi,h1,h2,h x (List.mem_of_getElem? h1) y (List.mem_of_getElem? h2) h3]
 ·rw[List.getElem?_eq_none (by simp;omega),List.getElem?_eq_none (by simp;omega)]
theorem AY9(ok:II 300 q)(hu:q.up=true)(okb:II 300 b)(he:1≤e∧e≤300)(hd:q.dn≤G5 q.m b.m)(h1:∀x∈q.m,∀y∈b.m,x.z=y.z→x=y)(v vl:Value)(w:World)(hv:SvV w v (svP i q))(hvl:J5 w vl b.m)(ht:VX w):
  Calls prog 97 #[v,vl,I0 e] w (YV w (svP i (rU e b.m q)) 0):=by
 obtain⟨r1,r2⟩:=ok.small;obtain⟨b1,b2⟩:=okb.small;have r3:=O7 q.m q.a;obtain⟨z,hz⟩:=CB2 q.m b.m;have hzi:zIn e=true:=LD.2 ⟨by omega,by omega⟩;have hs:=BG8 h1;obtain⟨k1,k2⟩:=TN q.m b.m;have hts:(svP i q).ts=q.m:=by rw[DJ hu]
 have G:J6 122 (fun g=>#[g,I0 z]) (svP i q).fs (epD q.e++[KL (q.m.take (G5 q.m b.m))]) 0:=by
  have R:VE (epD q.e++[⟨JA,BL (q.m.take q.a),BL (q.m.drop q.a)⟩]) q.m (epD q.e) []:=⟨QZ (by omega),ok.log,.inr ⟨_,[],XZ _ _ _,by
   have:=bK ok.log;rw[←FX,List.take_append_drop];exact this⟩⟩
  have:=BD8 R z;rw[AY8 ok.log ok.pos hz]at this;rw[DJ hu];exact this
 have hlk:Logs (q.m.take (G5 q.m b.m)):=ok.log.take _;have hrk:(BL (q.m.take (G5 q.m b.m))).length≤146100:=mM hlk (by simp;omega);have R:=CB1 (e0:=q.e) hzi (show (BL (q.m.take (G5 q.m b.m))).length≤1048576 by omega);have gd:G9 [UY e,KL (q.m.take (G5 q.m b.m))]:=OY (mP e) (by simp;omega);have hbb:b.m=b.m.take (G5 q.m b.m)++b.m.drop (G5 q.m b.m):=(List.take_append_drop _ _).symm;have step:∀j x,(b.m.drop (G5 q.m b.m))[j]?=some x→C89 ⟨true,[UY e,KL (q.m.take (G5 q.m b.m)++(b.m.drop (G5 q.m b.m)).take j)],i,e,q.m.take (G5 q.m b.m)++(b.m.drop (G5 q.m b.m)).take j,q.dn,NQ q.m q.dn,q.ws⟩ x ⟨true,[UY e,KL (q.m.take (G5 q.m b.m)++(b.m.drop (G5 q.m b.m)).take (j+1))],i,e,q.m.take (G5 q.m b.m)++(b.m.drop (G5 q.m b.m)).take (j+1),q.dn,NQ q.m q.dn,q.ws⟩:=by
  intro j x hx;have e1:b.m=(q.m.take (G5 q.m b.m)++(b.m.drop (G5 q.m b.m)).take j)++x::(b.m.drop (G5 q.m b.m)).drop (j+1):=by
   rw[hs,List.append_assoc,←BD9 hx];exact hbb
  have e2:q.m.take (G5 q.m b.m)++(b.m.drop (G5 q.m b.m)).take (j+1)=(q.m.take (G5 q.m b.m)++(b.m.drop (G5 q.m b.m)).take j)++[x]:=by rw[LH hx,List.append_assoc]
  have hL:=okb.log;rw[e1]at hL;have hg:=hL.good x (by simp);have hL1:Logs ((q.m.take (G5 q.m b.m)++(b.m.drop (G5 q.m b.m)).take j)++[x]):=by
   have:Logs (((q.m.take (G5 q.m b.m)++(b.m.drop (G5 q.m b.m)).take j)++[x])++(b.m.drop (G5 q.m b.m)).drop (j+1)):=by simpa using hL
   exact this.left
  have hx2:=U4 hg;have hlen:(q.m.take (G5 q.m b.m)++(b.m.drop (G5 q.m b.m)).take j).length≤300:=by
   have:=congrArg List.length e1;rw[List.length_append]at this;omega
  have hlast:¬x.z≤DL (q.m.take (G5 q.m b.m)++(b.m.drop (G5 q.m b.m)).take j):=by
   intro hle;by_cases hn:q.m.take (G5 q.m b.m)++(b.m.drop (G5 q.m b.m)).take j=[]
   ·rw[hn,SE]at hle;have:=okb.pos x (List.mem_of_mem_drop (List.mem_of_getElem? hx));omega
   ·obtain⟨y,hy,hyz⟩:=WQ hn;have:=(List.pairwise_append.1 hL1.rise).2.2 y hy x (by simp);omega
  refine⟨hlast,by omega,by omega,Nat.le_trans hlen (by decide),[UY e,KL ((q.m.take (G5 q.m b.m)++(b.m.drop (G5 q.m b.m)).take j)++[x])],by rw[e2],BG7 e hL1 hlen⟩
 have main:=AV3 (svP i q) v vl b.m e w hv hvl (ok.fits hu) (by omega) ht (by rw[hts,DJ hu];show ¬ ((G5 q.m b.m:Nat):Int)<(q.dn:Int);omega) z _ _ (by rw[hts];exact hz) G R gd (fun j=>⟨true,[UY e,KL (q.m.take (G5 q.m b.m)++(b.m.drop (G5 q.m b.m)).take j)],i,e,q.m.take (G5 q.m b.m)++(b.m.drop (G5 q.m b.m)).take j,q.dn,NQ q.m q.dn,q.ws⟩) (by rw[hts,DJ hu];simp) (by rw[hts];exact step);rw[hts]at main;have e3:svP i (rU e b.m q)=⟨true,[UY e,KL (q.m.take (G5 q.m b.m)++(b.m.drop (G5 q.m b.m)).take (b.m.drop (G5 q.m b.m)).length)],i,e,q.m.take (G5 q.m b.m)++(b.m.drop (G5 q.m b.m)).take (b.m.drop (G5 q.m b.m)).length,q.dn,NQ q.m q.dn,q.ws⟩:=by
  have et:NQ q.m q.dn=NQ b.m q.dn:=by
   rw[←fJ q.m hd,←fJ b.m hd,hs]
  rw[List.take_length,hs,List.take_append_drop,et,DJ (p:=rU e b.m q) rfl];simp[rU,xQ (show e≠0 by omega),KL,BL]
 rw[e3];exact main
theorem sH(ok:II 300 q)(hu:q.up=true)(okb:II 300 b)(hd:G5 q.m b.m<q.dn)(v vl:Value)(w:World)(hv:SvV w v (svP i q))(hvl:J5 w vl b.m):
  Calls prog 97 #[v,vl,I0 e] w (jM w 13):=by
 obtain⟨b1,b2⟩:=okb.small;exact AE4 (svP i q) v vl b.m e w hv hvl (ok.fits hu) (by omega) (by rw[DJ hu];show ((G5 q.m b.m:Nat):Int)<(q.dn:Int);omega)
structure El(p:Pw):Prop where
 ok:∀i,i<3→II 300 (p.s i)
 cl:∀i,i<16→nZ 300 p.H i (p.c i)
 en:1≤eN p.s∧eN p.s≤300
 one:∀i j,i<3→j<3→∀x∈(p.s i).m,∀y∈(p.s j).m,x.z=y.z→x=y
 fol:¬ (FH p.s).length<2→AI1 p.s=false→∀i,i<3→II 300 (eS p.s i)
 fin:¬ (FH p.s).length<2→AI1 p.s=false→∀i,i<3→II 300 ((IK (eS p.s) (FH p.s)).1 i)
theorem II.fol{N:Int}(hq:II N q)(hb:II N b)(he:0≤e∧e≤N)(hd:q.dn≤G5 q.m b.m):II N (rU e b.m q):=
 ⟨hb.log,hb.pos,hb.len,Nat.le_refl _,he.1,he.2,Nat.le_trans hd (TN q.m b.m).2,hb.play,hq.wl,hq.wk,fun h=>by simp[rU]at h,fun _=>rfl⟩
theorem CJ8{q:Pw}(h:NU q)(hn:q.n<300):El (JU q):=by
 have hok:∀i,i<3→II 300 (q.s i):=fun i hi=>(h.s i hi).more (by omega);refine⟨hok,fun i hi=>(h.c i hi).more (by omega) (fun _ hx=>hx),?_,fun i j hi hj x hx y hy e=>h.a.one x (h.a.hist i hi x (by rw[GZ hi];exact hx)) y (h.a.hist j hj y (by rw[GZ hj];exact hy)) e,fun h2 hb i hi=>?_,fun h2 hb i hi=>?_⟩
 ·have:=BX6 h;show 1≤eN q.s∧eN q.s≤300;omega
 ·show II 300 (eS q.s i);have hB:=FW.1 (AX4 (s:=q.s) (show 2≤(FH q.s).length from Nat.le_of_not_lt h2));unfold eS
  split
  ·rename_i hu
   have:=BX6 h;exact II.fol (hok i hi) (hok _ hB.1) (by omega) (AX5 (s:=q.s) hb (FW.2 ⟨hi,hu.1⟩))
  ·exact hok i hi
 ·exact((jV h hn h2 hb).s i hi).more (by show q.n+1≤300;omega)
theorem A53(h:∀i,i<3→II 300 (s i)):BN1 (ML s) 0:=by
 refine .inl ⟨rfl,fun i k hi=>?_⟩;have hlt:i<(FH s).length:=by have:=(List.getElem?_eq_some_iff.1 hi).1;rwa[Y0]at this
 unfold ML at hi;rw[List.getElem?_map,List.getElem?_eq_getElem hlt]at hi;simp only[Option.map_some,Option.some.injEq]at hi;subst hi;have hm:=List.getElem_mem hlt;obtain⟨h3,_⟩:=FW.1 hm;have ok:=h _ h3;have h0:=ok.e0;have h1:=ok.e1;unfold A33;rw[if_neg,if_neg (by simp only;omega),if_neg (by simp only;omega)];intro ha;rw[List.any_eq_true]at ha;obtain⟨q,hq,e⟩:=ha;rw[ML,←List.map_take]at hq;obtain⟨j,hj,rfl⟩:=List.mem_map.1 hq;have e':j=(FH s)[i]:=by
  have:(j:Int)=((FH s)[i]:Nat):=by simpa using e
  omega
 have hnd:=QF s;rw[←List.take_append_drop i (FH s)]at hnd;have hd:(FH s)[i]∈(FH s).drop i:=List.mem_of_getElem? (i:=0) (by rw[List.getElem?_drop];simp[List.getElem?_eq_getElem hlt]);exact(List.pairwise_append.1 hnd).2.2 j hj _ hd e'
theorem BG9(h:∀i,i<3→II 300 (s i))(h2:(FH s).length<2):CI9 (ML s) 0 0 14:=⟨0,A53 h,.inr ⟨rfl,.inl ⟨by rw[Y0];exact h2,rfl,rfl,rfl⟩⟩⟩
theorem AZ0(h:El p)(h2:¬ (FH p.s).length<2):CI9 (ML p.s) (IG (ML p.s) (FH p.s).length:Nat) (eN p.s) 0:=
 ⟨0,A53 h.ok,.inr ⟨rfl,.inr ⟨by rw[Y0];omega,.inr ⟨by have:=h.en;unfold eN at this;omega,by rw[Y0],rfl,rfl⟩⟩⟩⟩
theorem AZ1(h2:¬ (FH s).length<2):IG (ML s) (FH s).length<(FH s).length:=by
 have:=TW (ML s) (FH s).length;omega
theorem BY8(h2:¬ (FH s).length<2):(FH s)[IG (ML s) (FH s).length]?=some (eB s):=by
 have:=AZ1 h2;rw[eB,List.getD_eq_getElem?_getD,List.getElem?_eq_getElem this];rfl
def elS(s:Nat→Ps)(j:Nat):Nat→Ps:=fun k=>if k∈(FH s).take j then rU (eN s) (s (eB s)).m (s k)else s k
def elR(s:Nat→Ps)(j:Nat):Nat→Int:=fun k=>if k∈(FH s).take j then 1 else 0
theorem BH0(s:Nat→Ps):elS s 0=s:=by funext k;simp[elS]
theorem BH1(s:Nat→Ps):elR s 0=fun _=>0:=by funext k;simp[elR]
theorem BH2(h:(FH s)[j]?=some i):elS s (j+1)=H6 (elS s j) i (rU (eN s) (s (eB s)).m (s i)):=by
 funext k
 unfold elS H6;rw[LQ h];by_cases e:k=i
 ·subst e;rw[if_pos (by simp),if_pos rfl]
 ·rw[if_neg e];congr 1;simp[e]
theorem BH3(h:(FH s)[j]?=some i):elR s (j+1)=H6 (elR s j) i 1:=by
 funext k
 unfold elR H6;rw[LQ h];by_cases e:k=i
 ·subst e;rw[if_pos (by simp),if_pos rfl]
 ·rw[if_neg e];congr 1;simp[e]
theorem BY9(s:Nat→Ps):elS s (FH s).length=eS s:=by
 funext k
 unfold elS eS;rw[List.take_length]
 congr 1
 rw[FW];exact propext ⟨fun h=>⟨h.2,h.1⟩,fun h=>⟨h.2,h.1⟩⟩
theorem BZ0:H6 (elR s (FH s).length) (eB s) 2=eR s:=by
 funext k
 unfold elR eR H6;rw[List.take_length];by_cases e:k=eB s
 ·rw[if_pos e,if_pos e]
 ·rw[if_neg e,if_neg e];show (if k∈FH s then(1:Int)else 0)=_
  congr 1
  rw[FW];exact propext ⟨fun h=>⟨h.2,h.1⟩,fun h=>⟨h.2,h.1⟩⟩
theorem BZ1(h:(FH s)[j]?=some i):elS s j i=s i:=by
 unfold elS;rw[if_neg];intro hm;have hnd:=QF s;rw[←List.take_append_drop j (FH s)]at hnd;have hd:i∈(FH s).drop j:=List.mem_of_getElem? (i:=0) (by rw[List.getElem?_drop];simpa using h);exact(List.pairwise_append.1 hnd).2.2 i hm i hd rfl
theorem BZ2(h:i∈FH s)(hb:G5 (s i).m (s (eB s)).m<(s i).dn):AI1 s=true:=by
 unfold AI1;rw[List.any_eq_true];exact⟨i,h,by simpa using hb⟩
theorem CB3(h:∀i∈FH s,(s i).dn≤G5 (s i).m (s (eB s)).m):AI1 s=false:=by
 unfold AI1;rw[List.any_eq_false];intro i hi;have:=h i hi;simp;omega
theorem Z9(s:Nat→Ps):(FH s).length≤3:=Nat.le_trans (List.length_filter_le _ _) (by simp)
theorem CB5(h:VX W)(hx:WX W k p):1≠k:=by
 intro e;have h1:=h.cell AE3 0 (by decide);have h2:=hx.count;rw[←e]at h2;rw[h2]at h1;simp[Lib.pow10Tab]at h1
theorem VX.touch{F:Nat→Prop}(h:VX W)(ht:Touch F W V)(hF:¬F 1):VX V:=by
 have hlt:=AU7 h;unfold VX Lib.TabIs World.var? at h⊢;simp only[AE3,Option.bind_some]at h⊢;rw[ht.block _ hlt hF];exact h
theorem aT(h:VX W)(hx:WX W k p)(ht:Touch (· =k) W V):VX V:=h.touch ht (CB5 h hx)
structure BxS(w V:World)(q:Nat)(s:Sv)(vd vl vn vs vw:Value):Prop where
 b:Below w.heap.size w V
 le:w.heap.size≤q
 box:BN V q s.up vd s.id s.ep vl s.dn s.tr.z vn vs vw
theorem BZ3{w1:World}{s:Sv}(h:Below w.heap.size w w1):BxS w (w1.alloc (.cells #[.bool s.up,vd,.int .i64 s.id,.int .i64 s.ep,vl,.int .i64 s.dn,.int .i64 s.tr.z,vn,vs,vw] 48)) w1.heap.size s vd vl vn vs vw:=
 ⟨AL h (AB _ _),h.size,BN.new _ _ _ _ _ _ _ _ _ _ _⟩
theorem BZ4{w1:World}{q:Nat}{s:Sv}(h:Below w.heap.size w w1)(hq:w.heap.size≤q)(hz:BN w1 q false (.slice none 0 0) 0 0 (.slice none 0 0) 0 0 (.slice none 0 0) (.slice none 0 0) (.slice none 0 0)):BxS w (KW w1 q (.bool s.up) vd (.int .i64 s.id) (.int .i64 s.ep) vl (.int .i64 s.dn) (.int .i64 s.tr.z) vn vs vw) q s vd vl vn vs vw:=
 ⟨EU h hq _ _ _ _ _ _ _ _ _ _,hq,fB hz _ _ _ _ _ _ _ _ _ _⟩
def RqB(W:World)(g:Nat)(r:Rq):Prop:=W.heap[g]?=some (.cells #[.int .i64 r.o,.int .i64 r.s,.string ⟨r.p.toArray⟩,.string ⟨r.d.toArray⟩,.int .i64 r.v,.int .i64 r.f] 27 (0,0))
theorem RqB.new(w:World)(r:Rq):RqB (w.alloc (.cells #[.int .i64 r.o,.int .i64 r.s,.string ⟨r.p.toArray⟩,.string ⟨r.d.toArray⟩,.int .i64 r.v,.int .i64 r.f] 27)) w.heap.size r:=heap_alloc_new w _
theorem RqB.lt(h:RqB W g r):g<W.heap.size:=(Array.getElem?_eq_some_iff.1 h).1
theorem RqB.next(h:RqB W g r)(hb:Below W.heap.size W V):RqB V g r:=(hb.block g h.lt).trans h
theorem RqB.cells(h:RqB W g r):W.cell? ⟨g,0,none⟩=some (.int .i64 r.o)∧W.cell? ⟨g,1,none⟩=some (.int .i64 r.s)∧W.cell? ⟨g,2,none⟩=some (.string ⟨r.p.toArray⟩)∧W.cell? ⟨g,3,none⟩=some (.string ⟨r.d.toArray⟩)∧W.cell? ⟨g,4,none⟩=some (.int .i64 r.v)∧W.cell? ⟨g,5,none⟩=some (.int .i64 r.f):=by
 unfold RqB at h;refine⟨?_,?_,?_,?_,?_,?_⟩<;>simp[World.cell?,h]
theorem RqB.AX(h:RqB W g r)(j:Nat):W.frozen? ⟨g,j,none⟩=false:=by
 unfold RqB at h;simp[World.frozen?,h]
theorem RqB.set(h:RqB W g r)(s:Int):RqB (W.setCell ⟨g,1,none⟩ (.int .i64 s)) g ⟨r.o,s,r.p,r.d,r.v,r.f⟩:=by
 unfold RqB at h⊢;rw[AV _ h];rfl
structure PP(w W:World)(d:Dd):Prop where
 b:Below w.heap.size w W
 a:TAt W (w.heap.size+1) t0
 d:F5 W w.heap.size d
theorem PP.start(w:World)(d:Dd):PP w ((w.alloc (.cells #[.int .i64 d.k,.int .i64 d.c,.int .i64 d.s,.int .i64 d.q.o,.int .i64 d.q.s,.string ⟨d.q.p.toArray⟩,.string ⟨d.q.d.toArray⟩,.int .i64 d.q.v,.int .i64 d.q.f,.int .i64 d.lo,.int .i64 d.sl,.int .i64 d.ke,.bool d.wt] 29)).alloc (.cells #[.int .i64 0,.int .i64 0,.int .i64 0,.string ⟨#[]⟩,.string ⟨#[]⟩,.int .i64 0,.int .i64 0] 62)) d:=by
 exact⟨AL (AB _ _) (AB _ _),XY _ _ _,F5.TY (heap_alloc_new w _:F5 (w.alloc _) w.heap.size d) (AB _ _) (by simp)⟩
theorem PP.next{d:Dd}(h:PP w W d)(hb:Below W.heap.size W V):PP w V d:=⟨AL h.b hb,h.a.next hb,h.d.TY hb h.d.ltz⟩
theorem A56{d:Dd}(h:F5 W g d):(W.cell? ⟨g,0,none⟩=some (.int .i64 d.k)∧W.cell? ⟨g,1,none⟩=some (.int .i64 d.c)∧W.cell? ⟨g,2,none⟩=some (.int .i64 d.s)∧W.cell? ⟨g,3,none⟩=some (.int .i64 d.q.o)∧W.cell? ⟨g,4,none⟩=some (.int .i64 d.q.s)∧W.cell? ⟨g,5,none⟩=some (.string ⟨d.q.p.toArray⟩)∧W.cell? ⟨g,6,none⟩=some (.string ⟨d.q.d.toArray⟩))∧W.cell? ⟨g,7,none⟩=some (.int .i64 d.q.v)∧W.cell? ⟨g,8,none⟩=some (.int .i64 d.q.f)∧W.cell? ⟨g,9,none⟩=some (.int .i64 d.lo)∧W.cell? ⟨g,10,none⟩=some (.int .i64 d.sl)∧W.cell? ⟨g,11,none⟩=some (.int .i64 d.ke)∧W.cell? ⟨g,12,none⟩=some (.bool d.wt):=by
 have r:=h.row;simp only[Nat.zero_add]at r;exact⟨⟨r 0 _ rfl,r 1 _ rfl,r 2 _ rfl,r 3 _ rfl,r 4 _ rfl,r 5 _ rfl,r 6 _ rfl⟩,r 7 _ rfl,r 8 _ rfl,r 9 _ rfl,r 10 _ rfl,r 11 _ rfl,r 12 _ rfl⟩
theorem ZQ(p:Pw)(d:Dd)(k b:Nat)(W:World)(hx:WX W k p)(hT:VX W)(hb:b<3)(hl:ldP p.r=b)(hu:(p.s b).up=true)(hok:II 300 (p.s b))(hn:nxE (p.s b).e (DL (p.s b).m)=0)(hc:0≤d.c∧d.c<16)(hp:d.q.p.length≤140737488355328)(hd:d.q.d.length≤140737488355328):
  Calls prog 84 #[wP k,ddV d] W fun e w'=>e=.returned (.tuple #[DX (wX p d),.int .i64 (wE p d)])∧Below W.heap.size W w':=by
 have D0:=AA (PP.start W d);obtain⟨c,hc16,hdc⟩:∃c:Nat,c<16∧d.c=c:=⟨d.c.toNat,by omega,by omega⟩;obtain⟨ad,nd,cd,al,cl,an,cn,ai,ci,aw,cw,SS,hv,_⟩:=hx.srv hb rfl;obtain⟨ca,cc,k0,k1,k2,_⟩:=hx.cl hc16;have hsv:=DJ (i:=b) hu;have CL:=AA (fun V (hV:Below W.heap.size W V)=>O8 p k V (hx.next hV));rw[hl]at CL;have HV:=AA (fun V (hV:Below W.heap.size W V)=>hv.next hV);have CN:=AA (fun V (hV:Below W.heap.size W V)=>BE8 ⟨(svP b (p.s b)).id,(svP b (p.s b)).ep,al,cl,(svP b (p.s b)).ts,(svP b (p.s b)).dn⟩ V (by
  obtain⟨_,_,_,_,_,e,_,r2,_,_,_⟩:=hv.next hV;simp only[Value.agg.injEq,Array.mk.injEq,List.cons.injEq,true_and,and_true]at e;rw[←e.2.1]at r2;exact r2))
 have HT:=AA hT;have hgt:MQ (svP b (p.s b)).tr:=by rw[hsv];exact hok.play.good hok.dn
 have CP:=AA (fun V (hV:Below W.heap.size W V) (z:Int)=>yE (svP b (p.s b)).tr z (.slice an (svP b (p.s b)).tr.ns.length cn) (.slice ai (svP b (p.s b)).tr.ss.length ci) (wQ p d) V (by
  obtain⟨_,_,_,_,_,e,_,_,r3,_,_⟩:=hv.next hV;simp only[Value.agg.injEq,Array.mk.injEq,List.cons.injEq,true_and,and_true]at e;rw[←e.2.2.1]at r3;exact r3) (by
  obtain⟨_,_,_,_,_,e,_,_,_,r4,_⟩:=hv.next hV;simp only[Value.agg.injEq,Array.mk.injEq,List.cons.injEq,true_and,and_true]at e;rw[←e.2.2.2.1]at r4;exact r4) hgt.pwf hp hd ((A8 HT).next hV))
 have HE:Hid (wX p d=AI0 (svP b (p.s b)).tr (nxN (svP b (p.s b)).ep (DL (svP b (p.s b)).ts)) (wQ p d)∧wE p d=ZU (svP b (p.s b)).tr (nxN (svP b (p.s b)).ep (DL (svP b (p.s b)).ts)) (wQ p d)):=AA (by
  have hln:ldN p.r=b:=by rw[ldN,hl];simp
  rw[wX,wE,wTr,wZ,hln,hsv];exact⟨rfl,rfl⟩)
 have hne:nxE (svP b (p.s b)).ep (DL (svP b (p.s b)).ts)=0:=by rw[hsv];exact hn
 rw[hne]at CN;have hdn:(p.c d.c.toNat).s=(p.c c).s:=by rw[hdc];rfl
 have HQ:Hid (wQ p d=⟨d.q.o,(p.c c).s,d.q.p,d.q.d,d.q.v,d.q.f⟩):=AA (by rw[wQ,hdn]);have HX:=AA hx;obtain⟨dk,dc,ds,⟨o,s,pp,dd,v,f⟩,lo,sl,ke,wt⟩:=d;simp only at hdc HQ;subst hdc;rw[(A8 HE).1,(A8 HE).2];rw[A8 HQ]at CP⊢;clear HQ HE;generalize hs0:svP b (p.s b)=s0 at*;unfold wP ddV;have HS:=AA (fun V (hV:Below W.heap.size W V)=>SS.next hx.lt hV);simp only[Nat.mul_comm 10 b]at HS;have HC:=AA (And.intro k0 (And.intro k1 k2));have hk0:=hx.lt;have hb4:(b:Int)<3:=by omega
 have hc4:(c:Int)<16:=by omega
 unfold peV at CN;unfold rqV A55 DX at CP;clear SS hv k0 k1 k2 hsv hl hT hgt hn hne hc hp hd hx hs0 hok hu hdn;go_enter func84,ntmps84;go_upto_region 1 with fail;generalize ((W.alloc _).alloc _)=W1 at*;have hkW:k<W1.heap.size:=Nat.lt_of_lt_of_le hk0 (A8 D0).b.size;have HKS:Hid (∀V,Below W1.heap.size W1 V→V.cell? ⟨k,1+b*10,none⟩=some (.bool s0.up)∧V.cell? ⟨k,1+b*10+1,none⟩=some (.slice ad nd cd)∧V.cell? ⟨k,1+b*10+2,none⟩=some (.int .i64 s0.id)∧V.cell? ⟨k,1+b*10+3,none⟩=some (.int .i64 s0.ep)∧V.cell? ⟨k,1+b*10+4,none⟩=some (.slice al s0.ts.length cl)∧V.cell? ⟨k,1+b*10+5,none⟩=some (.int .i64 s0.dn)∧V.cell? ⟨k,1+b*10+6,none⟩=some (.int .i64 s0.tr.z)∧V.cell? ⟨k,1+b*10+7,none⟩=some (.slice an s0.tr.ns.length cn)∧V.cell? ⟨k,1+b*10+8,none⟩=some (.slice ai s0.tr.ss.length ci)∧V.cell? ⟨k,1+b*10+9,none⟩=some (.slice aw s0.ws.length cw)):=AA fun V hV=>by
  obtain⟨c0,c1,c2,c3,c4,c5,c6,c7,c8,c9⟩:=A8 HS V (AL (A8 D0).b hV);exact⟨c0,c1,c2,c3,c4,c5,c6,c7,c8,c9⟩
 replace CL:=AA (fun V (hV:Below W1.heap.size W1 V)=>A8 CL V (AL (A8 D0).b hV))
 go_cut [6]from 10 (fun t6 wx=>∃q,t6=.pointer (some ⟨q,0,none⟩)∧Hid (BxS W1 wx q s0 (.slice ad nd cd) (.slice al s0.ts.length cl) (.slice an s0.tr.ns.length cn) (.slice ai s0.tr.ss.length ci) (.slice aw s0.ws.length cw)))
 case first=>
  have hS0:=A8 HKS _ (Below.refl W1.heap.size W1).drew;refine wp_region_held (S:=fun V:World=>V.cell? ⟨k,1+b*10,none⟩=some (.bool s0.up)∧V.cell? ⟨k,1+b*10+1,none⟩=some (.slice ad nd cd)∧V.cell? ⟨k,1+b*10+2,none⟩=some (.int .i64 s0.id)∧V.cell? ⟨k,1+b*10+3,none⟩=some (.int .i64 s0.ep)∧V.cell? ⟨k,1+b*10+4,none⟩=some (.slice al s0.ts.length cl)∧V.cell? ⟨k,1+b*10+5,none⟩=some (.int .i64 s0.dn)∧V.cell? ⟨k,1+b*10+6,none⟩=some (.int .i64 s0.tr.z)∧V.cell? ⟨k,1+b*10+7,none⟩=some (.slice an s0.tr.ns.length cn)∧V.cell? ⟨k,1+b*10+8,none⟩=some (.slice ai s0.tr.ss.length ci)∧V.cell? ⟨k,1+b*10+9,none⟩=some (.slice aw s0.ws.length cw)) (by kernel_rfl) ?_;change wpAnyH _ _ _ _ _ _ _ _ W1.drew;refine tkH 0 hS0 ?_;refine tkH 1 hS0 ?_;refine tkH 3 hS0 ?_;refine tkH 4 hS0 ?_;refine rd2 2 7 (fun K hK=>?_) (fun K hK=>?_)
  ·go_simp;refine(A8 CL _ (Below.refl _ _).drew).mono ?_;rintro e w1 ⟨rfl,hb1⟩;have aB1:Hid (Below W1.heap.size W1 w1):=AA (AL (Below.refl _ _).drew hb1);clear hb1;have hS1:=A8 HKS _ (A8 aB1);refine nxH hK hS1 ?_;clear hK K;refine tkH 5 hS1 ?_;refine tkH 6 hS1 ?_;refine rd1 7 (fun K hK=>?_);go_simp;have hS2:=A8 HKS _ (AL (A8 aB1) (AB w1 (.cells #[.bool false,.slice none 0 0,.int .i64 0,.int .i64 0,.slice none 0 0,.int .i64 0,.int .i64 0,.slice none 0 0,.slice none 0 0,.slice none 0 0] 48)));refine nxH hK hS2 ?_;clear hK K;refine rd1 8 (fun K hK=>?_);go_simp;have hX2:Hid (BxS W1 _ _ s0 (.slice ad nd cd) (.slice al s0.ts.length cl) (.slice an s0.tr.ns.length cn) (.slice ai s0.tr.ss.length ci) (.slice aw s0.ws.length cw)):=AA (BZ3 (A8 aB1));have hS3:=A8 HKS _ (A8 hX2).b;refine nxH hK hS3 ?_;clear hK K;refine wpAnyH_done (by kernel_rfl) ?_ _;go_wp2_with fail
   go_meet
   exact⟨_,rfl,hX2⟩
  ·go_simp;have hS2:=A8 HKS _ (AL (Below.refl W1.heap.size W1).drew (AB W1.drew (.cells #[.bool false,.slice none 0 0,.int .i64 0,.int .i64 0,.slice none 0 0,.int .i64 0,.int .i64 0,.slice none 0 0,.slice none 0 0,.slice none 0 0] 48)));refine nxH hK hS2 ?_;clear hK K;refine rd1 2 (fun K hK=>?_);go_simp;refine(A8 CL _ (AL (Below.refl _ _).drew (AB _ _))).mono ?_;rintro e w1 ⟨rfl,hb1⟩;have aB1:Hid (Below W1.heap.size W1 w1):=AA (AL (AL (Below.refl _ _).drew (AB _ _)) hb1);have aZ1:Hid (BN w1 W1.heap.size false (.slice none 0 0) 0 0 (.slice none 0 0) 0 0 (.slice none 0 0) (.slice none 0 0) (.slice none 0 0)):=AA ((hb1.block _ (by simp)).trans (heap_alloc_new W1.drew _));clear hb1;have hS1:=A8 HKS _ (A8 aB1);refine nxH hK hS1 ?_;clear hK K;refine tkH 5 hS1 ?_;refine tkH 6 hS1 ?_;refine rd1 8 (fun K hK=>?_);have z0:=(A8 aZ1).AX 0;have z1:=(A8 aZ1).AX 1;have z2:=(A8 aZ1).AX 2;have z3:=(A8 aZ1).AX 3;have z4:=(A8 aZ1).AX 4;have z5:=(A8 aZ1).AX 5;have z6:=(A8 aZ1).AX 6;have z7:=(A8 aZ1).AX 7;have z8:=(A8 aZ1).AX 8;have z9:=(A8 aZ1).AX 9;obtain⟨x0,x1,x2,x3,x4,x5,x6,x7,x8,x9⟩:=(A8 aZ1).cells;go_simp;have hX2:Hid (BxS W1 _ _ s0 (.slice ad nd cd) (.slice al s0.ts.length cl) (.slice an s0.tr.ns.length cn) (.slice ai s0.tr.ss.length ci) (.slice aw s0.ws.length cw)):=AA (BZ4 (A8 aB1) (Nat.le_refl _) (A8 aZ1));have hS3:=A8 HKS _ (A8 hX2).b;refine nxH hK hS3 ?_;clear hK K;refine wpAnyH_done (by kernel_rfl) ?_ _;go_wp2_with fail
   go_meet
   exact⟨_,rfl,hX2⟩
 case rest=>
  obtain⟨q,rfl,HQ⟩:=hcut;have D1:=AA ((A8 D0).next (A8 HQ).b);have B1:=AA (A8 D1).b;obtain⟨q0,q1,q2,q3,q4,q5,q6,q7,q8,q9⟩:=(A8 HQ).box.cells;clear HKS CL D0;go_wp2_with fail;refine(A8 CN _ (A8 B1)).mono ?_;rintro e w2 ⟨rfl,hb2⟩;have D2:=AA ((A8 D1).next hb2);have Q2:=AA ((A8 HQ).box.next hb2);have hq2:=hb2.size;have hql:=(A8 HQ).le;have hqt:=(A8 HQ).box.lt;have hWg:=(Array.getElem?_eq_some_iff.1 (A8 D2).a).1;clear q0 q1 q2 q3 q4 q5 q6 q7 q8 q9 CN D1 B1 HQ hb2;obtain⟨⟨e0,e1,e2,e3,e4,e5,e6⟩,e7,e8,e9,e10,e11,e12⟩:=A56 (A8 D2).d;go_upto_region 6 with fail;have D3:=AA ((A8 D2).next (AB w2 (.cells #[.int .i64 o,.int .i64 s,.string ⟨pp.toArray⟩,.string ⟨dd.toArray⟩,.int .i64 v,.int .i64 f] 27)));have Q3:=AA ((A8 Q2).next (AB w2 (.cells #[.int .i64 o,.int .i64 s,.string ⟨pp.toArray⟩,.string ⟨dd.toArray⟩,.int .i64 v,.int .i64 f] 27)));have G3:=AA (RqB.new w2 ⟨o,s,pp,dd,v,f⟩);simp only at G3;generalize w2.alloc _=W3 at*;have hg3:w2.heap.size<W3.heap.size:=(A8 G3).lt;generalize hg:w2.heap.size=g at*;clear D2 Q2 e0 e1 e2 e3 e4 e5 e6 e7 e8 e9 e10 e11 e12 hg;obtain⟨⟨_,e1,_,_,_,_,_⟩,_,_,_,_,_,_⟩:=A56 (A8 D3).d;obtain⟨g0,g1,g2,g3,g4,g5⟩:=(A8 G3).cells;have gf:=(A8 G3).AX 1;have hdl:=(A8 D3).d.ltz;have hkW3:k<W3.heap.size:=Nat.lt_of_lt_of_le hk0 (A8 D3).b.size;have y0:W3.cell? ⟨k,34+c*3,none⟩=some (.int .i64 (p.c c).s):=by
   rw[World.cell?,(A8 D3).b.block k hk0,Nat.mul_comm c 3];exact(A8 HC).1
  have hgk:g≠k:=by omega
  have hgW:g≠W.heap.size:=by omega
  simp only at e1 g0 g1 g2 g3 g4 g5;go_region;have B4:=AA (((A8 D3).b.setCell (p:=⟨g,1,none⟩) (by simp only;omega) (.int .i64 (p.c c).s)).drew);have A4:=AA (TAt.next (W:=W3.setCell ⟨g,1,none⟩ (.int .i64 (p.c c).s)) ((Below.heap_setCell W3 ⟨g,1,none⟩ (.int .i64 (p.c c).s) _ (by simp only;omega)).trans (A8 D3).a) (Below.refl _ _).drew);have Q4:=AA (((A8 Q3).other (i:=g) (j:=1) (u:=.int .i64 (p.c c).s) (by omega)).next (Below.refl _ _).drew);have G4:=AA (((A8 G3).set (p.c c).s).next (Below.refl _ _).drew);generalize World.drew _=W4 at*;clear D3 Q3 G3 e1 g0 g1 g2 g3 g4 g5 gf y0 hgk hgW hkW3;obtain⟨q0,q1,q2,q3,q4,q5,q6,q7,q8,q9⟩:=(A8 Q4).cells;obtain⟨g0,g1,g2,g3,g4,g5⟩:=(A8 G4).cells;simp only at g0 g1 g2 g3 g4 g5;go_wp2_with fail;refine(A8 CP _ (A8 B4) _).mono ?_;rintro e w5 ⟨rfl,hb5⟩;have A5:=(A8 A4).next hb5;obtain⟨a0,a1,a2,a3,a4,a5,a6⟩:w5.cell? ⟨W.heap.size+1,0,none⟩=some (.int .i64 0)∧w5.cell? ⟨W.heap.size+1,1,none⟩=some (.int .i64 0)∧w5.cell? ⟨W.heap.size+1,2,none⟩=some (.int .i64 0)∧w5.cell? ⟨W.heap.size+1,3,none⟩=some (.string ⟨#[]⟩)∧w5.cell? ⟨W.heap.size+1,4,none⟩=some (.string ⟨#[]⟩)∧w5.cell? ⟨W.heap.size+1,5,none⟩=some (.int .i64 0)∧w5.cell? ⟨W.heap.size+1,6,none⟩=some (.int .i64 0):=⟨A5.c0,A5.c1,A5.c2,A5.c3,A5.c4,A5.c5,A5.c6⟩;have f0:=A5.f 0;have f1:=A5.f 1;have f2:=A5.f 2;have f3:=A5.f 3;have f4:=A5.f 4;have f5:=A5.f 5;have f6:=A5.f 6;generalize hXX:AI0 _ _ _=X at*;generalize hEE:ZU _ _ _=E at*;have HXX:=AA hXX;have HEE:=AA hEE;clear hXX hEE;have B5:=AA (KG X (AL (A8 B4) hb5) (show W.heap.size≤W.heap.size+1 by omega));clear A5 hb5 B4 A4 Q4 G4 CP;unfold put7 at B5;go_wp2_with fail;exact bodyPost_ret (v:=.tuple #[.agg #[.int .i64 X.z,.int .i64 X.o,.int .i64 X.s,.string ⟨X.p.toArray⟩,.string ⟨X.d.toArray⟩,.int .i64 X.v,.int .i64 X.w],.int .i64 E]) (by simp[results,results84,go_sem,a0,a1,a2,a3,a4,a5,a6]) rfl ⟨by rw[A8 HXX,A8 HEE];rfl,A8 B5⟩
structure Off(f:Nat→Value)(p:Pw)(g:Nat):Prop where
 d:∀i,i<3→(svP i (p.s i)).fs≠[]→QH (f (1+10*i+1)) g
 l:∀i,i<3→(svP i (p.s i)).ts≠[]→QH (f (1+10*i+4)) g
 n:∀i,i<3→(svP i (p.s i)).tr.ns≠[]→QH (f (1+10*i+7)) g
 i:∀i,i<3→(svP i (p.s i)).tr.ss≠[]→QH (f (1+10*i+8)) g
 w:∀i,i<3→(svP i (p.s i)).ws≠[]→QH (f (1+10*i+9)) g
 c:∀i,i<16→(p.c i).es≠[]→QH (f (34+3*i+2)) g
 a:p.D≠[]→QH (f 82) g
def WXO(W:World)(k:Nat)(p:Pw)(v:Value):Prop:=∃f,WB W k f∧WdR W k f p∧∀g,v.ownBlock=some g→Off f p g
theorem WXO.x(h:WXO W k p v):WX W k p:=by
 obtain⟨f,h1,h2,_⟩:=h;exact⟨f,h1,h2⟩
theorem yF{f:Nat→Value}(h:WdR W k f p)(hg:W.heap.size≤g):Off f p g:=
 ⟨fun i hi h0=>(Row.new (h.s i hi).d.1 hg).2 h0,fun i hi h0=>(Row.new (h.s i hi).l.1 hg).2 h0,fun i hi h0=>(Row.new (h.s i hi).n.1 hg).2 h0,fun i hi h0=>(Row.new (h.s i hi).i.1 hg).2 h0,fun i hi h0=>(Row.new (h.s i hi).w.1 hg).2 h0,fun i hi h0=>(Row.new (h.c i hi).e.1 hg).2 h0,fun h0=>(Row.new h.d.1 hg).2 h0⟩
theorem WX.off(h:WX W k p):WXO W k p (N0):=by
 obtain⟨f,h1,h2⟩:=h;exact⟨f,h1,h2,fun g hg=>by simp[Value.ownBlock]at hg⟩
theorem WXO.far(h:WXO W k p v)(hv:v.ownBlock=some g)(hk:k≠g)(ht:Touch (· =g) W V):WXO V k p v:=by
 obtain⟨f,hb,hr,ho⟩:=h;have o:=ho g hv;refine⟨f,hb.touch ht hk,⟨hr.n,fun i hi=>?_,hr.r,fun i hi=>⟨(hr.c i hi).s,(hr.c i hi).z,(hr.c i hi).e.far ht (o.c i hi)⟩,hr.d.far ht o.a,hr.h,hr.hk⟩,ho⟩;have s:=hr.s i hi;exact⟨s.up,s.d.far ht (o.d i hi),s.id,s.ep,s.l.far ht (o.l i hi),s.dn,s.z,s.n.far ht (o.n i hi),s.i.far ht (o.i i hi),s.w.far ht (o.w i hi)⟩
theorem WXO.next(h:WXO W k p v)(hb:B0 W V):WXO V k p v:=by
 obtain⟨f,h1,h2,h3⟩:=h;exact⟨f,h1.next hb,h2.next hb,h3⟩
theorem WXO.grown{v':Value}(h:WXO W k p v)(hk:∀g,v.ownBlock=some g→k≠g)(hg:W.grownBy V v.ownBlock)(hn:∀g,v'.ownBlock=some g→v.ownBlock=some g∨W.heap.size≤g):WXO V k p v':=by
 have h1:WXO V k p v∧∀f,WB W k f→WdR W k f p→∀g,W.heap.size≤g→Off f p g:=⟨by
  cases e:v.ownBlock with
  |none=>exact h.next (by rw[e]at hg;exact⟨hg.os,hg.tape,hg.output,hg.size,fun b hb=>hg.block b hb (by simp)⟩)
  |some g=>exact h.far e (hk g e) ⟨hg.os,hg.tape,hg.output,hg.size,fun b hb hne=>hg.block b hb (by rw[e];intro e';exact hne (Option.some.inj e'))⟩,fun f _ hr g hg=>yF hr hg⟩
 obtain⟨f,hb,hr,ho⟩:=h;obtain⟨f1,hb1,hr1,ho1⟩:=h1.1;have ef:∀j,j<83→f1 j=f j:=fun j hj=>by
  have c1:=hb1.cell hj;have c2:=hb.cell hj;have:V.cell? ⟨k,j,none⟩=W.cell? ⟨k,j,none⟩:=by
   rw[World.cell?,World.cell?,hg.block k hb.lt (fun e=>hk k e.symm rfl)]
  rw[this,c2]at c1;exact(Option.some.inj c1).symm
 refine⟨f1,hb1,hr1,fun g hg'=>?_⟩;rcases hn g hg' with e|e
 ·exact ho1 g e
 ·have o:=yF hr e;exact⟨fun i hi h0=>by rw[ef _ (by omega)];exact o.d i hi h0,fun i hi h0=>by rw[ef _ (by omega)];exact o.l i hi h0,fun i hi h0=>by rw[ef _ (by omega)];exact o.n i hi h0,fun i hi h0=>by rw[ef _ (by omega)];exact o.i i hi h0,fun i hi h0=>by rw[ef _ (by omega)];exact o.w i hi h0,fun i hi h0=>by rw[ef _ (by omega)];exact o.c i hi h0,fun h0=>by rw[ef _ (by omega)];exact o.a h0⟩
structure Fr5(B:Nat)(vd vl vn vs vw:Value):Prop where
 d:∀g,g<B→QH vd g
 l:∀g,g<B→QH vl g
 n:∀g,g<B→QH vn g
 i:∀g,g<B→QH vs g
 w:∀g,g<B→QH vw g
theorem WXO.jT(h:WXO W k p v)(hi:i<3){s:Sv}(hq:svP i q=s)(hv:SvV W (.agg #[.bool s.up,vd,I0 s.id,I0 s.ep,vl,I0 s.dn,I0 s.tr.z,vn,vs,vw]) s){B:Nat}(hf:Fr5 B vd vl vn vs vw)(hk:k<B)(hg:∀g,v.ownBlock=some g→g<B):
  WXO (tV W k (1+10*i) (.bool s.up) vd (I0 s.id) (I0 s.ep) vl (I0 s.dn) (I0 s.tr.z) vn vs vw) k ⟨p.n,H6 p.s i q,p.r,p.c,p.D,p.H,p.h⟩ v:=by
 obtain⟨f,hb,hr,ho⟩:=h;have hA:SvA W k (C32 (.bool s.up) vd (I0 s.id) (I0 s.ep) vl (I0 s.dn) (I0 s.tr.z) vn vs vw) s:=SvA.of (hr.ZW hb) hv (fun _=>hf.i k hk) rfl rfl rfl rfl rfl rfl rfl rfl rfl rfl;refine⟨_,hb.tV (o:=1+10*i) (by omega) _ _ _ _ _ _ _ _ _ _,WdR.touch (W:=W) ?_ (U1 _ _ _ _ _ _ _ _ _ _ _ _ _),fun g e=>?_⟩
 ·refine⟨by rw[EI (by omega)];exact hr.n,fun j hj=>?_,fun j hj=>by rw[EI (by omega)];exact hr.r j hj,fun j hj=>(hr.c j hj).congr fun q hq=>by rw[EI (by omega)],by rw[EI (by omega)];exact hr.d,fun j hj h0=>?_,hr.hk⟩
  ·by_cases e:j=i
   ·subst e;simp only[BQ,hq];exact hA.congr fun q hq=>by rw[JJ hq]
   ·simp only[AP _ _ e];exact(hr.s j hj).congr fun q hq=>by rw[EI (by omega)]
  ·by_cases e:j=i
   ·subst e;rw[JJ (by omega)];exact fun b hb=>hf.i b (Nat.lt_of_le_of_lt (Nat.le_trans hb hr.hk) hk)
   ·simp only[AP _ _ e]at h0;rw[EI (by omega)];exact hr.h j hj h0
 ·have o:=ho g e;have hgB:=hg g e;refine⟨fun j hj h0=>?_,fun j hj h0=>?_,fun j hj h0=>?_,fun j hj h0=>?_,fun j hj h0=>?_,fun j hj h0=>by rw[EI (by omega)];exact o.c j hj h0,fun h0=>by rw[EI (by omega)];exact o.a h0⟩
  all_goals
   by_cases e:j=i
   ·subst e;rw[JJ (by omega)]
    first|exact hf.d g hgB|exact hf.l g hgB|exact hf.n g hgB|exact hf.i g hgB|exact hf.w g hgB
   ·rw[EI (by omega)];simp only[AP _ _ e]at h0
    first|exact o.d j hj h0|exact o.l j hj h0|exact o.n j hj h0|exact o.i j hj h0|exact o.w j hj h0
def BZ5(w:World)(s:Sv)(T:List Nt)(e:Ending)(w':World):Prop:=
 ∃ad nd cd al cl an cn ai ci aw cw aN cN,e=.returned (.tuple #[.agg #[.bool s.up,.slice ad nd cd,I0 s.id,I0 s.ep,.slice al s.ts.length cl,I0 s.dn,I0 s.tr.z,.slice an s.tr.ns.length cn,.slice ai s.tr.ss.length ci,.slice aw s.ws.length cw],.slice aN T.length cN,I0 0])∧
  Hid (SvV w' (.agg #[.bool s.up,.slice ad nd cd,I0 s.id,I0 s.ep,.slice al s.ts.length cl,I0 s.dn,I0 s.tr.z,.slice an s.tr.ns.length cn,.slice ai s.tr.ss.length ci,.slice aw s.ws.length cw]) s∧Fr5 w.heap.size (.slice ad nd cd) (.slice al s.ts.length cl) (.slice an s.tr.ns.length cn) (.slice ai s.tr.ss.length ci) (.slice aw s.ws.length cw)∧BZ w' (.slice aN T.length cN) T∧∀g,g<w.heap.size→QH (.slice aN T.length cN) g)∧B0 w w'
theorem BH4{w':World}{s:Sv}{T:List Nt}{e:Ending}(h:fA w s T 0 e w')(hf:FrS w e):BZ5 w s T e w':=by
 obtain⟨v,aN,cN,rfl,hs,hn,hb⟩:=h;obtain⟨ad,nd,cd,al,cl,an,cn,ai,ci,aw,cw,rfl,_⟩:=hs.five;obtain⟨f8,f1,f4,f7,f9,fy⟩:=hf _ _ _ _ _ _ _ _ _ _ _ _ rfl;exact⟨ad,nd,cd,al,cl,an,cn,ai,ci,aw,cw,aN,cN,rfl,AA ⟨hs,⟨fun g hg=>GL f1 hg,fun g hg=>GL f4 hg,fun g hg=>GL f7 hg,fun g hg=>GL f8 hg,fun g hg=>GL f9 hg⟩,hn,fun g hg=>GL fy hg⟩,hb⟩
theorem sJ:∀ (l:List Nat) (s:Nat→Ps) (i:Nat),IK s (l++[i])=(H6 (IK s l).1 i (aQ i ((IK s l).1 i)),(IK s l).2++(YD i ((IK s l).1 i)).2)
 |[],s,i=>by simp[IK]
 |j::l,s,i=>by
  show ((IK (H6 s j (aQ j (s j))) (l++[i])).1,(YD j (s j)).2++(IK (H6 s j (aQ j (s j))) (l++[i])).2)=_;rw[sJ l _ i];simp[IK]
theorem mZ:∀ (l:List Nat) (s:Nat→Ps),l.Nodup→(∀i∈l,(s i).up=true)→(∀i∈l,((s i).ws.length:Int)≤300)→(IK s l).2.length≤l.length*300
 |[],s,_,_,_=>by simp[IK]
 |j::l,s,hn,hu,hw=>by
  obtain⟨h1,h2⟩:=List.nodup_cons.1 hn;have hj:=(AW9 (i:=j) (hu j (by simp))).2.1;have hwj:=hw j (by simp);have same:∀i∈l,H6 s j (aQ j (s j)) i=s i:=fun i hi=>AP _ _ (by rintro rfl;exact h1 hi);have ih:=mZ l (H6 s j (aQ j (s j))) h2 (fun i hi=>by rw[same i hi];exact hu i (by simp[hi])) (fun i hi=>by rw[same i hi];exact hw i (by simp[hi]));show ((YD j (s j)).2++_).length≤_;rw[List.length_append,List.length_cons];omega
theorem AF8(W:World)(ty:TypeId)(B:Nat)(v u:Value)(N T:List Nt)(hv:BF W B v N)(hu:BZ W u T)(hl:(N.length+T.length)*32≤140737488355328)(hB:B≤W.heap.size):
  ∃v' w',(Builtin.append_ #[33,33] ty #[v,u]).run prog W=.ok v' w'∧BF w' B v' (N++T)∧W.grownBy w' v.ownBlock∧∀g,v'.ownBlock=some g→v.ownBlock=some g∨W.heap.size≤g:=by
 obtain⟨i0,hi0,hz0,hz1,hz2⟩:=AN9;have main:∀ (a:Addr) (c:Nat),(∀j x,(AO T)[j]?=some x→W.cell? (a.add j)=some x)→∃v' w',(Builtin.append_ #[33,33] ty #[v,.slice (some a) T.length c]).run prog W=.ok v' w'∧BF w' B v' (N++T)∧W.grownBy w' v.ownBlock∧∀g,v'.ownBlock=some g→v.ownBlock=some g∨W.heap.size≤g:=fun a c hc=>by
  obtain⟨v',w',h1,h2,h3,_,h5⟩:=run_append_own_at (P:=prog) W B 33 ty 248 i0 _ 3 32 underlying33 hi0 hz0 hz1 hz2 rfl (by decide) v N.length (AO N) hv.row a T.length c (AO T) (BA T) hc (EZ T) (by simp only[maxLen];omega) hl hB;refine⟨v',w',h1,BF.G8 (by rw[List.length_append,BH];exact h2),h3,fun g hg=>?_⟩;rcases h5 with e|e
  ·rw[e]at hg;exact .inl hg
  ·rw[e]at hg;simp only[Option.some.injEq]at hg;exact .inr (by omega)
 rcases hu with⟨a,cap,rfl,rfl,_⟩|⟨b,off,cap,rfl,_,_,_,_,hr⟩
 ·cases a with
  |some a=>exact main a cap (fun j x hj=>by simp[AO]at hj)
  |none=>
   refine⟨v,W,?_,by rw[List.append_nil];exact hv,⟨rfl,rfl,rfl,Nat.le_refl _,fun _ _ _=>rfl⟩,fun g hg=>.inl hg⟩;have hown:=hv.row;rcases hown.2 with⟨rfl,_⟩|⟨g,cap',cur,rfl,_,_,hnc,_⟩
   ·simp[Builtin.append_,run_underlying underlying33,sizeOf,typeInfo,hi0,Builtin.lenOf,Builtin.firstCells]
   ·simp[Builtin.append_,run_underlying underlying33,sizeOf,typeInfo,hi0,Builtin.lenOf,Builtin.firstCells,hnc,storeCells]
 ·exact main ⟨b,off,none⟩ cap (fun j x hj=>by rw[Addr.add_lit];exact hr j x hj)
theorem nC{w:World}{ops:Array Oper}{rest:List Oper}{o:Oper}{a:Act}{Q:Exit→Act→World→Prop}(hgd:o.guard=none)(s x:Operand)
  (ho:o.op=.call {callee:=.builtin .append,args:=#[s,x],argTypes:=#[33,33]})
  (B:Nat) (v u:Value) (N T:List Nt) (hs:a.eval s=v) (hx:a.eval x=u) (hv:BF w B v N) (hu:BZ w u T) (hl:(N.length+T.length)*32≤140737488355328) (hB:B≤w.heap.size)
  (h:∀a' c' w',BF w' B (.slice a' (N++T).length c') (N++T)→w.grownBy w' v.ownBlock→(∀g,(Value.slice a' (N++T).length c').ownBlock=some g→v.ownBlock=some g∨w.heap.size≤g)→wpList prog ops Q rest (a.put o.dst (.slice a' (N++T).length c')) w'):wpList prog ops Q (o::rest) a w:=by
 refine wpList_plain hgd fun K hK=>?_;obtain⟨v',w',hr,h2,h3,h4⟩:=AF8 w o.type B v u N T hv hu hl hB;obtain⟨a',c',rfl⟩:=BU h2;unfold Oper.wp execOp;simp only[ho,resolve,invoke,builtin,Sem.run_bind,Sem.run_pure,Result.andThen_ok,List.map_toArray,List.map_cons,List.map_nil,hs,hx,hr];exact hK _ _ (h a' c' w' h2 h3 h4)
noncomputable def spS(p:Pw)(d:Dd)(j:Nat):Nat→Ps:=fun k=>if k<j then wSv p d k else p.s k
def spR(p:Pw)(d:Dd)(j:Nat):Nat→Int:=fun k=>if k<j then wRo p d k else p.r k
def spL(p:Pw)(d:Dd)(j:Nat):List Int:=(([0,1,2].take j).filter fun i=>wS p d i).map fun i:Nat=>(i:Int)
section
variable {p:Pw} {d:Dd} {j:Nat}
theorem AZ4:spS p d 0=p.s∧spR p d 0=p.r:=by constructor<;>funext k<;>simp[spS,spR]
theorem BN7(h:wT p d j=false):spS p d (j+1)=spS p d j:=by
 funext k
 unfold spS;by_cases e:k=j
 ·subst e;rw[if_pos (by omega),if_neg (by omega),wSv,if_neg (by simp[h])]
 ·simp only[show (k<j+1)↔(k<j) by omega]
theorem BZ6(h:wT p d j=true):spS p d (j+1)=H6 (spS p d j) j (OQ (wX p d) (wS p d j) (p.s j)):=by
 funext k
 unfold spS H6;by_cases e:k=j
 ·subst e;rw[if_pos (by omega),if_pos rfl,wSv,if_pos h]
 ·rw[if_neg e];simp only[show (k<j+1)↔(k<j) by omega]
theorem CB6:spS p d j j=p.s j:=by rw[spS,if_neg (by omega)]
theorem CB7:spR p d j j=p.r j:=by rw[spR,if_neg (by omega)]
theorem CB8(h:wT p d j=false):spR p d (j+1)=H6 (spR p d j) j 0:=by
 funext k
 unfold spR H6;by_cases e:k=j
 ·subst e;rw[if_pos (by omega),if_pos rfl,wRo,if_neg (by simp[h])]
 ·rw[if_neg e];simp only[show (k<j+1)↔(k<j) by omega]
theorem A57(h:wRo p d j=p.r j):spR p d (j+1)=spR p d j:=by
 funext k
 unfold spR;by_cases e:k=j
 ·subst e;rw[if_pos (by omega),if_neg (by omega),h]
 ·simp only[show (k<j+1)↔(k<j) by omega]
theorem BZ7(hj:j<3)(h:wS p d j=true):spL p d (j+1)=spL p d j++[(j:Int)]:=by
 rcases(show j=0∨j=1∨j=2 by omega)with rfl|rfl|rfl<;>simp[spL,List.filter_cons,h]<;>(repeat' split)<;>simp
theorem AZ5(hj:j<3)(h:wS p d j=false):spL p d (j+1)=spL p d j:=by
 rcases(show j=0∨j=1∨j=2 by omega)with rfl|rfl|rfl<;>simp[spL,List.filter_cons,h]
theorem BZ8:(spL p d j).length≤3:=by
 rw[spL,List.length_map];exact Nat.le_trans (List.length_filter_le _ _) (by simp;omega)
theorem BN8(i:Nat)(hi:i<3):spS p d 3 i=wSv p d i∧spR p d 3 i=wRo p d i:=by rw[spS,spR,if_pos hi,if_pos hi];exact⟨rfl,rfl⟩
theorem BZ9:spL p d 3=(wL p d).map fun i:Nat=>(i:Int):=rfl
theorem C01(h:p.r j=0):wT p d j=false∧wS p d j=false:=by simp[wS,wT,h]
theorem C02(h:p.r j=1)(hb:A35 d.lo j=true):wT p d j=false∧wS p d j=false:=by simp[wS,wT,h,hb]
theorem Y7(h:p.r j=1)(hb:A35 d.lo j=false):wT p d j=true∧wS p d j= !A35 d.sl j:=by simp[wS,wT,h,hb]
theorem AZ6(h:p.r j=2):wT p d j=true∧wS p d j=true:=by simp[wS,wT,h]
theorem CB9(h:wT p d j=false):wRo p d j=0:=by rw[wRo,if_neg (by simp[h])]
theorem C03(h:wT p d j=true):wRo p d j=p.r j:=by rw[wRo,if_pos h]
end
theorem WX.CC0(h:WX W k p){r:Nat→Int}(hs:∀i,i<3→p.s i=s i)(hr:∀i,i<3→p.r i=r i):WX W k ⟨p.n,s,r,p.c,p.D,p.H,p.h⟩:=by
 obtain⟨f,hb,h⟩:=h;exact⟨f,hb,h.n,fun i hi=>by show SvA W k _ (svP i (s i));rw[←hs i hi];exact h.s i hi,fun i hi=>by show f (31+i)=I0 (r i);rw[←hr i hi];exact h.r i hi,h.c,h.d,fun i hi h0=>h.h i hi (by rw[hs i hi];exact h0),h.hk⟩
theorem WX.hist(h:WX W k p)(H:List AQ):WX W k ⟨p.n,p.s,p.r,p.c,p.D,H,p.h⟩:=by
 obtain⟨f,hb,h⟩:=h;exact⟨f,hb,h.n,h.s,h.r,h.c,h.d,h.h,h.hk⟩
theorem WXO.QY(h:WXO W k p v)(hi:i<3)(x:Int):WXO (W.setCell ⟨k,31+i,none⟩ (I0 x)) k ⟨p.n,p.s,H6 p.r i x,p.c,p.D,p.H,p.h⟩ v:=by
 obtain⟨f,hb,hr,ho⟩:=h;refine⟨_,hb.set (j:=31+i) (by omega) _,WdR.touch (W:=W) ?_ (ES _ _ _ _),fun g e=>?_⟩
 ·refine⟨by rw[AP _ _ (by omega)];exact hr.n,fun j hj=>(hr.s j hj).congr fun q hq=>by rw[AP _ _ (by omega)],fun j hj=>?_,fun j hj=>(hr.c j hj).congr fun q hq=>by rw[AP _ _ (by omega)],by rw[AP _ _ (by omega)];exact hr.d,fun j hj h0=>by rw[AP _ _ (by omega)];exact hr.h j hj h0,hr.hk⟩;by_cases e:j=i
  ·subst e;rw[BQ];simp only[BQ]
  ·rw[AP _ _ (by omega)];simp only[AP _ _ e];exact hr.r j hj
 ·have o:=ho g e;exact⟨fun j hj h0=>by rw[AP _ _ (by omega)];exact o.d j hj h0,fun j hj h0=>by rw[AP _ _ (by omega)];exact o.l j hj h0,fun j hj h0=>by rw[AP _ _ (by omega)];exact o.n j hj h0,fun j hj h0=>by rw[AP _ _ (by omega)];exact o.i j hj h0,fun j hj h0=>by rw[AP _ _ (by omega)];exact o.w j hj h0,fun j hj h0=>by rw[AP _ _ (by omega)];exact o.c j hj h0,fun h0=>by rw[AP _ _ (by omega)];exact o.a h0⟩
def AZ7(w:World)(s:Sv)(E:Int)(e:Ending)(w':World):Prop:=
 ∃ad nd cd al cl an cn ai ci aw cw,e=.returned (.tuple #[.agg #[.bool s.up,.slice ad nd cd,I0 s.id,I0 s.ep,.slice al s.ts.length cl,I0 s.dn,I0 s.tr.z,.slice an s.tr.ns.length cn,.slice ai s.tr.ss.length ci,.slice aw s.ws.length cw],I0 E])∧
  Hid (SvV w' (.agg #[.bool s.up,.slice ad nd cd,I0 s.id,I0 s.ep,.slice al s.ts.length cl,I0 s.dn,I0 s.tr.z,.slice an s.tr.ns.length cn,.slice ai s.tr.ss.length ci,.slice aw s.ws.length cw]) s∧Fr5 w.heap.size (.slice ad nd cd) (.slice al s.ts.length cl) (.slice an s.tr.ns.length cn) (.slice ai s.tr.ss.length ci) (.slice aw s.ws.length cw))∧B0 w w'
theorem BH5{w':World}{s:Sv}{E:Int}{e:Ending}(h:YV w s E e w')(hf:FrT w e):AZ7 w s E e w':=by
 obtain⟨ad,nd,cd,al,nl,cl,an,nn,cn,ai,ni,ci,aw,nw,cw,rfl,hs,hb⟩:=h;obtain⟨hv,h8⟩:=A8 hs;obtain⟨f1,f4,f7,f9⟩:=hf _ _ _ _ _ _ _ _ _ _ _ rfl;obtain⟨ad',nd',cd',al',cl',an',cn',ai',ci',aw',cw',e5,_⟩:=hv.five;simp only[Value.agg.injEq,Array.mk.injEq,List.cons.injEq,Value.slice.injEq,true_and,and_true]at e5;obtain⟨⟨rfl,rfl,rfl⟩,⟨rfl,rfl,rfl⟩,⟨rfl,rfl,rfl⟩,⟨rfl,rfl,rfl⟩,rfl,rfl,rfl⟩:=e5;exact⟨_,_,_,_,_,_,_,_,_,_,_,rfl,AA ⟨hv,⟨fun g hg=>GL f1 hg,fun g hg=>GL f4 hg,fun g hg=>GL f7 hg,fun g hg=>GL h8 hg,fun g hg=>GL f9 hg⟩⟩,hb⟩
theorem sK{α:Type}[Lay α]{w:World}{ops:Array Oper}{rest:List Oper}{o:Oper}{a:Act}{Q:Exit→Act→World→Prop}(hgd:o.guard=none)(s x:Operand)(T:TypeId)
  (ho:o.op=.call {callee:=.builtin .append,args:=#[s,x],argTypes:=#[T,T]})
  (i0:TypeInfo) (z:Value) (bytes:Nat) (hU:prog.underlying T=some (.slice (Lay.ty α))) (hi0:prog.info? (Lay.ty α)=some i0) (hz0:i0.zero=some z) (hz1:i0.size=Lay.k α) (hz2:i0.bytes=bytes) (hzs:z.cells.size=Lay.k α) (hk0:0<Lay.k α)
  (v:Value) (ns:List α) (hs:a.eval s=v) (B:Nat) (hown:BF w B v ns) (q:Nat) (hx:a.eval x=.slice (some ⟨q,0,none⟩) 1 1) (t:α) (hnews:F5 w q t) (hl:(ns.length+1)*bytes≤140737488355328) (hm:ns.length+1≤maxLen) (hB:B≤w.heap.size)
  (h:∀a' c' w',BF w' B (.slice a' (ns.length+1) c') (ns++[t])→w.grownBy w' v.ownBlock→(∀g,(Value.slice a' (ns.length+1) c').ownBlock=some g→v.ownBlock=some g∨w.heap.size≤g)→wpList prog ops Q rest (a.put o.dst (.slice a' (ns.length+1) c')) w'):
  wpList prog ops Q (o::rest) a w:=by
 refine wpList_plain hgd fun K hK=>?_;obtain⟨v',w',hr,h2,h3,_,h5⟩:=run_append_own_at (P:=prog) w B T o.type (Lay.ty α) i0 z (Lay.k α) bytes hU hi0 hz0 hz1 hz2 hzs hk0 v ns.length (AO ns) hown.row ⟨q,0,none⟩ 1 1 (Lay.cs t) (by rw[Lay.len,Nat.one_mul]) (N8 hnews) (Lay.one t) hm hl hB;have h2':BF w' B v' (ns++[t]):=BF.G8 (by rw[List.length_append,EK];exact h2);have h6:∀g,v'.ownBlock=some g→v.ownBlock=some g∨w.heap.size≤g:=fun g hg=>by
  rcases h5 with e|e
  ·rw[e]at hg;exact .inl hg
  ·rw[e]at hg;simp only[Option.some.injEq]at hg;exact .inr (by omega)
 obtain⟨a',c',rfl,_⟩:=h2'.slice;rw[List.length_append,List.length_singleton]at h2' hr h6;unfold Oper.wp execOp;simp only[ho,resolve,invoke,builtin,Sem.run_bind,Sem.run_pure,Result.andThen_ok,List.map_toArray,List.map_cons,List.map_nil,hs,hx,hr];exact hK _ _ (h a' c' w' h2' h3 h6)
theorem C04(r:Nat→Int)(m:Nat)(hm:m<3)(u:World):(Instr.index 72 (.agg #[I0 (r 0),I0 (r 1),I0 (r 2)]) (I0 m)).run prog u=.ok (I0 (r m)) u:=by
 rcases(show m=0∨m=1∨m=2 by omega)with rfl|rfl|rfl<;>kernel_rfl
theorem jZ(d:Dd)(W:World):Calls prog 43 #[ddV d] W (R0 W (I0 (RQ d))):=by
 have HB:=AA (fun o=>AB W o);have C:=AA (fun i m V=>ZN i m V);obtain⟨dk,dc,ds,⟨o,s,pp,dd,v,f⟩,lo,sl,ke,wt⟩:=d;unfold ddV;by_cases h1:dk=1
 ·subst h1
  cases hc:iE dc 16 with
  |true=>
   rw[show RQ ⟨1,dc,ds,⟨o,s,pp,dd,v,f⟩,lo,sl,ke,wt⟩=0 by simp[RQ,hc]];go_enter func43,ntmps43;go_wp2_with fail;refine(A8 C _ _ _).mono ?_;rintro e w1 ⟨rfl,rfl⟩;simp only[hc];go_wp2_with fail;go_ret;exact⟨rfl,A8 HB _⟩
  |false=>
   rw[show RQ ⟨1,dc,ds,⟨o,s,pp,dd,v,f⟩,lo,sl,ke,wt⟩=3 by simp[RQ,hc]];go_enter func43,ntmps43;go_wp2_with fail;refine(A8 C _ _ _).mono ?_;rintro e w1 ⟨rfl,rfl⟩;simp only[hc];go_wp2_with fail;go_ret;exact⟨rfl,A8 HB _⟩
 ·by_cases h2:dk=2
  ·subst h2
   cases hc:iE dc 16 with
   |true=>
    cases hs:iE ds 3 with
    |true=>
     rw[show RQ ⟨2,dc,ds,⟨o,s,pp,dd,v,f⟩,lo,sl,ke,wt⟩=0 by simp[RQ,hc,hs]];go_enter func43,ntmps43;go_wp2_with fail;refine(A8 C _ _ _).mono ?_;rintro e w1 ⟨rfl,rfl⟩;simp only[hc];go_wp2_with fail;refine(A8 C _ _ _).mono ?_;rintro e w1 ⟨rfl,rfl⟩;simp only[hs];go_wp2_with fail;go_ret;exact⟨rfl,A8 HB _⟩
    |false=>
     rw[show RQ ⟨2,dc,ds,⟨o,s,pp,dd,v,f⟩,lo,sl,ke,wt⟩=3 by simp[RQ,hc,hs]];go_enter func43,ntmps43;go_wp2_with fail;refine(A8 C _ _ _).mono ?_;rintro e w1 ⟨rfl,rfl⟩;simp only[hc];go_wp2_with fail;refine(A8 C _ _ _).mono ?_;rintro e w1 ⟨rfl,rfl⟩;simp only[hs];go_wp2_with fail;go_ret;exact⟨rfl,A8 HB _⟩
   |false=>
    rw[show RQ ⟨2,dc,ds,⟨o,s,pp,dd,v,f⟩,lo,sl,ke,wt⟩=3 by simp[RQ,hc]];go_enter func43,ntmps43;go_wp2_with fail;refine(A8 C _ _ _).mono ?_;rintro e w1 ⟨rfl,rfl⟩;simp only[hc];go_wp2_with fail;go_ret;exact⟨rfl,A8 HB _⟩
  ·by_cases h3:dk=3∨dk=4
   ·rcases h3 with rfl|rfl
    all_goals
     cases hs:iE ds 3 with
     |true=>
      rw[show RQ ⟨_,dc,ds,⟨o,s,pp,dd,v,f⟩,lo,sl,ke,wt⟩=0 by simp[RQ,hs]];go_enter func43,ntmps43;go_wp2_with fail;refine(A8 C _ _ _).mono ?_;rintro e w1 ⟨rfl,rfl⟩;simp only[hs];go_wp2_with fail;go_ret;exact⟨rfl,A8 HB _⟩
     |false=>
      rw[show RQ ⟨_,dc,ds,⟨o,s,pp,dd,v,f⟩,lo,sl,ke,wt⟩=3 by simp[RQ,hs]];go_enter func43,ntmps43;go_wp2_with fail;refine(A8 C _ _ _).mono ?_;rintro e w1 ⟨rfl,rfl⟩;simp only[hs];go_wp2_with fail;go_ret;exact⟨rfl,A8 HB _⟩
   ·by_cases h5:dk=5
    ·subst h5;rw[show RQ ⟨5,dc,ds,⟨o,s,pp,dd,v,f⟩,lo,sl,ke,wt⟩=0 by simp[RQ]];go_enter func43,ntmps43;go_wp2_with fail;go_ret;exact⟨rfl,A8 HB _⟩
    ·have h33:¬dk=3:=fun e=>h3 (.inl e);have h34:¬dk=4:=fun e=>h3 (.inr e);rw[show RQ ⟨dk,dc,ds,⟨o,s,pp,dd,v,f⟩,lo,sl,ke,wt⟩=4 by simp[RQ,h1,h2,h33,h34,h5]];clear h3;go_enter func43,ntmps43;go_wp2_with fail;go_ret;exact⟨rfl,A8 HB _⟩
theorem BH6(n:Int):bits .and .i64 n 1=n%2:=by
 show IntKind.i64.wrap ((BitVec.ofInt 64 n&&&BitVec.ofInt 64 1).toNat:Int)=_;rw[BitVec.toNat_and,show (BitVec.ofInt 64 1).toNat=1 by decide,Nat.and_one_is_mod,BitVec.toNat_ofInt,IntKind.wrap_i64];omega
theorem C05(n:Int)(i:Nat)(hi:i<3)(w:World):Calls prog 104 #[I0 n,I0 i] w fun e w'=>e=.returned (.bool (A35 n i))∧w'=w:=by
 have e:∀m:Int,(bits .and .i64 m 1==1)=decide (m%2=1):=fun m=>by rw[BH6];rfl
 have E:=AA e;clear e;unfold A35;rcases(show i=0∨i=1∨i=2 by omega)with rfl|rfl|rfl
 ·go_enter func104,ntmps104;go_wp2_with fail;go_ret;exact⟨by show Ending.returned (.bool (bits .and .i64 n 1==1))=_;rw[A8 E,show n/2^0=n by simp],rfl⟩
 ·go_enter func104,ntmps104;go_wp2_with fail;go_ret;exact⟨by show Ending.returned (.bool (bits .and .i64 (n/2) 1==1))=_;rw[A8 E];rfl,rfl⟩
 ·go_enter func104,ntmps104;go_wp2_with fail;go_ret;exact⟨by show Ending.returned (.bool (bits .and .i64 (n/4) 1==1))=_;rw[A8 E];rfl,rfl⟩
end Go.Proofs.YtodnhndkghdinaaGreatDoor
