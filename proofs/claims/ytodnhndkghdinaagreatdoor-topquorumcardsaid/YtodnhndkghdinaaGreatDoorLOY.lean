/-
  Part.
-/
import Derived.Test.YtodnhndkghdinaaGreatDoorLOX
import Derived.Deep.AppendLies
import Derived.ProofKit
import Derived.OpenShut
import Derived.Deep.Slices
set_option maxRecDepth 20000
set_option maxHeartbeats 8000000
namespace Go.Proofs.YtodnhndkghdinaaGreatDoor
open Go.RowKit Go.Proofs.Tryz
variable{W:World}{k:Nat}
structure C89(s:Sv)(t:AQ)(s':Sv):Prop where
 z:¬t.z≤DL s.ts
 p:t.p.length≤140737488355328
 d:t.d.length≤140737488355328
 n:s.ts.length≤1000000000
 g:∃d1,s'=⟨s.up,d1,s.id,s.ep,s.ts++[t],s.dn,s.tr,s.ws⟩∧VF 169 (fun x=>#[x,DX t,.bool true]) s.fs d1 0
theorem xK{s:Sv}(hf:BM0 s){d:List DF}(g:G9 d)(e:Int)(k:Nat):BM0 ⟨s.up,d,s.id,e,s.ts.take k,s.dn,s.tr,s.ws⟩:=
 ⟨by have:=g.few;simp only;omega,EN g,by have:=hf.l;simp only[List.length_take];omega,fun x hx=>hf.lf x (List.mem_of_mem_take hx),hf.n,hf.nf,hf.si,hf.wa,hf.wf⟩
theorem BV7{w:World}{a:Option Addr}{c:Nat}{ts:List AQ}(h:∀W,B0 w W→J5 W (.slice a ts.length c) ts):ts.length≤c:=by
 rcases h w (Below.refl _ _)with⟨a',cap,e,rfl,_⟩|⟨b,off,cap,e,h1,_⟩
 ·simp
 ·simp only[Value.slice.injEq]at e;omega
def SF0(w W:World)(s:Sv)(al:Option Addr)(cl:Nat)(an:Option Addr)(cn:Nat)(ai:Option Addr)(ci:Nat)(aw:Option Addr)(cw:Nat):Prop:=
 ∃ad nd cd,CB w W s.up (.slice ad nd cd) s.id s.ep (.slice al s.ts.length cl) s.dn s.tr.z (.slice an s.tr.ns.length cn) (.slice ai s.tr.ss.length ci) (.slice aw s.ws.length cw)∧
 SvV W (.agg #[.bool s.up,.slice ad nd cd,I0 s.id,I0 s.ep,.slice al s.ts.length cl,I0 s.dn,I0 s.tr.z,.slice an s.tr.ns.length cn,.slice ai s.tr.ss.length ci,.slice aw s.ws.length cw]) s
theorem SF0.next{w V:World}{s:Sv}{al an ai aw:Option Addr}{cl cn ci cw:Nat}(h:SF0 w W s al cl an cn ai ci aw cw)(hb:B0 W V):SF0 w V s al cl an cn ai ci aw cw:=by
 obtain⟨ad,nd,cd,h1,h2⟩:=h;exact⟨ad,nd,cd,h1.next hb,h2.next hb⟩
theorem BD6{w P:World}{s:Sv}{ts:List AQ}{k:Nat}{ad ad0 al an ai aw:Option Addr}{nd cd nd0 cd0 cl cn ci cw:Nat}{ep0:Int}(h:CB w P s.up (.slice ad0 nd0 cd0) s.id ep0 (.slice al ts.length cl) s.dn s.tr.z (.slice an s.tr.ns.length cn) (.slice ai s.tr.ss.length ci) (.slice aw s.ws.length cw))(hd:C9 P (.slice ad nd cd) s.fs)
  (hs:(∀W,B0 w W→J5 W (.slice al ts.length cl) ts)∧(∀W,B0 w W→BZ W (.slice an s.tr.ns.length cn) s.tr.ns)∧(∀W,B0 w W→BZ W (.slice ai s.tr.ss.length ci) s.tr.ss)∧∀W,B0 w W→BZ W (.slice aw s.ws.length cw) s.ws) (hk:k≤ts.length) (ht:s.ts=ts.take k:=by rfl):
  SF0 w (((P.setCell ⟨w.heap.size,1,none⟩ (.slice ad nd cd)).setCell ⟨w.heap.size,3,none⟩ (I0 s.ep)).setCell ⟨w.heap.size,4,none⟩ (.slice al k cl)) s al cl an cn ai ci aw cw:=by
 have hlen:s.ts.length=k:=by rw[ht];simp;omega
 have hb:=((h.below.setCell (p:=⟨w.heap.size,1,none⟩) (by simp) (.slice ad nd cd)).setCell (p:=⟨w.heap.size,3,none⟩) (by simp) (I0 s.ep)).setCell (p:=⟨w.heap.size,4,none⟩) (by simp) (.slice al k cl);have u0:=h.s.ZW;have u1:YC (P.setCell ⟨w.heap.size,1,none⟩ (.slice ad nd cd)) w.heap.size:=u0.set (by simp);have u2:YC ((P.setCell ⟨w.heap.size,1,none⟩ (.slice ad nd cd)).setCell ⟨w.heap.size,3,none⟩ (I0 s.ep)) w.heap.size:=u1.set (by simp);refine⟨ad,nd,cd,by rw[hlen];exact((h.put 1 (.slice ad nd cd) rfl).putE s.ep).put 4 (.slice al k cl) rfl,_,_,_,_,_,rfl,OC (OC (OC hd u0 _) u1 _) u2 _,?_,hs.2.1 _ hb,hs.2.2.1 _ hb,hs.2.2.2 _ hb⟩;rw[hlen,ht];exact(hs.1 _ hb).take hk
def LF(w W:World)(q:Nat)(s:Sv):Prop:=
 ∃ad nd cd al cl an cn ai ci aw cw,B0 w W∧BN W (w.heap.size+1) false (N0) 0 0 (N0) 0 0 (N0) (N0) (N0)∧
  BN W q s.up (.slice ad nd cd) s.id s.ep (.slice al s.ts.length cl) s.dn s.tr.z (.slice an s.tr.ns.length cn) (.slice ai s.tr.ss.length ci) (.slice aw s.ws.length cw)∧w.heap.size+2≤q∧
  C9 W (.slice ad nd cd) s.fs∧BF W (w.heap.size+2) (.slice al s.ts.length cl) s.ts∧BF W (w.heap.size+2) (.slice an s.tr.ns.length cn) s.tr.ns∧BF W (w.heap.size+2) (.slice ai s.tr.ss.length ci) s.tr.ss∧BF W (w.heap.size+2) (.slice aw s.ws.length cw) s.ws∧
  (∀k,(Value.slice al s.ts.length cl).ownBlock=some k→k≠q∧(Value.slice an s.tr.ns.length cn).ownBlock≠some k∧(Value.slice ai s.tr.ss.length ci).ownBlock≠some k∧(Value.slice aw s.ws.length cw).ownBlock≠some k)∧
  (Value.slice an s.tr.ns.length cn).ownBlock≠some q∧(Value.slice ai s.tr.ss.length ci).ownBlock≠some q∧(Value.slice aw s.ws.length cw).ownBlock≠some q
theorem QW{α:Type}[Lay α]{B:Nat}{v:Value}{xs:List α}(h:BF W B v xs)(hk:W.heap.size≤k):v.ownBlock≠some k:=fun e=>by have:=h.low k e;omega
theorem BD7{w W w1:World}{s:Sv}{ad al an ai aw:Option Addr}{nd cd cl cn ci cw B1 B2:Nat}(hW:B0 w W)(hr:BN W (w.heap.size+1) false (N0) 0 0 (N0) 0 0 (N0) (N0) (N0))(h1:W.heap.size≤B1)(h2:B1≤B2)
  (od:BF w1 W.heap.size (.slice ad nd cd) s.fs) (ol:BF w1 B1 (.slice al s.ts.length cl) s.ts) (hl2:∀k,(Value.slice al s.ts.length cl).ownBlock=some k→k<B2) (on:BF w1 B2 (.slice an s.tr.ns.length cn) s.tr.ns) (oi:BF w1 B2 (.slice ai s.tr.ss.length ci) s.tr.ss) (ow:BF w1 B2 (.slice aw s.ws.length cw) s.ws) (hb:B0 W w1):
  LF w (w1.alloc (.cells #[.bool s.up,.slice ad nd cd,I0 s.id,I0 s.ep,.slice al s.ts.length cl,I0 s.dn,I0 s.tr.z,.slice an s.tr.ns.length cn,.slice ai s.tr.ss.length ci,.slice aw s.ws.length cw] 48)) w1.heap.size s:=by
 have hl:=hr.lt;have hal:=AB w1 (.cells #[.bool s.up,.slice ad nd cd,I0 s.id,I0 s.ep,.slice al s.ts.length cl,I0 s.dn,I0 s.tr.z,.slice an s.tr.ns.length cn,.slice ai s.tr.ss.length ci,.slice aw s.ws.length cw] 48);refine⟨ad,nd,cd,al,cl,an,cn,ai,ci,aw,cw,AL (AL hW hb) hal,(hr.next hb).next hal,BN.new w1 s.up s.id s.ep s.dn s.tr.z _ _ _ _ _,by have:=hb.size;omega,NG.1 (od.next hal).seq,(ol.next hal).lower (by omega),(on.next hal).lower (by omega),(oi.next hal).lower (by omega),(ow.next hal).lower (by omega),fun k hk=>⟨?_,?_,?_,?_⟩,QW on (Nat.le_refl _),QW oi (Nat.le_refl _),QW ow (Nat.le_refl _)⟩
 ·rintro rfl;exact QW ol (Nat.le_refl _) hk
 ·intro e;have:=MK on e;have:=hl2 k hk;omega
 ·intro e;have:=MK oi e;have:=hl2 k hk;omega
 ·intro e;have:=MK ow e;have:=hl2 k hk;omega
theorem fB{up0:Bool}{id0 ep0 dn0 z0:Int}{vd0 vl0 vn0 vs0 vw0:Value}(h:BN W k up0 vd0 id0 ep0 vl0 dn0 z0 vn0 vs0 vw0)(up:Bool)(id ep dn z:Int)(vd vl vn vs vw:Value):
  BN (KW W k (.bool up) vd (I0 id) (I0 ep) vl (I0 dn) (I0 z) vn vs vw) k up vd id ep vl dn z vn vs vw:=by
 unfold BN at*;unfold KW;rw[AV _ (AV _ (AV _ (AV _ (AV _ (AV _ (AV _ (AV _ (AV _ (AV _ h)))))))))];simp
theorem AV2{q:Nat}{up0:Bool}{id0 ep0 dn0 z0:Int}{vd0 vl0 vn0 vs0 vw0:Value}(h:BN W k up0 vd0 id0 ep0 vl0 dn0 z0 vn0 vs0 vw0)(hk:k≠q)(x0 x1 x2 x3 x4 x5 x6 x7 x8 x9:Value):BN (KW W q x0 x1 x2 x3 x4 x5 x6 x7 x8 x9) k up0 vd0 id0 ep0 vl0 dn0 z0 vn0 vs0 vw0:=by
 unfold KW;exact(BN.other (BN.other (BN.other (BN.other (BN.other (BN.other (BN.other (BN.other (BN.other (BN.other h hk) hk) hk) hk) hk) hk) hk) hk) hk) hk)
theorem BN.touch{F:Nat→Prop}{V:World}{up:Bool}{id ep dn z:Int}{vd vl vn vs vw:Value}(h:BN W k up vd id ep vl dn z vn vs vw)(ht:Touch F W V)(hk:¬F k):BN V k up vd id ep vl dn z vn vs vw:=(ht.block k h.lt hk).trans h
theorem BV8{w W V:World}{q:Nat}{s:Sv}{d1:List DF}{tn:List AQ}{ad al an ai aw a a2:Option Addr}{nd cd cl cn ci cw n c c2:Nat}(hb:B0 w W)(hr:BN W (w.heap.size+1) false (N0) 0 0 (N0) 0 0 (N0) (N0) (N0))
  (ha:BN W q s.up (.slice ad nd cd) s.id s.ep (.slice al s.ts.length cl) s.dn s.tr.z (.slice an s.tr.ns.length cn) (.slice ai s.tr.ss.length ci) (.slice aw s.ws.length cw)) (hq:w.heap.size+2≤q)
  (ol:BF W (w.heap.size+2) (.slice al s.ts.length cl) s.ts) (on:BF W (w.heap.size+2) (.slice an s.tr.ns.length cn) s.tr.ns) (oi:BF W (w.heap.size+2) (.slice ai s.tr.ss.length ci) s.tr.ss) (ow:BF W (w.heap.size+2) (.slice aw s.ws.length cw) s.ws)
  (sep:∀k,(Value.slice al s.ts.length cl).ownBlock=some k→k≠q∧(Value.slice an s.tr.ns.length cn).ownBlock≠some k∧(Value.slice ai s.tr.ss.length ci).ownBlock≠some k∧(Value.slice aw s.ws.length cw).ownBlock≠some k)
  (n1:(Value.slice an s.tr.ns.length cn).ownBlock≠some q) (n2:(Value.slice ai s.tr.ss.length ci).ownBlock≠some q) (n3:(Value.slice aw s.ws.length cw).ownBlock≠some q)
  (ht:Touch (fun k=>(Value.slice al s.ts.length cl).ownBlock=some k) W V) (D:C9 V (.slice a n c) d1) (L:BF V (w.heap.size+2) (.slice a2 tn.length c2) tn) (hl:(Value.slice a2 tn.length c2).ownBlock=(Value.slice al s.ts.length cl).ownBlock∨∃k,(Value.slice a2 tn.length c2).ownBlock=some k∧W.heap.size≤k):
  BN V q s.up (.slice ad nd cd) s.id s.ep (.slice al s.ts.length cl) s.dn s.tr.z (.slice an s.tr.ns.length cn) (.slice ai s.tr.ss.length ci) (.slice aw s.ws.length cw)∧
  LF w (KW V q (.bool s.up) (.slice a n c) (I0 s.id) (I0 s.ep) (.slice a2 tn.length c2) (I0 s.dn) (I0 s.tr.z) (.slice an s.tr.ns.length cn) (.slice ai s.tr.ss.length ci) (.slice aw s.ws.length cw)) q ⟨s.up,d1,s.id,s.ep,tn,s.dn,s.tr,s.ws⟩:=by
 have ha':=ha.touch ht (fun e=>(sep q e).1 rfl);have hr':=hr.touch ht (fun e=>by have:=MK ol e;omega);have hqW:=ha.lt;have hb':=hb.trans (ht.below (B:=w.heap.size) hb.size (fun k hk=>by have:=MK ol hk;omega));have CI7:=FV on ht (fun k hk hf=>(sep k hf).2.1 hk);have CI8:=FV oi ht (fun k hk hf=>(sep k hf).2.2.1 hk);have keepW:=FV ow ht (fun k hk hf=>(sep k hf).2.2.2 hk);have lq:(Value.slice a2 tn.length c2).ownBlock≠some q:=by
  intro e;rcases hl with h|⟨k,h,hk⟩
  ·rw[h]at e;exact(sep q e).1 rfl
  ·rw[h]at e;simp only[Option.some.injEq]at e;omega
 refine⟨ha',a,n,c,a2,c2,an,cn,ai,ci,aw,cw,EU hb' (by omega) _ _ _ _ _ _ _ _ _ _,AV2 hr' (by omega) _ _ _ _ _ _ _ _ _ _,fB ha' _ _ _ _ _ _ _ _ _ _,hq,jO ha'.ZW D,TU L lq _ _ _ _ _ _ _ _ _ _,TU CI7 n1 _ _ _ _ _ _ _ _ _ _,TU CI8 n2 _ _ _ _ _ _ _ _ _ _,TU keepW n3 _ _ _ _ _ _ _ _ _ _,fun k hk=>?_,n1,n2,n3⟩;simp only at hk⊢;rcases hl with h|⟨k',h,hk'⟩
 ·rw[h]at hk;exact sep k hk
 ·rw[h]at hk;simp only[Option.some.injEq]at hk;subst hk;exact⟨by omega,QW on hk',QW oi hk',QW ow hk'⟩
theorem AV3(s:Sv)(v:Value)(vl:Value)(l:List AQ)(epo:Int)(w:World)(hv:SvV w v s)(hvl:J5 w vl l)(hf:BM0 s)(hll:l.length≤1000000000)(ht:VX w)(hk:¬ (G5 s.ts l:Int)<s.dn)(z:Int)(d2 d3:List DF)(hz:CI4 l (G5 s.ts l) z)(G:J6 122 (fun g=>#[g,I0 z]) s.fs d2 0)(R:eY 123 (fun g=>#[g,I0 epo]) d2 d3 0)(gd:G9 d3)(st:Nat→Sv)(h0:st 0=⟨s.up,d3,s.id,epo,s.ts.take (G5 s.ts l),s.dn,s.tr,s.ws⟩)(HT:∀i x,(l.drop (G5 s.ts l))[i]?=some x→C89 (st i) x (st (i+1))):
  Calls prog 97 #[v,vl,I0 epo] w (YV w (st (l.drop (G5 s.ts l)).length) 0):=by
 obtain⟨ad,nd,cd,al,cl,an,cn,ai,ci,aw,cw,rfl,d1,l1,n1,s1,k1⟩:=hv.five;have CC:=AA (fun W (hW:B0 w W)=>jI _ vl s.ts l W (l1.next hW) (hvl.next hW) (by have:=hf.l;omega) (by omega));have HG:=AA (fun W (hW:B0 w W)=>G _ W (d1.next hW));have HLR:=AA (fun(j:Nat) (x:AQ) (hx:l[j]?=some x) W (hW:B0 w W)=>VP (hvl.next hW) hx);obtain⟨lb,lc,rfl⟩:=I9 hvl;have HR:=AA R;have HTK:=AA HT;have HLV:=AA (fun W (hW:B0 w W)=>hvl.next hW);have HS0:=AA (And.intro (fun W (hW:B0 w W)=>l1.next hW) (And.intro (fun W (hW:B0 w W)=>n1.next hW) (And.intro (fun W (hW:B0 w W)=>s1.next hW) (fun W (hW:B0 w W)=>k1.next hW))));have HFit:=AA (xK hf gd epo (G5 s.ts l));have HTab:=AA (fun W (hW:B0 w W)=>ht.next hW);clear hv d1 l1 n1 s1 k1 hvl hf G R ht HT gd;obtain⟨up,fs,id,ep,ts,dn,⟨tz,tns,tss⟩,ws⟩:=s;simp only at*;go_enter func97,ntmps97;go_wp2_with fail;have X0:=AA (CB.start w up id ep dn tz (.slice ad nd cd) (.slice al ts.length cl) (.slice an tns.length cn) (.slice ai tss.length ci) (.slice aw ws.length cw));generalize (w.alloc (.cells #[.bool up,.slice ad nd cd,I0 id,I0 ep,.slice al ts.length cl,I0 dn,I0 tz,.slice an tns.length cn,.slice ai tss.length ci,.slice aw ws.length cw] 48)).alloc (.cells #[.bool false,N0,I0 0,I0 0,N0,I0 0,I0 0,N0,N0,N0] 48)=W0 at*;refine(A8 CC _ (A8 X0).below).mono ?_;rintro e w1 ⟨rfl,hb1⟩;have X1:=AA ((A8 X0).next hb1);have x5:=(A8 X1).s.cells.2.2.2.2.2.1;clear hb1 X0 CC;have x1:=(A8 X1).s.cells.2.1;have hkl:=(TN ts l).2;have hkt:=(TN ts l).1;generalize G5 ts l=k at*;have hnk:¬ ((k:Int)<dn):=by omega
 go_upto_if 27 with fail
 go_cut [9]from 15 (fun t9 wx=>t9=I0 z∧wx=w1)
 case first=>
  rcases hz with⟨rfl,rfl⟩|⟨x,hk0,hx,rfl⟩
  ·go_wp2_with fail
   go_meet
   exact⟨rfl,rfl⟩
  ·obtain⟨m,rfl⟩:∃m,k=m+1:=⟨k-1,by omega⟩;simp only[Nat.add_sub_cancel]at hx;obtain⟨b,o,c,he,hb,q,hm1,_⟩:=A8 HLR m x hx w1 (A8 X1).below;simp only[Value.slice.injEq]at he;obtain⟨rfl,_,rfl⟩:=he;have e0:=q.z hx;generalize x.z=z at*;have i1:(m:Int)<(l.length:Int):=by omega
   have i2:(0:Int)<((m+1:Nat):Int):=by omega
   have i3:IntKind.i64.wrap (((m+1:Nat):Int)-1)=(m:Int):=by rw[IntKind.wrap_i64];omega
   have i4:(((m+1:Nat):Int)-1)=(m:Int):=by omega
   clear q hx;go_wp2_with fail
   go_meet
   exact⟨rfl,rfl⟩
 case rest=>
  obtain⟨rfl,rfl⟩:=hcut;clear HLR;go_wp2_with fail;refine(A8 HG _ (A8 X1).below).mono ?_;rintro e w2 ⟨a2,n2,c2,rfl,D2,hb2⟩;have hal:=AB w2 (.cells #[.slice a2 n2 c2] 38);have X2:=AA (((A8 X1).next hb2).next hal);have A2:=AA (FQ.new w2 (.slice a2 n2 c2));have F2:=AA ((A8 D2).next hal);have Q2:=AA (show w.heap.size+2≤w2.heap.size from((A8 X1).next hb2).lt);clear hb2 hal X1 D2 HG x1 x5;have ca:=(A8 A2).c;have fa:=(A8 A2).f;go_wp2_with fail;generalize w2.heap.size=q2 at*;generalize w2.alloc (.cells #[.slice a2 n2 c2] 38)=W2 at*;refine(A8 HR _ _ (A8 HTab _ (A8 X2).below) (A8 F2)).mono ?_;rintro e w3 ⟨a3,n3,c3,rfl,D3,hb3⟩;have X3:=(A8 X2).next hb3;have A3:=(A8 A2).next hb3;have ca3:=A3.c;have fa3:=A3.f;have Y3:=X3.dput q2 (.slice a3 n3 c3) (by have:=A8 Q2;omega);have E3:=LZ (A8 D3) A3 (.slice a3 n3 c3);have B3:=A3.set (.slice a3 n3 c3);have HX3:=AA Y3;have HD3:=AA E3;have HA3:=AA B3;clear hb3 X2 A2 F2 D3 X3 A3 Y3 E3 B3 HR ca fa;go_upto_region 13 with fail;generalize w3.setCell ⟨q2,0,none⟩ (.slice a3 n3 c3)=W3 at*;clear ca3 fa3;have hcap:ts.length≤cl:=BV7 (A8 HS0).1;have ca5:=(A8 HA3).c;have x4:=(A8 HX3).s.cells.2.2.2.2.1;have x1:=(A8 HX3).s.cells.2.1;have x3:=(A8 HX3).s.cells.2.2.2.1;have xf1:=(A8 HX3).s.AX 1;have xf3:=(A8 HX3).s.AX 3;have xf4:=(A8 HX3).s.AX 4;have hnq:q2≠w.heap.size:=by have:=A8 Q2;omega
  have k0:(0:Int)≤(k:Int):=by omega
  have kk1:(k:Int)≤(cl:Int):=by omega
  have k2:k≤cl:=by omega
  have RF4:=AA (BD6 (s:=⟨up,d3,id,epo,ts.take k,dn,⟨tz,tns,tss⟩,ws⟩) (A8 HX3) (A8 HD3) (A8 HS0) hkt)
  go_cut [14]from 16 (fun _ wx=>Hid (SF0 w wx ⟨up,d3,id,epo,ts.take k,dn,⟨tz,tns,tss⟩,ws⟩ al cl an cn ai ci aw cw))
  case first=>
   go_region
   all_goals go_wp2_with fail
   all_goals go_meet
   all_goals exact AA ((A8 RF4).next (Below.refl _ _).drew)
  case rest=>
   have HRF:=hcut;clear hcut RF4 ca5 x4 x1 x3 xf1 xf3 xf4 HX3 HD3 HA3;generalize ts.take k=tk at*;obtain⟨ad4,nd4,cd4,CB4,SV4⟩:=A8 HRF;simp only at CB4 SV4;obtain⟨x0,x1,x2,x3,x4,x5,x6,x7,x8,x9⟩:=CB4.s.cells;have CPY:=AA (VR (⟨up,d3,id,epo,tk,dn,⟨tz,tns,tss⟩,ws⟩:Sv) _ wc SV4 (A8 HFit));have HBR:=AA (And.intro CB4.below CB4.r);clear SV4 CB4 HRF HFit HS0;go_wp2_with fail;refine(A8 CPY).mono ?_;rintro e w5 ⟨bd,md,fd,bl,fl,bn,fn,bi,fi,bw,fw,B1,B2,rfl,h1,h2,od,hd1,ol,hl2,on,oi,ow,hb5⟩;simp only at od ol hl2 on oi ow;have LF5:=AA (BD7 (s:=(⟨up,d3,id,epo,tk,dn,⟨tz,tns,tss⟩,ws⟩:Sv)) (A8 HBR).1 (A8 HBR).2 h1 h2 od ol hl2 on oi ow hb5);simp only at LF5;clear h1 h2 od hd1 ol hl2 on oi ow hb5 HBR CPY x0 x1 x2 x3 x4 x5 x6 x7 x8 x9;go_upto_region 15 with fail;generalize w5.heap.size=q5 at*;generalize w5.alloc (.cells #[.bool up,.slice bd md fd,I0 id,I0 epo,.slice bl tk.length fl,I0 dn,I0 tz,.slice bn tns.length fn,.slice bi tss.length fi,.slice bw ws.length fw] 48)=W5 at*
   go_cut [71,72,73]from 15 (fun t71 t72 t73 wx=>∃la lcc,t71=.slice la (l.length-k) lcc∧t72=I0 ((l.length-k:Nat):Int)∧t73=I0 0∧wx=W5∧Hid (∀W,B0 w W→J5 W (.slice la (l.length-k) lcc) (l.drop k)))
   case first=>
    by_cases hlc:lc=k
    ·subst hlc;go_wp2_with fail
     all_goals go_meet
     all_goals exact⟨_,_,rfl,rfl,rfl,rfl,AA fun W hW=>((A8 HLV W hW).drop hkl).1 rfl⟩
    ·go_wp2_with fail
     all_goals go_meet
     all_goals exact⟨_,_,rfl,rfl,rfl,rfl,AA fun W hW=>((A8 HLV W hW).drop hkl).2 hlc⟩
   case rest=>
    obtain⟨la,lcc,rfl,rfl,rfl,rfl,HLD⟩:=hcut;clear HLV hcap hnq k0 kk1 k2 hkt;go_wp2_with fail
    go_loopg [73] (l.length-k) (fun kx s73 wr=>∃i:Nat,s73=I0 i∧i≤l.length-k∧l.length-k-i≤kx∧Hid (LF w wr q5 (st i)))
    case atStart=>exact⟨0,rfl,Nat.zero_le _,by omega,AA (by rw[h0];exact A8 LF5)⟩
    case round=>
     obtain⟨i,rfl,hi,hgi,hR⟩:=hrel;by_cases hlt:i<l.length-k
     ·clear h0 LF5;obtain⟨x,hx⟩:∃x,(l.drop k)[i]?=some x:=⟨_,List.getElem?_eq_getElem (by simp;omega)⟩;obtain⟨gad,gnd,gcd,gal,gcl,gan,gcn,gai,gci,gaw,gcw,hbw,hr,ha,hq,hd,ol,on,oi,ow,sep,n1,n2,n3⟩:=A8 hR;obtain⟨b,o,c,he,hb,q,hq9⟩:=VP (A8 HLD wr hbw) hx;simp only[Value.slice.injEq]at he;obtain⟨rfl,he2,rfl⟩:=he;clear he2 hq9;have e0:=q.z hx;have e1:=q.o hx;have e2:=q.s hx;have e3:=q.p hx;have e4:=q.d hx;have e5:=q.v hx;have e6:=q.w hx;obtain⟨tz',tp',td',tn',d1,hst,G⟩:=A8 HTK i x hx;obtain⟨xz,xo,xs,xp,xd,xv,xw⟩:=x;have hal:=AB wr (.cells #[I0 xz,I0 xo,I0 xs,S0 xp,S0 xd,I0 xv,I0 xw] 62);have CT:=AA (C85 (st i).up (st i).id (st i).ep (st i).dn (st i).tr.z (st i).fs (st i).ts (⟨xz,xo,xs,xp,xd,xv,xw⟩:AQ) true (.slice gad gnd gcd) (.slice gal (st i).ts.length gcl) gan gai gaw (st i).tr.ns.length gcn (st i).tr.ss.length gci (st i).ws.length gcw _ (hd.next hal) (JH.1 (ol.next hal).seq) tz' d1 (w.heap.size+2) (by have:=ha.lt;have:=hal.size;omega) (ol.next hal) tn' tp' td' G);unfold DX at CT;simp only at e0 e1 e2 e3 e4 e5 e6 CT;have LS:=AA (fun V a n c a2 c2 (tn:List AQ) (T:Touch _ _ V) (D:C9 V (.slice a n c) d1) (L:BF V (w.heap.size+2) (.slice a2 tn.length c2) tn) hl=>BV8 (s:=(st i)) (AL hbw hal) (hr.next hal) (ha.next hal) hq (ol.next hal) (on.next hal) (oi.next hal) (ow.next hal) sep n1 n2 n3 T D L hl);obtain⟨x0,x1,x2,x3,x4,x5,x6,x7,x8,x9⟩:=(ha.next hal).cells;have BR5:(i:Int)<((l.length-k:Nat):Int):=by omega
      clear q hx hal hbw hr ha hd ol on oi ow sep n1 n2 n3 hR tz' tp' td' tn' G;go_wp2_with fail;generalize wr.alloc (.cells #[I0 xz,I0 xo,I0 xs,S0 xp,S0 xd,I0 xv,I0 xw] 62)=W6 at*;refine(A8 CT).mono ?_;rintro e w7 ⟨a7,n7,c7,b7,f7,rfl,D7,L7,hl7,T7⟩;obtain⟨HA7,LF7⟩:=A8 LS w7 a7 n7 c7 b7 f7 ((st i).ts++[(⟨xz,xo,xs,xp,xd,xv,xw⟩:AQ)]) T7 D7 L7 hl7;rw[←hst]at LF7;generalize (st i).ts++[(⟨xz,xo,xs,xp,xd,xv,xw⟩:AQ)]=tn at*;have HLF7:=AA LF7;clear x0 x1 x2 x3 x4 x5 x6 x7 x8 x9;obtain⟨x0,x1,x2,x3,x4,x5,x6,x7,x8,x9⟩:=HA7.cells;have xf0:=HA7.AX 0;have xf1:=HA7.AX 1;have xf2:=HA7.AX 2;have xf3:=HA7.AX 3;have xf4:=HA7.AX 4;have xf5:=HA7.AX 5;have xf6:=HA7.AX 6;have xf7:=HA7.AX 7;have xf8:=HA7.AX 8;have xf9:=HA7.AX 9;clear LF7 D7 L7 hl7 T7 HA7 LS CT hst e0 e1 e2 e3 e4 e5 e6;unfold KW at HLF7;go_wp2_with fail
      go_roundg (l.length-k-(i+1))
      case measure=>omega
      case rel=>exact⟨i+1,rfl,by omega,Nat.le_refl _,HLF7⟩
     ·obtain rfl:i=l.length-k:=by omega
      obtain⟨gad,gnd,gcd,gal,gcl,gan,gcn,gai,gci,gaw,gcw,hbw,hr,ha,hq,hd,ol,on,oi,ow,sep,n1,n2,n3⟩:=A8 hR;obtain⟨x0,x1,x2,x3,x4,x5,x6,x7,x8,x9⟩:=ha.cells;obtain⟨r0,r1,r2,r3,r4,r5,r6,r7,r8,r9⟩:=hr.cells;have rf0:=hr.AX 0;have rf1:=hr.AX 1;have rf2:=hr.AX 2;have rf3:=hr.AX 3;have rf4:=hr.AX 4;have rf5:=hr.AX 5;have rf6:=hr.AX 6;have rf7:=hr.AX 7;have rf8:=hr.AX 8;have rf9:=hr.AX 9;have PN:=AA (XJ (s:=st (l.length-k)) hr.ZW hd (JH.1 ol.seq) on.seq oi.seq (UL oi (by omega)) ow.seq);have HB9:=AA hbw;have FR9:=AA (IC oi);have hdl:(l.drop k).length=l.length-k:=by simp
      clear hbw hr ha hd ol on oi ow sep n1 n2 n3 hR;go_wp2_with fail;refine bodyPost_ret (v:=.tuple #[.agg #[.bool (st (l.length-k)).up,.slice gad gnd gcd,I0 (st (l.length-k)).id,I0 (st (l.length-k)).ep,.slice gal (st (l.length-k)).ts.length gcl,I0 (st (l.length-k)).dn,I0 (st (l.length-k)).tr.z,.slice gan (st (l.length-k)).tr.ns.length gcn,.slice gai (st (l.length-k)).tr.ss.length gci,.slice gaw (st (l.length-k)).ws.length gcw],I0 0]) (by simp[results,results97,go_sem,r0,r1,r2,r3,r4,r5,r6,r7,r8,r9]) rfl ?_;rw[hdl];exact⟨gad,gnd,gcd,gal,_,gcl,gan,_,gcn,gai,_,gci,gaw,_,gcw,rfl,AA ⟨A8 PN,(A8 FR9).lower (by omega)⟩,EU (A8 HB9) (by omega) _ _ _ _ _ _ _ _ _ _⟩
def UY(e:Int):DF:=⟨EM,MJ (G6 e 0),[]⟩
theorem BN0:bl EM JA=true:=by decide
theorem YX(s t:List UInt8):Gap [⟨JA,s,t⟩] [] [⟨JA,s,t⟩] EM:=⟨rfl,by simp,by simp[BN0]⟩
theorem XT(a b s t:List UInt8):There [⟨EM,a,b⟩,⟨JA,s,t⟩] [] ⟨EM,a,b⟩ [⟨JA,s,t⟩] EM:=(YX s t).ins (f':=⟨EM,a,b⟩) rfl
theorem fC(a b s t:List UInt8):There [⟨EM,a,b⟩,⟨JA,s,t⟩] [⟨EM,a,b⟩] ⟨JA,s,t⟩ [] JA:=⟨rfl,rfl,by simp[BN0],by simp⟩
theorem OY{a b s t:List UInt8}(h1:a.length+b.length≤1048576)(h2:s.length+t.length≤1048576):G9 [⟨EM,a,b⟩,⟨JA,s,t⟩]:=
 lG (XP h2) (YX s t) VO (by simp) (f':=⟨EM,a,b⟩) rfl h1
theorem BV9{m:List AQ}{e:Int}(he:zIn e=true)(hm:(BL m).length≤1048576):eY 123 (fun x=>#[x,I0 e]) [KL m] [UY e,KL m] 0:=by
 have hx:=XC (G6 e 0);have g0:G9 [KL m]:=XP (by simpa using hm);have g1:G9 [⟨EM,[],MJ (G6 e 0)⟩,KL m]:=OY (by simp;omega) (by simpa using hm);refine xG [KL m] [] [⟨EM,[],MJ (G6 e 0)⟩,KL m] [UY e,KL m] e 7 0 (PI he (by decide)).2 (by decide) (pY fun v W hv=>?_) (IV fun v W hv=>?_) (IV fun v W hv=>?_)
 ·exact AO4 v [KL m] EM 7 W hv (EN g0) (.inr ⟨g0,⟨_,_,YX (BL m) []⟩,rfl⟩)
 ·exact XH v [KL m] [] [KL m] EM (MJ (G6 e 0)) W hv (EN g0) g0 VO (by simp) (YX (BL m) []) (by omega)
 ·have:=UJ v _ [] [KL m] ⟨EM,[],MJ (G6 e 0)⟩ EM W hv (EN g1) g1 (XT [] (MJ (G6 e 0)) (BL m) []);simpa [UY]using this
theorem BW0{ts:List AQ}(h:Logs ts){j:Nat}{x:AQ}(hx:ts[j]?=some x):OO x.z ts=ts.take (j+1):=by
 obtain⟨hj,hxe⟩:=List.getElem?_eq_some_iff.1 hx;have hr:=List.pairwise_iff_getElem.1 h.rise;unfold OO;have p1:∀t∈ts.take (j+1),decide (t.z≤x.z)=true:=by
  intro t ht;obtain⟨i,hi,rfl⟩:=List.getElem_of_mem ht;have hi':i<j+1:=by simp at hi;omega
  simp only[List.getElem_take,decide_eq_true_eq];rw[←hxe];by_cases e:i=j
  ·subst e;exact Int.le_refl _
  ·have:=hr i j (by omega) hj (by omega);omega
 have e0:=List.takeWhile_append_of_pos (l₂:=ts.drop (j+1)) p1;rw[List.take_append_drop]at e0;rw[e0]
 cases hd:ts.drop (j+1)with
 |nil=>simp
 |cons y r=>
  have hy:ts[j+1]?=some y:=by
   have:=congrArg (fun l=>l[0]?) hd;simpa using this
  obtain⟨hk,rfl⟩:=List.getElem?_eq_some_iff.1 hy;have:=hr j (j+1) hj hk (by omega);rw[hxe]at this;rw[List.takeWhile_cons_of_neg (by simp;omega),List.append_nil]
theorem BD9{d:List AQ}{i:Nat}{x:AQ}(h:d[i]?=some x):d=d.take i++x::d.drop (i+1):=by
 obtain⟨hk,rfl⟩:=List.getElem?_eq_some_iff.1 h;simp
theorem fP{α:Type}[Lay α]{w:World}{ops:Array Oper}{rest:List Oper}{o:Oper}{a:Act}{Q:Exit→Act→World→Prop}(hgd:o.guard=none)(s x:Operand)(T:TypeId)
  (ho:o.op=.call {callee:=.builtin .append,args:=#[s,x],argTypes:=#[T,T]})
  (i0:TypeInfo) (z:Value) (bytes:Nat) (hU:prog.underlying T=some (.slice (Lay.ty α))) (hi0:prog.info? (Lay.ty α)=some i0) (hz0:i0.zero=some z) (hz1:i0.size=Lay.k α) (hz2:i0.bytes=bytes) (hzs:z.cells.size=Lay.k α) (hk0:0<Lay.k α)
  (v:Value) (ns:List α) (hs:a.eval s=v) (B:Nat) (hown:BF w B v ns) (q:Nat) (hx:a.eval x=.slice (some ⟨q,0,none⟩) 1 1) (t:α) (hnews:F5 w q t) (hl:(ns.length+1)*bytes≤140737488355328) (hm:ns.length+1≤maxLen) (hB:B≤w.heap.size)
  (h:∀a' c' w',BF w' B (.slice a' (ns.length+1) c') (ns++[t])→w.grownBy w' v.ownBlock→wpList prog ops Q rest (a.put o.dst (.slice a' (ns.length+1) c')) w'):
  wpList prog ops Q (o::rest) a w:=by
 refine wpList_plain hgd fun K hK=>?_;obtain⟨v',w',hr,h2,h3,_⟩:=run_append_own (P:=prog) w B T o.type (Lay.ty α) i0 z (Lay.k α) bytes hU hi0 hz0 hz1 hz2 hzs hk0 v ns.length (AO ns) hown.row ⟨q,0,none⟩ 1 1 (Lay.cs t) (by rw[Lay.len,Nat.one_mul]) (N8 hnews) (Lay.one t) hm hl hB;have h2':BF w' B v' (ns++[t]):=BF.G8 (by rw[List.length_append,EK];exact h2);obtain⟨a',c',rfl,_⟩:=h2'.slice;rw[List.length_append,List.length_singleton]at h2' hr;unfold Oper.wp execOp;simp only[ho,resolve,invoke,builtin,Sem.run_bind,Sem.run_pure,Result.andThen_ok,List.map_toArray,List.map_cons,List.map_nil,hs,hx,hr];exact hK _ _ (h a' c' w' h2' h3)
open Go.ChangeShapes Go.WideShapes Go.ChangeAt Go.ChangeMaps
theorem A66:laidOutB prog=true:=by kernel_rfl
theorem A67(s:ByteArray):∃l:List UInt8,s=⟨l.toArray⟩:=⟨s.data.toList,rfl⟩
section
variable {H:Type} {enc:TypeId×Value→H} {W:World} {base:Nat} {spare:Nat→Bool} {held:Bool}
theorem U9{e:TypeId}:∀ (l:List (DataW H)) (d:DataW H) (x:Nat),d∈l→x∈DataW.weights prog e d→x∈DataW.weightsAll prog e l
 |d'::r,d,x,h,hx=>by
  rw[DataW.weightsAll];rcases List.mem_cons.1 h with rfl|h
  ·exact List.mem_append.2 (.inl hx)
  ·exact List.mem_append.2 (.inr (U9 r d x h hx))
theorem B28{α:Type}[Lay α](al:α){T E:TypeId}(hU:prog.underlying T=some (.slice E))(hk:prog.cellsOf E=Lay.k α)(hk0:0<Lay.k α){bytes:Nat}(hby:prog.bytesOf E=bytes)(P:α→Prop)(Q:Nat→α→Prop)
  (ho:∀ {n:Nat} {cs:List Value} {x:DataW H×List MemPlace},cs.length=Lay.k α→DataW.trod enc prog W base spare held n E cs=some x→∃f:α,cs=Lay.cs f∧P f∧∀M,(∀y∈DataW.weights prog E x.1,y≤M)→Q M f)
  {fuel:Nat} {v:Value} {y:DataW H×List MemPlace} (h:DataW.trod enc prog W base spare held fuel T [v]=some y):
  ∃xs:List α,BZ W v xs∧(∀x∈xs,P x)∧∀M,(∀x∈DataW.weights prog T y.1,x≤M)→xs.length*bytes≤M∧∀x∈xs,Q M x:=by
 rcases Go.Deep.open_slice hU h with⟨h1,hx⟩|⟨a,len,cap,m,k,D,Pl,h1,hb,hl,hm,hmm,hx,hel⟩
 ·simp only[List.cons.injEq,and_true]at h1;rw[h1];exact⟨[],BZ.nil W,by simp,fun M _=>⟨by simp,by simp⟩⟩
 ·simp only[List.cons.injEq,and_true]at h1;rw[h1];subst hx;have hlm:len≤m:=by rw[hmm];split<;>omega
  have each:∀i,i<len→∃f:α,(∀c,c<Lay.k α→W.cell? (a.add (i*Lay.k α+c))=(Lay.cs f)[c]?)∧P f∧∀M,(∀y∈DataW.weights prog E (D i),y≤M)→Q M f:=by
   intro i hi;obtain⟨cs',g1,g2⟩:=hel i (by omega);rw[hk]at g1;obtain⟨_,hlen,hcell⟩:=World.cells?_some g1;obtain⟨f,rfl,hp,hq⟩:=ho hlen g2;refine⟨f,fun c hc=>?_,hp,hq⟩;have:=hcell c hc;rwa[Go.Deep.add_add]at this
  have:Inhabited α:=⟨al⟩;obtain⟨F,hF⟩:=Go.Deep.choose_lt each;refine⟨(List.range len).map F,?_,?_,?_⟩
  ·by_cases h0:len=0
   ·subst h0;exact .inl ⟨some a,cap,rfl,rfl,hm⟩
   ·have c0:=(hF 0 (by omega)).1 0 hk0;obtain⟨y,hy⟩:∃y,(Lay.cs (F 0))[0]?=some y:=⟨_,List.getElem?_eq_getElem (by rw[Lay.len];exact hk0)⟩;rw[hy]at c0;obtain⟨b,off,sp⟩:=a;have hsp:sp=none:=by
     cases sp with
     |none=>rfl
     |some s=>simp[World.cell?,Addr.add]at c0;split at c0<;>simp at c0
    subst hsp;have hblt:b<W.heap.size:=World.block_lt_of_cell? W _ (show W.cell? ((⟨b,off,none⟩:Addr).add (0*Lay.k α+0))=some _ from c0)|>fun h=>by simpa [Addr.add]using h
    refine .inr ⟨b,off,cap,by simp,by simpa using hl,hm,hblt,by simp;omega,fun j u hj=>?_⟩;have hjl:j<len*Lay.k α:=by
     have:=(List.getElem?_eq_some_iff.1 hj).1;rw[BA,List.length_map,List.length_range]at this;exact this
    have hi:j/Lay.k α<len:=Nat.div_lt_of_lt_mul (by rw[Nat.mul_comm];exact hjl);have hm':j%Lay.k α<Lay.k α:=Nat.mod_lt _ hk0;have hdm:j/Lay.k α*Lay.k α+j%Lay.k α=j:=by rw[Nat.mul_comm];exact Nat.div_add_mod j _
    have hg:=AZ ((List.range len).map F) (j/Lay.k α) (F (j/Lay.k α)) (by rw[List.getElem?_map,List.getElem?_range hi];rfl) (j%Lay.k α) hm';rw[hdm,hj]at hg;have:=(hF (j/Lay.k α) hi).1 (j%Lay.k α) hm';rw[hdm,Addr.add_lit,←hg]at this;exact this
  ·intro x hx;obtain⟨i,hi,rfl⟩:=List.mem_map.1 hx;exact(hF i (by simpa using hi)).2.1
  ·intro M hM;have hw':DataW.weights prog T (.slice ((List.range len).map D) ((List.range (m-len)).map fun j=>D (len+j)):DataW H)=
     (len+(m-len))*bytes::(DataW.weightsAll prog E ((List.range len).map D)++DataW.weightsAll prog E ((List.range (m-len)).map fun j=>D (len+j))):=by
    simp[DataW.weights,hU,hby]
   rw[hw']at hM;refine⟨?_,fun f hf=>?_⟩
   ·have:=hM _ (List.mem_cons_self ..);simp only[List.length_map,List.length_range];exact Nat.le_trans (Nat.mul_le_mul_right _ (by omega)) this
   ·obtain⟨i,hi,rfl⟩:=List.mem_map.1 hf;have hi':i<len:=by simpa using hi
    exact(hF i hi').2.2 M fun x hx=>hM x (List.mem_cons_of_mem _ (List.mem_append.2 (.inl (U9 _ (D i) x (List.mem_map.2 ⟨i,hi,rfl⟩) hx))))
theorem BO5{ts:List TypeId}{ds:List (DataW H)}(h:(DataW.weightsEach prog ts ds).all (· ≤reachBytes)=true){j:Nat}{T:TypeId}{d:DataW H}(ht:ts[j]?=some T)(hd:ds[j]?=some d):∀x∈DataW.weights prog T d,x≤140737488351232:=by
 intro x hx;have e:reachBytes=140737488351232:=by decide
 have h1:=List.all_eq_true.1 h _ (DataW.weights_mem_each ht hd x hx);rw[e]at h1;simpa using h1
end
end Go.Proofs.YtodnhndkghdinaaGreatDoor
