/-
  Part.
-/
import Derived.Test.YtppjdeblncincaaGreatDoorLOX
import Derived.Deep.AppendLies
import Derived.ProofKit
import Derived.OpenShut
import Derived.Deep.Slices
set_option maxRecDepth 20000
set_option maxHeartbeats 8000000
namespace Go.Proofs.YtppjdeblncincaaGreatDoor
open Go.RowKit Go.Proofs.Tryz
open _root_.Nat renaming le_refl->A8,mul_comm->DK
open _root_.List renaming getElem?_eq_getElem->AO,length_append->AP,getElem?_eq_some_iff->AV,mem_append->C9,length_map->EI,mem_map->EZ
open Go.Value.slice renaming injEq->AQ
open Go.Value renaming slice->FU
open Go.Obj renaming cells->FV
open Go renaming World->FW,Value->FX
open _root_.Option renaming none->G5,some->G6
variable{W:FW}{k:Nat}
structure CL7(s:Sv)(t:GN)(s':Sv):Prop where
 z:¬t.z<=J5 s.ts
 p:t.p.length<=140737488355328
 d:t.d.length<=140737488355328
 n:s.ts.length<=1000000000
 g:∃d1,s'=⟨s.up,d1,s.id,s.ep,s.ts++[t],s.dn,s.tr,s.ws⟩/\ZA 147 (fun x=>#[x,J9 t,.bool true]) s.fs d1 0
theorem A38{s:Sv}(hf:BX5 s){d:List DF}(g:LQ d)(e:Int)(k:Nat):BX5 ⟨s.up,d,s.id,e,s.ts.take k,s.dn,s.tr,s.ws⟩:=
 ⟨by have:=g.few;simp only;omega,JV g,by have:=hf.l;simp only[List.length_take];omega,fun x hx=>hf.lf x (List.mem_of_mem_take hx),hf.n,hf.nf,hf.si,hf.wa,hf.wf⟩
theorem C74{w:FW}{a:Option Addr}{c:Nat}{ts:List GN}(h:∀W,B0 w W->NC W (FU a ts.length c) ts):ts.length<=c:=by
 rcases h w (Below.refl _ _)with⟨a',cap,e,rfl,_⟩|⟨b,off,cap,e,h1,_⟩
 .simp
 .simp only[AQ]at e;omega
def SF0(w W:FW)(s:Sv)(al:Option Addr)(cl:Nat)(an:Option Addr)(cn:Nat)(ai:Option Addr)(ci:Nat)(aw:Option Addr)(cw:Nat):Prop:=
 ∃ad nd cd,CB w W s.up (FU ad nd cd) s.id s.ep (FU al s.ts.length cl) s.dn s.tr.z (FU an s.tr.ns.length cn) (FU ai s.tr.ss.length ci) (FU aw s.ws.length cw)/\
 SvV W (.agg #[.bool s.up,FU ad nd cd,I0 s.id,I0 s.ep,FU al s.ts.length cl,I0 s.dn,I0 s.tr.z,FU an s.tr.ns.length cn,FU ai s.tr.ss.length ci,FU aw s.ws.length cw]) s
theorem SF0.next{w V:FW}{s:Sv}{al an ai aw:Option Addr}{cl cn ci cw:Nat}(h:SF0 w W s al cl an cn ai ci aw cw)(hb:B0 W V):SF0 w V s al cl an cn ai ci aw cw:=by
 obtain⟨ad,nd,cd,h1,h2⟩:=h;exact⟨ad,nd,cd,h1.next hb,h2.next hb⟩
theorem BO8{w P:FW}{s:Sv}{ts:List GN}{k:Nat}{ad ad0 al an ai aw:Option Addr}{nd cd nd0 cd0 cl cn ci cw:Nat}{ep0:Int}(h:CB w P s.up (FU ad0 nd0 cd0) s.id ep0 (FU al ts.length cl) s.dn s.tr.z (FU an s.tr.ns.length cn) (FU ai s.tr.ss.length ci) (FU aw s.ws.length cw))(hd:IV P (FU ad nd cd) s.fs)
  (hs:(∀W,B0 w W->NC W (FU al ts.length cl) ts)/\(∀W,B0 w W->IL W (FU an s.tr.ns.length cn) s.tr.ns)/\(∀W,B0 w W->IL W (FU ai s.tr.ss.length ci) s.tr.ss)/\∀W,B0 w W->IL W (FU aw s.ws.length cw) s.ws) (hk:k<=ts.length) (ht:s.ts=ts.take k:=by rfl):
  SF0 w (((P.setCell ⟨w.heap.size,1,G5⟩ (FU ad nd cd)).setCell ⟨w.heap.size,3,G5⟩ (I0 s.ep)).setCell ⟨w.heap.size,4,G5⟩ (FU al k cl)) s al cl an cn ai ci aw cw:=by
 have hlen:s.ts.length=k:=by rw[ht];simp;omega
 have hb:=((h.below.setCell (p:=⟨w.heap.size,1,G5⟩) (by simp) (FU ad nd cd)).setCell (p:=⟨w.heap.size,3,G5⟩) (by simp) (I0 s.ep)).setCell (p:=⟨w.heap.size,4,G5⟩) (by simp) (FU al k cl);have u0:=h.s.gU;have u1:dH (P.setCell ⟨w.heap.size,1,G5⟩ (FU ad nd cd)) w.heap.size:=u0.set (by simp);have u2:dH ((P.setCell ⟨w.heap.size,1,G5⟩ (FU ad nd cd)).setCell ⟨w.heap.size,3,G5⟩ (I0 s.ep)) w.heap.size:=u1.set (by simp);refine⟨ad,nd,cd,by rw[hlen];exact((h.put 1 (FU ad nd cd) rfl).putE s.ep).put 4 (FU al k cl) rfl,_,_,_,_,_,rfl,SN (SN (SN hd u0 _) u1 _) u2 _,?_,hs.2.1 _ hb,hs.2.2.1 _ hb,hs.2.2.2 _ hb⟩;rw[hlen,ht];exact(hs.1 _ hb).take hk
def LF(w W:FW)(q:Nat)(s:Sv):Prop:=
 ∃ad nd cd al cl an cn ai ci aw cw,B0 w W/\IG W (w.heap.size+1) false (N0) 0 0 (N0) 0 0 (N0) (N0) (N0)/\
  IG W q s.up (FU ad nd cd) s.id s.ep (FU al s.ts.length cl) s.dn s.tr.z (FU an s.tr.ns.length cn) (FU ai s.tr.ss.length ci) (FU aw s.ws.length cw)/\w.heap.size+2<=q/\
  IV W (FU ad nd cd) s.fs/\GZ W (w.heap.size+2) (FU al s.ts.length cl) s.ts/\GZ W (w.heap.size+2) (FU an s.tr.ns.length cn) s.tr.ns/\GZ W (w.heap.size+2) (FU ai s.tr.ss.length ci) s.tr.ss/\GZ W (w.heap.size+2) (FU aw s.ws.length cw) s.ws/\
  (∀k,(Value.slice al s.ts.length cl).ownBlock=G6 k->k≠q/\(Value.slice an s.tr.ns.length cn).ownBlock≠G6 k/\(Value.slice ai s.tr.ss.length ci).ownBlock≠G6 k/\(Value.slice aw s.ws.length cw).ownBlock≠G6 k)/\
  (Value.slice an s.tr.ns.length cn).ownBlock≠G6 q/\(Value.slice ai s.tr.ss.length ci).ownBlock≠G6 q/\(Value.slice aw s.ws.length cw).ownBlock≠G6 q
theorem VO{α:Type}[Lay α]{B:Nat}{v:FX}{xs:List α}(h:GZ W B v xs)(hk:W.heap.size<=k):v.ownBlock≠G6 k:=fun e=>by have:=h.low k e;omega
theorem BO9{w W w1:FW}{s:Sv}{ad al an ai aw:Option Addr}{nd cd cl cn ci cw B1 B2:Nat}(hW:B0 w W)(hr:IG W (w.heap.size+1) false (N0) 0 0 (N0) 0 0 (N0) (N0) (N0))(h1:W.heap.size<=B1)(h2:B1<=B2)
  (od:GZ w1 W.heap.size (FU ad nd cd) s.fs) (ol:GZ w1 B1 (FU al s.ts.length cl) s.ts) (hl2:∀k,(Value.slice al s.ts.length cl).ownBlock=G6 k->k<B2) (on:GZ w1 B2 (FU an s.tr.ns.length cn) s.tr.ns) (oi:GZ w1 B2 (FU ai s.tr.ss.length ci) s.tr.ss) (ow:GZ w1 B2 (FU aw s.ws.length cw) s.ws) (hb:B0 W w1):
  LF w (w1.alloc (FV #[.bool s.up,FU ad nd cd,I0 s.id,I0 s.ep,FU al s.ts.length cl,I0 s.dn,I0 s.tr.z,FU an s.tr.ns.length cn,FU ai s.tr.ss.length ci,FU aw s.ws.length cw] 40)) w1.heap.size s:=by
 have hl:=hr.lt;have hal:=G9 w1 (FV #[.bool s.up,FU ad nd cd,I0 s.id,I0 s.ep,FU al s.ts.length cl,I0 s.dn,I0 s.tr.z,FU an s.tr.ns.length cn,FU ai s.tr.ss.length ci,FU aw s.ws.length cw] 40);refine⟨ad,nd,cd,al,cl,an,cn,ai,ci,aw,cw,GH (GH hW hb) hal,(hr.next hb).next hal,IG.new w1 s.up s.id s.ep s.dn s.tr.z _ _ _ _ _,by have:=hb.size;omega,P9.1 (od.next hal).seq,(ol.next hal).lower (by omega),(on.next hal).lower (by omega),(oi.next hal).lower (by omega),(ow.next hal).lower (by omega),fun k hk=>⟨?_,?_,?_,?_⟩,VO on (A8 _),VO oi (A8 _),VO ow (A8 _)⟩
 .rintro rfl;exact VO ol (A8 _) hk
 .intro e;have:=PI on e;have:=hl2 k hk;omega
 .intro e;have:=PI oi e;have:=hl2 k hk;omega
 .intro e;have:=PI ow e;have:=hl2 k hk;omega
theorem kW{up0:Bool}{id0 ep0 dn0 z0:Int}{vd0 vl0 vn0 vs0 vw0:FX}(h:IG W k up0 vd0 id0 ep0 vl0 dn0 z0 vn0 vs0 vw0)(up:Bool)(id ep dn z:Int)(vd vl vn vs vw:FX):
  IG (OG W k (.bool up) vd (I0 id) (I0 ep) vl (I0 dn) (I0 z) vn vs vw) k up vd id ep vl dn z vn vs vw:=by
 unfold IG at*;unfold OG;rw[GV _ (GV _ (GV _ (GV _ (GV _ (GV _ (GV _ (GV _ (GV _ (GV _ h)))))))))];simp
theorem B59{q:Nat}{up0:Bool}{id0 ep0 dn0 z0:Int}{vd0 vl0 vn0 vs0 vw0:FX}(h:IG W k up0 vd0 id0 ep0 vl0 dn0 z0 vn0 vs0 vw0)(hk:k≠q)(x0 x1 x2 x3 x4 x5 x6 x7 x8 x9:FX):IG (OG W q x0 x1 x2 x3 x4 x5 x6 x7 x8 x9) k up0 vd0 id0 ep0 vl0 dn0 z0 vn0 vs0 vw0:=by
 unfold OG;exact(IG.other (IG.other (IG.other (IG.other (IG.other (IG.other (IG.other (IG.other (IG.other (IG.other h hk) hk) hk) hk) hk) hk) hk) hk) hk) hk)
theorem IG.touch{F:Nat->Prop}{V:FW}{up:Bool}{id ep dn z:Int}{vd vl vn vs vw:FX}(h:IG W k up vd id ep vl dn z vn vs vw)(ht:Touch F W V)(hk:¬F k):IG V k up vd id ep vl dn z vn vs vw:=(ht.block k h.lt hk).trans h
theorem C75{w W V:FW}{q:Nat}{s:Sv}{d1:List DF}{tn:List GN}{ad al an ai aw a a2:Option Addr}{nd cd cl cn ci cw n c c2:Nat}(hb:B0 w W)(hr:IG W (w.heap.size+1) false (N0) 0 0 (N0) 0 0 (N0) (N0) (N0))
  (ha:IG W q s.up (FU ad nd cd) s.id s.ep (FU al s.ts.length cl) s.dn s.tr.z (FU an s.tr.ns.length cn) (FU ai s.tr.ss.length ci) (FU aw s.ws.length cw)) (hq:w.heap.size+2<=q)
  (ol:GZ W (w.heap.size+2) (FU al s.ts.length cl) s.ts) (on:GZ W (w.heap.size+2) (FU an s.tr.ns.length cn) s.tr.ns) (oi:GZ W (w.heap.size+2) (FU ai s.tr.ss.length ci) s.tr.ss) (ow:GZ W (w.heap.size+2) (FU aw s.ws.length cw) s.ws)
  (sep:∀k,(Value.slice al s.ts.length cl).ownBlock=G6 k->k≠q/\(Value.slice an s.tr.ns.length cn).ownBlock≠G6 k/\(Value.slice ai s.tr.ss.length ci).ownBlock≠G6 k/\(Value.slice aw s.ws.length cw).ownBlock≠G6 k)
  (n1:(Value.slice an s.tr.ns.length cn).ownBlock≠G6 q) (n2:(Value.slice ai s.tr.ss.length ci).ownBlock≠G6 q) (n3:(Value.slice aw s.ws.length cw).ownBlock≠G6 q)
  (ht:Touch (fun k=>(Value.slice al s.ts.length cl).ownBlock=G6 k) W V) (D:IV V (FU a n c) d1) (L:GZ V (w.heap.size+2) (FU a2 tn.length c2) tn) (hl:(Value.slice a2 tn.length c2).ownBlock=(Value.slice al s.ts.length cl).ownBlock\/∃k,(Value.slice a2 tn.length c2).ownBlock=G6 k/\W.heap.size<=k):
  IG V q s.up (FU ad nd cd) s.id s.ep (FU al s.ts.length cl) s.dn s.tr.z (FU an s.tr.ns.length cn) (FU ai s.tr.ss.length ci) (FU aw s.ws.length cw)/\
  LF w (OG V q (.bool s.up) (FU a n c) (I0 s.id) (I0 s.ep) (FU a2 tn.length c2) (I0 s.dn) (I0 s.tr.z) (FU an s.tr.ns.length cn) (FU ai s.tr.ss.length ci) (FU aw s.ws.length cw)) q ⟨s.up,d1,s.id,s.ep,tn,s.dn,s.tr,s.ws⟩:=by
 have ha':=ha.touch ht (fun e=>(sep q e).1 rfl);have hr':=hr.touch ht (fun e=>by have:=PI ol e;omega);have hqW:=ha.lt;have hb':=hb.trans (ht.below (B:=w.heap.size) hb.size (fun k hk=>by have:=PI ol hk;omega));have CW0:=KD on ht (fun k hk hf=>(sep k hf).2.1 hk);have CW1:=KD oi ht (fun k hk hf=>(sep k hf).2.2.1 hk);have keepW:=KD ow ht (fun k hk hf=>(sep k hf).2.2.2 hk);have lq:(Value.slice a2 tn.length c2).ownBlock≠G6 q:=by
  intro e;rcases hl with h|⟨k,h,hk⟩
  .rw[h]at e;exact(sep q e).1 rfl
  .rw[h]at e;simp only[Option.some.injEq]at e;omega
 refine⟨ha',a,n,c,a2,c2,an,cn,ai,ci,aw,cw,JL hb' (by omega) _ _ _ _ _ _ _ _ _ _,B59 hr' (by omega) _ _ _ _ _ _ _ _ _ _,kW ha' _ _ _ _ _ _ _ _ _ _,hq,oP ha'.gU D,XP L lq _ _ _ _ _ _ _ _ _ _,XP CW0 n1 _ _ _ _ _ _ _ _ _ _,XP CW1 n2 _ _ _ _ _ _ _ _ _ _,XP keepW n3 _ _ _ _ _ _ _ _ _ _,fun k hk=>?_,n1,n2,n3⟩;simp only at hk⊢;rcases hl with h|⟨k',h,hk'⟩
 .rw[h]at hk;exact sep k hk
 .rw[h]at hk;simp only[Option.some.injEq]at hk;subst hk;exact⟨by omega,VO on hk',VO oi hk',VO ow hk'⟩
theorem B60(s:Sv)(v:FX)(vl:FX)(l:List GN)(epo:Int)(w:FW)(hv:SvV w v s)(hvl:NC w vl l)(hf:BX5 s)(hll:l.length<=1000000000)(ht:ZY w)(hk:¬ (KW s.ts l:Int)<s.dn)(z:Int)(d2 d3:List DF)(hz:CV8 l (KW s.ts l) z)(G:NG 95 (fun g=>#[g,I0 z]) s.fs d2 0)(R:kT 96 (fun g=>#[g,I0 epo]) d2 d3 0)(gd:LQ d3)(st:Nat->Sv)(h0:st 0=⟨s.up,d3,s.id,epo,s.ts.take (KW s.ts l),s.dn,s.tr,s.ws⟩)(HT:∀i x,(l.drop (KW s.ts l))[i]?=G6 x->CL7 (st i) x (st (i+1))):
  Calls prog 66 #[v,vl,I0 epo] w (eP w (st (l.drop (KW s.ts l)).length) 0):=by
 obtain⟨ad,nd,cd,al,cl,an,cn,ai,ci,aw,cw,rfl,d1,l1,n1,s1,k1⟩:=hv.five;have CC:=G8 (fun W (hW:B0 w W)=>oK _ vl s.ts l W (l1.next hW) (hvl.next hW) (by have:=hf.l;omega) (by omega));have HG:=G8 (fun W (hW:B0 w W)=>G _ W (d1.next hW));have HLR:=G8 (fun(j:Nat) (x:GN) (hx:l[j]?=G6 x) W (hW:B0 w W)=>ZK (hvl.next hW) hx);obtain⟨lb,lc,rfl⟩:=MC hvl;have HR:=G8 R;have HTK:=G8 HT;have HLV:=G8 (fun W (hW:B0 w W)=>hvl.next hW);have HS0:=G8 (And.intro (fun W (hW:B0 w W)=>l1.next hW) (And.intro (fun W (hW:B0 w W)=>n1.next hW) (And.intro (fun W (hW:B0 w W)=>s1.next hW) (fun W (hW:B0 w W)=>k1.next hW))));have HFit:=G8 (A38 hf gd epo (KW s.ts l));have HTab:=G8 (fun W (hW:B0 w W)=>ht.next hW);clear hv d1 l1 n1 s1 k1 hvl hf G R ht HT gd;obtain⟨up,fs,id,ep,ts,dn,⟨tz,tns,tss⟩,ws⟩:=s;simp only at*;go_enter func66,ntmps66;go_wp2_with fail;have X0:=G8 (CB.start w up id ep dn tz (FU ad nd cd) (FU al ts.length cl) (FU an tns.length cn) (FU ai tss.length ci) (FU aw ws.length cw));generalize (w.alloc (FV #[.bool up,FU ad nd cd,I0 id,I0 ep,FU al ts.length cl,I0 dn,I0 tz,FU an tns.length cn,FU ai tss.length ci,FU aw ws.length cw] 40)).alloc (FV #[.bool false,N0,I0 0,I0 0,N0,I0 0,I0 0,N0,N0,N0] 40)=W0 at*;refine(G7 CC _ (G7 X0).below).mono ?_;rintro e w1 ⟨rfl,hb1⟩;have X1:=G8 ((G7 X0).next hb1);have x5:=(G7 X1).s.cells.2.2.2.2.2.1;clear hb1 X0 CC;have x1:=(G7 X1).s.cells.2.1;have hkl:=(XK ts l).2;have hkt:=(XK ts l).1;generalize KW ts l=k at*;have hnk:¬ ((k:Int)<dn):=by omega
 go_upto_if 27 with fail
 go_cut [9]from 15 (fun t9 wx=>t9=I0 z/\wx=w1)
 case first=>
  rcases hz with⟨rfl,rfl⟩|⟨x,hk0,hx,rfl⟩
  .go_wp2_with fail
   go_meet
   exact⟨rfl,rfl⟩
  .obtain⟨m,rfl⟩:∃m,k=m+1:=⟨k-1,by omega⟩;simp only[Nat.add_sub_cancel]at hx;obtain⟨b,o,c,he,hb,q,hm1,_⟩:=G7 HLR m x hx w1 (G7 X1).below;simp only[AQ]at he;obtain⟨rfl,_,rfl⟩:=he;have e0:=q.z hx;generalize x.z=z at*;have i1:(m:Int)<(l.length:Int):=by omega
   have i2:(0:Int)<((m+1:Nat):Int):=by omega
   have i3:IntKind.i64.wrap (((m+1:Nat):Int)-1)=(m:Int):=by rw[IntKind.wrap_i64];omega
   have i4:(((m+1:Nat):Int)-1)=(m:Int):=by omega
   clear q hx;go_wp2_with fail
   go_meet
   exact⟨rfl,rfl⟩
 case rest=>
  obtain⟨rfl,rfl⟩:=hcut;clear HLR;go_wp2_with fail;refine(G7 HG _ (G7 X1).below).mono ?_;rintro e w2 ⟨a2,n2,c2,rfl,D2,hb2⟩;have hal:=G9 w2 (FV #[FU a2 n2 c2] 30);have X2:=G8 (((G7 X1).next hb2).next hal);have A2:=G8 (KL.new w2 (FU a2 n2 c2));have F2:=G8 ((G7 D2).next hal);have Q2:=G8 (show w.heap.size+2<=w2.heap.size from((G7 X1).next hb2).lt);clear hb2 hal X1 D2 HG x1 x5;have ca:=(G7 A2).c;have fa:=(G7 A2).f;go_wp2_with fail;generalize w2.heap.size=q2 at*;generalize w2.alloc (FV #[FU a2 n2 c2] 30)=W2 at*;refine(G7 HR _ _ (G7 HTab _ (G7 X2).below) (G7 F2)).mono ?_;rintro e w3 ⟨a3,n3,c3,rfl,D3,hb3⟩;have X3:=(G7 X2).next hb3;have A3:=(G7 A2).next hb3;have ca3:=A3.c;have fa3:=A3.f;have Y3:=X3.dput q2 (FU a3 n3 c3) (by have:=G7 Q2;omega);have E3:=QG (G7 D3) A3 (FU a3 n3 c3);have B3:=A3.set (FU a3 n3 c3);have HX3:=G8 Y3;have HD3:=G8 E3;have HA3:=G8 B3;clear hb3 X2 A2 F2 D3 X3 A3 Y3 E3 B3 HR ca fa;go_upto_region 13 with fail;generalize w3.setCell ⟨q2,0,G5⟩ (FU a3 n3 c3)=W3 at*;clear ca3 fa3;have hcap:ts.length<=cl:=C74 (G7 HS0).1;have ca5:=(G7 HA3).c;have x4:=(G7 HX3).s.cells.2.2.2.2.1;have x1:=(G7 HX3).s.cells.2.1;have x3:=(G7 HX3).s.cells.2.2.2.1;have xf1:=(G7 HX3).s.GU 1;have xf3:=(G7 HX3).s.GU 3;have xf4:=(G7 HX3).s.GU 4;have hnq:q2≠w.heap.size:=by have:=G7 Q2;omega
  have k0:(0:Int)<=(k:Int):=by omega
  have kk1:(k:Int)<=(cl:Int):=by omega
  have k2:k<=cl:=by omega
  have RF4:=G8 (BO8 (s:=⟨up,d3,id,epo,ts.take k,dn,⟨tz,tns,tss⟩,ws⟩) (G7 HX3) (G7 HD3) (G7 HS0) hkt)
  go_cut [14]from 16 (fun _ wx=>Hid (SF0 w wx ⟨up,d3,id,epo,ts.take k,dn,⟨tz,tns,tss⟩,ws⟩ al cl an cn ai ci aw cw))
  case first=>
   go_region
   all_goals go_wp2_with fail
   all_goals go_meet
   all_goals exact G8 ((G7 RF4).next (Below.refl _ _).drew)
  case rest=>
   have HRF:=hcut;clear hcut RF4 ca5 x4 x1 x3 xf1 xf3 xf4 HX3 HD3 HA3;generalize ts.take k=tk at*;obtain⟨ad4,nd4,cd4,CB4,SV4⟩:=G7 HRF;simp only at CB4 SV4;obtain⟨x0,x1,x2,x3,x4,x5,x6,x7,x8,x9⟩:=CB4.s.cells;have CPY:=G8 (ZM (⟨up,d3,id,epo,tk,dn,⟨tz,tns,tss⟩,ws⟩:Sv) _ wc SV4 (G7 HFit));have HBR:=G8 (And.intro CB4.below CB4.r);clear SV4 CB4 HRF HFit HS0;go_wp2_with fail;refine(G7 CPY).mono ?_;rintro e w5 ⟨bd,md,fd,bl,fl,bn,fn,bi,fi,bw,fw,B1,B2,rfl,h1,h2,od,hd1,ol,hl2,on,oi,ow,hb5⟩;simp only at od ol hl2 on oi ow;have LF5:=G8 (BO9 (s:=(⟨up,d3,id,epo,tk,dn,⟨tz,tns,tss⟩,ws⟩:Sv)) (G7 HBR).1 (G7 HBR).2 h1 h2 od ol hl2 on oi ow hb5);simp only at LF5;clear h1 h2 od hd1 ol hl2 on oi ow hb5 HBR CPY x0 x1 x2 x3 x4 x5 x6 x7 x8 x9;go_upto_region 15 with fail;generalize w5.heap.size=q5 at*;generalize w5.alloc (FV #[.bool up,FU bd md fd,I0 id,I0 epo,FU bl tk.length fl,I0 dn,I0 tz,FU bn tns.length fn,FU bi tss.length fi,FU bw ws.length fw] 40)=W5 at*
   go_cut [71,72,73]from 15 (fun t71 t72 t73 wx=>∃la lcc,t71=FU la (l.length-k) lcc/\t72=I0 ((l.length-k:Nat):Int)/\t73=I0 0/\wx=W5/\Hid (∀W,B0 w W->NC W (FU la (l.length-k) lcc) (l.drop k)))
   case first=>
    by_cases hlc:lc=k
    .subst hlc;go_wp2_with fail
     all_goals go_meet
     all_goals exact⟨_,_,rfl,rfl,rfl,rfl,G8 fun W hW=>((G7 HLV W hW).drop hkl).1 rfl⟩
    .go_wp2_with fail
     all_goals go_meet
     all_goals exact⟨_,_,rfl,rfl,rfl,rfl,G8 fun W hW=>((G7 HLV W hW).drop hkl).2 hlc⟩
   case rest=>
    obtain⟨la,lcc,rfl,rfl,rfl,rfl,HLD⟩:=hcut;clear HLV hcap hnq k0 kk1 k2 hkt;go_wp2_with fail
    go_loopg [73] (l.length-k) (fun kx s73 wr=>∃i:Nat,s73=I0 i/\i<=l.length-k/\l.length-k-i<=kx/\Hid (LF w wr q5 (st i)))
    case atStart=>exact⟨0,rfl,Nat.zero_le _,by omega,G8 (by rw[h0];exact G7 LF5)⟩
    case round=>
     obtain⟨i,rfl,hi,hgi,hR⟩:=hrel;by_cases hlt:i<l.length-k
     .clear h0 LF5;obtain⟨x,hx⟩:∃x,(l.drop k)[i]?=G6 x:=⟨_,AO (by simp;omega)⟩;obtain⟨gad,gnd,gcd,gal,gcl,gan,gcn,gai,gci,gaw,gcw,hbw,hr,ha,hq,hd,ol,on,oi,ow,sep,n1,n2,n3⟩:=G7 hR;obtain⟨b,o,c,he,hb,q,hq9⟩:=ZK (G7 HLD wr hbw) hx;simp only[AQ]at he;obtain⟨rfl,he2,rfl⟩:=he;clear he2 hq9;have e0:=q.z hx;have e1:=q.o hx;have e2:=q.s hx;have e3:=q.p hx;have e4:=q.d hx;have e5:=q.v hx;have e6:=q.w hx;obtain⟨tz',tp',td',tn',d1,hst,G⟩:=G7 HTK i x hx;obtain⟨xz,xo,xs,xp,xd,xv,xw⟩:=x;have hal:=G9 wr (FV #[I0 xz,I0 xo,I0 xs,S0 xp,S0 xd,I0 xv,I0 xw] 79);have CT:=G8 (CL3 (st i).up (st i).id (st i).ep (st i).dn (st i).tr.z (st i).fs (st i).ts (⟨xz,xo,xs,xp,xd,xv,xw⟩:GN) true (FU gad gnd gcd) (FU gal (st i).ts.length gcl) gan gai gaw (st i).tr.ns.length gcn (st i).tr.ss.length gci (st i).ws.length gcw _ (hd.next hal) (NY.1 (ol.next hal).seq) tz' d1 (w.heap.size+2) (by have:=ha.lt;have:=hal.size;omega) (ol.next hal) tn' tp' td' G);unfold J9 at CT;simp only at e0 e1 e2 e3 e4 e5 e6 CT;have LS:=G8 (fun V a n c a2 c2 (tn:List GN) (T:Touch _ _ V) (D:IV V (FU a n c) d1) (L:GZ V (w.heap.size+2) (FU a2 tn.length c2) tn) hl=>C75 (s:=(st i)) (GH hbw hal) (hr.next hal) (ha.next hal) hq (ol.next hal) (on.next hal) (oi.next hal) (ow.next hal) sep n1 n2 n3 T D L hl);obtain⟨x0,x1,x2,x3,x4,x5,x6,x7,x8,x9⟩:=(ha.next hal).cells;have BE5:(i:Int)<((l.length-k:Nat):Int):=by omega
      clear q hx hal hbw hr ha hd ol on oi ow sep n1 n2 n3 hR tz' tp' td' tn' G;go_wp2_with fail;generalize wr.alloc (FV #[I0 xz,I0 xo,I0 xs,S0 xp,S0 xd,I0 xv,I0 xw] 79)=W6 at*;refine(G7 CT).mono ?_;rintro e w7 ⟨a7,n7,c7,b7,f7,rfl,D7,L7,hl7,T7⟩;obtain⟨HA7,LF7⟩:=G7 LS w7 a7 n7 c7 b7 f7 ((st i).ts++[(⟨xz,xo,xs,xp,xd,xv,xw⟩:GN)]) T7 D7 L7 hl7;rw[<-hst]at LF7;generalize (st i).ts++[(⟨xz,xo,xs,xp,xd,xv,xw⟩:GN)]=tn at*;have HLF7:=G8 LF7;clear x0 x1 x2 x3 x4 x5 x6 x7 x8 x9;obtain⟨x0,x1,x2,x3,x4,x5,x6,x7,x8,x9⟩:=HA7.cells;have xf0:=HA7.GU 0;have xf1:=HA7.GU 1;have xf2:=HA7.GU 2;have xf3:=HA7.GU 3;have xf4:=HA7.GU 4;have xf5:=HA7.GU 5;have xf6:=HA7.GU 6;have xf7:=HA7.GU 7;have xf8:=HA7.GU 8;have xf9:=HA7.GU 9;clear LF7 D7 L7 hl7 T7 HA7 LS CT hst e0 e1 e2 e3 e4 e5 e6;unfold OG at HLF7;go_wp2_with fail
      go_roundg (l.length-k-(i+1))
      case measure=>omega
      case rel=>exact⟨i+1,rfl,by omega,A8 _,HLF7⟩
     .obtain rfl:i=l.length-k:=by omega
      obtain⟨gad,gnd,gcd,gal,gcl,gan,gcn,gai,gci,gaw,gcw,hbw,hr,ha,hq,hd,ol,on,oi,ow,sep,n1,n2,n3⟩:=G7 hR;obtain⟨x0,x1,x2,x3,x4,x5,x6,x7,x8,x9⟩:=ha.cells;obtain⟨r0,r1,r2,r3,r4,r5,r6,r7,r8,r9⟩:=hr.cells;have rf0:=hr.GU 0;have rf1:=hr.GU 1;have rf2:=hr.GU 2;have rf3:=hr.GU 3;have rf4:=hr.GU 4;have rf5:=hr.GU 5;have rf6:=hr.GU 6;have rf7:=hr.GU 7;have rf8:=hr.GU 8;have rf9:=hr.GU 9;have PN:=G8 (bI (s:=st (l.length-k)) hr.gU hd (NY.1 ol.seq) on.seq oi.seq (YK oi (by omega)) ow.seq);have HB9:=G8 hbw;have FR9:=G8 (MG oi);have hdl:(l.drop k).length=l.length-k:=by simp
      clear hbw hr ha hd ol on oi ow sep n1 n2 n3 hR;go_wp2_with fail;refine bodyPost_ret (v:=.tuple #[.agg #[.bool (st (l.length-k)).up,FU gad gnd gcd,I0 (st (l.length-k)).id,I0 (st (l.length-k)).ep,FU gal (st (l.length-k)).ts.length gcl,I0 (st (l.length-k)).dn,I0 (st (l.length-k)).tr.z,FU gan (st (l.length-k)).tr.ns.length gcn,FU gai (st (l.length-k)).tr.ss.length gci,FU gaw (st (l.length-k)).ws.length gcw],I0 0]) (by simp[results,results66,go_sem,r0,r1,r2,r3,r4,r5,r6,r7,r8,r9]) rfl ?_;rw[hdl];exact⟨gad,gnd,gcd,gal,_,gcl,gan,_,gcn,gai,_,gci,gaw,_,gcw,rfl,G8 ⟨G7 PN,(G7 FR9).lower (by omega)⟩,JL (G7 HB9) (by omega) _ _ _ _ _ _ _ _ _ _⟩
def YT(e:Int):DF:=⟨JI,QM (KY e 0),[]⟩
theorem BY4:bl JI NV=true:=by decide
theorem eX(s t:List UInt8):Gap [⟨NV,s,t⟩] [] [⟨NV,s,t⟩] JI:=⟨rfl,by simp,by simp[BY4]⟩
theorem bU(a b s t:List UInt8):There [⟨JI,a,b⟩,⟨NV,s,t⟩] [] ⟨JI,a,b⟩ [⟨NV,s,t⟩] JI:=(eX s t).ins (f':=⟨JI,a,b⟩) rfl
theorem kX(a b s t:List UInt8):There [⟨JI,a,b⟩,⟨NV,s,t⟩] [⟨JI,a,b⟩] ⟨NV,s,t⟩ [] NV:=⟨rfl,rfl,by simp[BY4],by simp⟩
theorem TS{a b s t:List UInt8}(h1:a.length+b.length<=1048576)(h2:s.length+t.length<=1048576):LQ [⟨JI,a,b⟩,⟨NV,s,t⟩]:=
 qU (bQ h2) (eX s t) ZJ (by simp) (f':=⟨JI,a,b⟩) rfl h1
theorem C76{m:List GN}{e:Int}(he:zIn e=true)(hm:(IE m).length<=1048576):kT 96 (fun x=>#[x,I0 e]) [OX m] [YT e,OX m] 0:=by
 have hx:=aW (KY e 0);have g0:LQ [OX m]:=bQ (by simpa using hm);have g1:LQ [⟨JI,[],QM (KY e 0)⟩,OX m]:=TS (by simp;omega) (by simpa using hm);refine A34 [OX m] [] [⟨JI,[],QM (KY e 0)⟩,OX m] [YT e,OX m] e 7 0 (U9 he (by decide)).2 (by decide) (vS fun v W hv=>?_) (MQ fun v W hv=>?_) (MQ fun v W hv=>?_)
 .exact AY7 v [OX m] JI 7 W hv (JV g0) (.inr ⟨g0,⟨_,_,eX (IE m) []⟩,rfl⟩)
 .exact bF v [OX m] [] [OX m] JI (QM (KY e 0)) W hv (JV g0) g0 ZJ (by simp) (eX (IE m) []) (by omega)
 .have:=YI v _ [] [OX m] ⟨JI,[],QM (KY e 0)⟩ JI W hv (JV g1) g1 (bU [] (QM (KY e 0)) (IE m) []);simpa [YT]using this
theorem C77{ts:List GN}(h:Logs ts){j:Nat}{x:GN}(hx:ts[j]?=G6 x):TJ x.z ts=ts.take (j+1):=by
 obtain⟨hj,hxe⟩:=AV.1 hx;have hr:=List.pairwise_iff_getElem.1 h.rise;unfold TJ;have p1:∀t∈ts.take (j+1),decide (t.z<=x.z)=true:=by
  intro t ht;obtain⟨i,hi,rfl⟩:=List.getElem_of_mem ht;have hi':i<j+1:=by simp at hi;omega
  simp only[List.getElem_take,decide_eq_true_eq];rw[<-hxe];by_cases e:i=j
  .subst e;exact Int.le_refl _
  .have:=hr i j (by omega) hj (by omega);omega
 have e0:=List.takeWhile_append_of_pos (l₂:=ts.drop (j+1)) p1;rw[List.take_append_drop]at e0;rw[e0]
 cases hd:ts.drop (j+1)with
 |nil=>simp
 |cons y r=>
  have hy:ts[j+1]?=G6 y:=by
   have:=congrArg (fun l=>l[0]?) hd;simpa using this
  obtain⟨hk,rfl⟩:=AV.1 hy;have:=hr j (j+1) hj hk (by omega);rw[hxe]at this;rw[List.takeWhile_cons_of_neg (by simp;omega),List.append_nil]
theorem BP1{d:List GN}{i:Nat}{x:GN}(h:d[i]?=G6 x):d=d.take i++x::d.drop (i+1):=by
 obtain⟨hk,rfl⟩:=AV.1 h;simp
theorem lS{α:Type}[Lay α]{w:FW}{ops:Array Oper}{rest:List Oper}{o:Oper}{a:Act}{Q:Exit->Act->FW->Prop}(hgd:o.guard=G5)(s x:Operand)(T:TypeId)
  (ho:o.op=.call {callee:=.builtin .append,args:=#[s,x],argTypes:=#[T,T]})
  (i0:TypeInfo) (z:FX) (bytes:Nat) (hU:prog.underlying T=G6 (.slice (Lay.ty α))) (hi0:prog.info? (Lay.ty α)=G6 i0) (hz0:i0.zero=G6 z) (hz1:i0.size=Lay.k α) (hz2:i0.bytes=bytes) (hzs:z.cells.size=Lay.k α) (hk0:0<Lay.k α)
  (v:FX) (ns:List α) (hs:a.eval s=v) (B:Nat) (hown:GZ w B v ns) (q:Nat) (hx:a.eval x=FU (G6 ⟨q,0,G5⟩) 1 1) (t:α) (hnews:JQ w q t) (hl:(ns.length+1)*bytes<=140737488355328) (hm:ns.length+1<=maxLen) (hB:B<=w.heap.size)
  (h:∀a' c' w',GZ w' B (FU a' (ns.length+1) c') (ns++[t])->w.grownBy w' v.ownBlock->wpList prog ops Q rest (a.put o.dst (FU a' (ns.length+1) c')) w'):
  wpList prog ops Q (o::rest) a w:=by
 refine wpList_plain hgd fun K hK=>?_;obtain⟨v',w',hr,h2,h3,_⟩:=run_append_own (P:=prog) w B T o.type (Lay.ty α) i0 z (Lay.k α) bytes hU hi0 hz0 hz1 hz2 hzs hk0 v ns.length (GI ns) hown.row ⟨q,0,G5⟩ 1 1 (Lay.cs t) (by rw[Lay.len,Nat.one_mul]) (RP hnews) (Lay.one t) hm hl hB;have h2':GZ w' B v' (ns++[t]):=GZ.L9 (by rw[AP,JH];exact h2);obtain⟨a',c',rfl,_⟩:=h2'.slice;rw[AP,List.length_singleton]at h2' hr;unfold Oper.wp execOp;simp only[ho,resolve,invoke,builtin,Sem.run_bind,Sem.run_pure,Result.andThen_ok,List.map_toArray,List.map_cons,List.map_nil,hs,hx,hr];exact hK _ _ (h a' c' w' h2' h3)
open Go.ChangeShapes Go.WideShapes Go.ChangeAt Go.ChangeMaps
theorem BV7:laidOutB prog=true:=by kernel_rfl
theorem AG2(s:ByteArray):∃l:List UInt8,s=⟨l.toArray⟩:=⟨s.data.toList,rfl⟩
section
variable {H:Type} {enc:TypeId×FX->H} {W:FW} {base:Nat} {spare:Nat->Bool} {held:Bool}
theorem YA{e:TypeId}:∀ (l:List (DataW H)) (d:DataW H) (x:Nat),d∈l->x∈DataW.weights prog e d->x∈DataW.weightsAll prog e l
 |d'::r,d,x,h,hx=>by
  rw[DataW.weightsAll];rcases List.mem_cons.1 h with rfl|h
  .exact C9.2 (.inl hx)
  .exact C9.2 (.inr (YA r d x h hx))
theorem BE2{α:Type}[Lay α](al:α){T E:TypeId}(hU:prog.underlying T=G6 (.slice E))(hk:prog.cellsOf E=Lay.k α)(hk0:0<Lay.k α){bytes:Nat}(hby:prog.bytesOf E=bytes)(P:α->Prop)(Q:Nat->α->Prop)
  (ho:∀ {n:Nat} {cs:List FX} {x:DataW H×List MemPlace},cs.length=Lay.k α->DataW.trod enc prog W base spare held n E cs=G6 x->∃f:α,cs=Lay.cs f/\P f/\∀M,(∀y∈DataW.weights prog E x.1,y<=M)->Q M f)
  {fuel:Nat} {v:FX} {y:DataW H×List MemPlace} (h:DataW.trod enc prog W base spare held fuel T [v]=G6 y):
  ∃xs:List α,IL W v xs/\(∀x∈xs,P x)/\∀M,(∀x∈DataW.weights prog T y.1,x<=M)->xs.length*bytes<=M/\∀x∈xs,Q M x:=by
 rcases Go.Deep.open_slice hU h with⟨h1,hx⟩|⟨a,len,cap,m,k,D,Pl,h1,hb,hl,hm,hmm,hx,hel⟩
 .simp only[List.cons.injEq,and_true]at h1;rw[h1];exact⟨[],IL.nil W,by simp,fun M _=>⟨by simp,by simp⟩⟩
 .simp only[List.cons.injEq,and_true]at h1;rw[h1];subst hx;have hlm:len<=m:=by rw[hmm];split<;>omega
  have each:∀i,i<len->∃f:α,(∀c,c<Lay.k α->W.cell? (a.add (i*Lay.k α+c))=(Lay.cs f)[c]?)/\P f/\∀M,(∀y∈DataW.weights prog E (D i),y<=M)->Q M f:=by
   intro i hi;obtain⟨cs',g1,g2⟩:=hel i (by omega);rw[hk]at g1;obtain⟨_,hlen,hcell⟩:=World.cells?_some g1;obtain⟨f,rfl,hp,hq⟩:=ho hlen g2;refine⟨f,fun c hc=>?_,hp,hq⟩;have:=hcell c hc;rwa[Go.Deep.add_add]at this
  have:Inhabited α:=⟨al⟩;obtain⟨F,hF⟩:=Go.Deep.choose_lt each;refine⟨(List.range len).map F,?_,?_,?_⟩
  .by_cases h0:len=0
   .subst h0;exact .inl ⟨G6 a,cap,rfl,rfl,hm⟩
   .have c0:=(hF 0 (by omega)).1 0 hk0;obtain⟨y,hy⟩:∃y,(Lay.cs (F 0))[0]?=G6 y:=⟨_,AO (by rw[Lay.len];exact hk0)⟩;rw[hy]at c0;obtain⟨b,off,sp⟩:=a;have hsp:sp=G5:=by
     cases sp with
     |none=>rfl
     |some s=>simp[World.cell?,Addr.add]at c0;split at c0<;>simp at c0
    subst hsp;have hblt:b<W.heap.size:=World.block_lt_of_cell? W _ (show W.cell? ((⟨b,off,G5⟩:Addr).add (0*Lay.k α+0))=G6 _ from c0)|>fun h=>by simpa [Addr.add]using h
    refine .inr ⟨b,off,cap,by simp,by simpa using hl,hm,hblt,by simp;omega,fun j u hj=>?_⟩;have hjl:j<len*Lay.k α:=by
     have:=(AV.1 hj).1;rw[H6,EI,List.length_range]at this;exact this
    have hi:j/Lay.k α<len:=Nat.div_lt_of_lt_mul (by rw[DK];exact hjl);have hm':j%Lay.k α<Lay.k α:=Nat.mod_lt _ hk0;have hdm:j/Lay.k α*Lay.k α+j%Lay.k α=j:=by rw[DK];exact Nat.div_add_mod j _
    have hg:=GY ((List.range len).map F) (j/Lay.k α) (F (j/Lay.k α)) (by rw[List.getElem?_map,List.getElem?_range hi];rfl) (j%Lay.k α) hm';rw[hdm,hj]at hg;have:=(hF (j/Lay.k α) hi).1 (j%Lay.k α) hm';rw[hdm,Addr.add_lit,<-hg]at this;exact this
  .intro x hx;obtain⟨i,hi,rfl⟩:=EZ.1 hx;exact(hF i (by simpa using hi)).2.1
  .intro M hM;have hw':DataW.weights prog T (DataW.slice ((List.range len).map D) ((List.range (m-len)).map fun j=>D (len+j)):DataW H)=
     (len+(m-len))*bytes::(DataW.weightsAll prog E ((List.range len).map D)++DataW.weightsAll prog E ((List.range (m-len)).map fun j=>D (len+j))):=by
    simp[DataW.weights,hU,hby]
   rw[hw']at hM;refine⟨?_,fun f hf=>?_⟩
   .have:=hM _ (List.mem_cons_self ..);simp only[EI,List.length_range];exact Nat.le_trans (Nat.mul_le_mul_right _ (by omega)) this
   .obtain⟨i,hi,rfl⟩:=EZ.1 hf;have hi':i<len:=by simpa using hi
    exact(hF i hi').2.2 M fun x hx=>hM x (List.mem_cons_of_mem _ (C9.2 (.inl (YA _ (D i) x (EZ.2 ⟨i,hi,rfl⟩) hx))))
theorem CR4{ts:List TypeId}{ds:List (DataW H)}(h:(DataW.weightsEach prog ts ds).all (· <=reachBytes)=true){j:Nat}{T:TypeId}{d:DataW H}(ht:ts[j]?=G6 T)(hd:ds[j]?=G6 d):∀x∈DataW.weights prog T d,x<=140737488351232:=by
 intro x hx;have e:reachBytes=140737488351232:=by decide
 have h1:=List.all_eq_true.1 h _ (DataW.weights_mem_each ht hd x hx);rw[e]at h1;simpa using h1
end
