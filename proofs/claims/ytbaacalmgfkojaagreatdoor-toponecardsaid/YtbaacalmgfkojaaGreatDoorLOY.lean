/-
  Part.
-/
import Derived.Test.YtbaacalmgfkojaaGreatDoorLOX
import Derived.Deep.AppendLies
import Derived.ProofKit
import Derived.OpenShut
import Derived.Deep.Slices
set_option maxRecDepth 20000
set_option maxHeartbeats 8000000
namespace Go.Proofs.YtbaacalmgfkojaaGreatDoor
open Go.RowKit Go.Proofs.Tryz
open _root_.Nat renaming le_refl->A8,mul_comm->DC
open _root_.List renaming getElem?_eq_getElem->AL,length_append->AO,getElem?_eq_some_iff->AU,mem_append->BU,length_map->EG,mem_map->EU
open Go.Value.slice renaming injEq->AP
open Go.Value renaming slice->FQ
open Go.Obj renaming cells->FT
open Go renaming World->FU,Value->FV
open _root_.Option renaming none->FX,some->FZ
variable{W:FU}{k:Nat}
structure CF0(s:Sv)(t:GI)(s':Sv):Prop where
 z:¬t.z<=IZ s.ts
 p:t.p.length<=140737488355328
 d:t.d.length<=140737488355328
 n:s.ts.length<=1000000000
 g:∃d1,s'=⟨s.up,d1,s.id,s.ep,s.ts++[t],s.dn,s.tr,s.ws⟩/\YF 157 (fun x=>#[x,J7 t,.bool true]) s.fs d1 0
theorem A15{s:Sv}(hf:BR6 s){d:List DF}(g:LK d)(e:Int)(k:Nat):BR6 ⟨s.up,d,s.id,e,s.ts.take k,s.dn,s.tr,s.ws⟩:=
 ⟨by have:=g.few;simp only;omega,JR g,by have:=hf.l;simp only[List.length_take];omega,fun x hx=>hf.lf x (List.mem_of_mem_take hx),hf.n,hf.nf,hf.si,hf.wa,hf.wf⟩
theorem C14{w:FU}{a:Option Addr}{c:Nat}{ts:List GI}(h:∀W,B0 w W->NI W (FQ a ts.length c) ts):ts.length<=c:=by
 rcases h w (Below.refl _ _)with⟨a',cap,e,rfl,_⟩|⟨b,off,cap,e,h1,_⟩
 .simp
 .simp only[AP]at e;omega
def SF0(w W:FU)(s:Sv)(al:Option Addr)(cl:Nat)(an:Option Addr)(cn:Nat)(ai:Option Addr)(ci:Nat)(aw:Option Addr)(cw:Nat):Prop:=
 ∃ad nd cd,CB w W s.up (FQ ad nd cd) s.id s.ep (FQ al s.ts.length cl) s.dn s.tr.z (FQ an s.tr.ns.length cn) (FQ ai s.tr.ss.length ci) (FQ aw s.ws.length cw)/\
 SvV W (.agg #[.bool s.up,FQ ad nd cd,I0 s.id,I0 s.ep,FQ al s.ts.length cl,I0 s.dn,I0 s.tr.z,FQ an s.tr.ns.length cn,FQ ai s.tr.ss.length ci,FQ aw s.ws.length cw]) s
theorem SF0.next{w V:FU}{s:Sv}{al an ai aw:Option Addr}{cl cn ci cw:Nat}(h:SF0 w W s al cl an cn ai ci aw cw)(hb:B0 W V):SF0 w V s al cl an cn ai ci aw cw:=by
 obtain⟨ad,nd,cd,h1,h2⟩:=h;exact⟨ad,nd,cd,h1.next hb,h2.next hb⟩
theorem BJ4{w P:FU}{s:Sv}{ts:List GI}{k:Nat}{ad ad0 al an ai aw:Option Addr}{nd cd nd0 cd0 cl cn ci cw:Nat}{ep0:Int}(h:CB w P s.up (FQ ad0 nd0 cd0) s.id ep0 (FQ al ts.length cl) s.dn s.tr.z (FQ an s.tr.ns.length cn) (FQ ai s.tr.ss.length ci) (FQ aw s.ws.length cw))(hd:IK P (FQ ad nd cd) s.fs)
  (hs:(∀W,B0 w W->NI W (FQ al ts.length cl) ts)/\(∀W,B0 w W->IL W (FQ an s.tr.ns.length cn) s.tr.ns)/\(∀W,B0 w W->IL W (FQ ai s.tr.ss.length ci) s.tr.ss)/\∀W,B0 w W->IL W (FQ aw s.ws.length cw) s.ws) (hk:k<=ts.length) (ht:s.ts=ts.take k:=by rfl):
  SF0 w (((P.setCell ⟨w.heap.size,1,FX⟩ (FQ ad nd cd)).setCell ⟨w.heap.size,3,FX⟩ (I0 s.ep)).setCell ⟨w.heap.size,4,FX⟩ (FQ al k cl)) s al cl an cn ai ci aw cw:=by
 have hlen:s.ts.length=k:=by rw[ht];simp;omega
 have hb:=((h.below.setCell (p:=⟨w.heap.size,1,FX⟩) (by simp) (FQ ad nd cd)).setCell (p:=⟨w.heap.size,3,FX⟩) (by simp) (I0 s.ep)).setCell (p:=⟨w.heap.size,4,FX⟩) (by simp) (FQ al k cl);have u0:=h.s.fA;have u1:bC (P.setCell ⟨w.heap.size,1,FX⟩ (FQ ad nd cd)) w.heap.size:=u0.set (by simp);have u2:bC ((P.setCell ⟨w.heap.size,1,FX⟩ (FQ ad nd cd)).setCell ⟨w.heap.size,3,FX⟩ (I0 s.ep)) w.heap.size:=u1.set (by simp);refine⟨ad,nd,cd,by rw[hlen];exact((h.put 1 (FQ ad nd cd) rfl).putE s.ep).put 4 (FQ al k cl) rfl,_,_,_,_,_,rfl,RY (RY (RY hd u0 _) u1 _) u2 _,?_,hs.2.1 _ hb,hs.2.2.1 _ hb,hs.2.2.2 _ hb⟩;rw[hlen,ht];exact(hs.1 _ hb).take hk
def LF(w W:FU)(q:Nat)(s:Sv):Prop:=
 ∃ad nd cd al cl an cn ai ci aw cw,B0 w W/\IC W (w.heap.size+1) false (N0) 0 0 (N0) 0 0 (N0) (N0) (N0)/\
  IC W q s.up (FQ ad nd cd) s.id s.ep (FQ al s.ts.length cl) s.dn s.tr.z (FQ an s.tr.ns.length cn) (FQ ai s.tr.ss.length ci) (FQ aw s.ws.length cw)/\w.heap.size+2<=q/\
  IK W (FQ ad nd cd) s.fs/\GZ W (w.heap.size+2) (FQ al s.ts.length cl) s.ts/\GZ W (w.heap.size+2) (FQ an s.tr.ns.length cn) s.tr.ns/\GZ W (w.heap.size+2) (FQ ai s.tr.ss.length ci) s.tr.ss/\GZ W (w.heap.size+2) (FQ aw s.ws.length cw) s.ws/\
  (∀k,(Value.slice al s.ts.length cl).ownBlock=FZ k->k≠q/\(Value.slice an s.tr.ns.length cn).ownBlock≠FZ k/\(Value.slice ai s.tr.ss.length ci).ownBlock≠FZ k/\(Value.slice aw s.ws.length cw).ownBlock≠FZ k)/\
  (Value.slice an s.tr.ns.length cn).ownBlock≠FZ q/\(Value.slice ai s.tr.ss.length ci).ownBlock≠FZ q/\(Value.slice aw s.ws.length cw).ownBlock≠FZ q
theorem V6{α:Type}[Lay α]{B:Nat}{v:FV}{xs:List α}(h:GZ W B v xs)(hk:W.heap.size<=k):v.ownBlock≠FZ k:=fun e=>by have:=h.low k e;omega
theorem BJ5{w W w1:FU}{s:Sv}{ad al an ai aw:Option Addr}{nd cd cl cn ci cw B1 B2:Nat}(hW:B0 w W)(hr:IC W (w.heap.size+1) false (N0) 0 0 (N0) 0 0 (N0) (N0) (N0))(h1:W.heap.size<=B1)(h2:B1<=B2)
  (od:GZ w1 W.heap.size (FQ ad nd cd) s.fs) (ol:GZ w1 B1 (FQ al s.ts.length cl) s.ts) (hl2:∀k,(Value.slice al s.ts.length cl).ownBlock=FZ k->k<B2) (on:GZ w1 B2 (FQ an s.tr.ns.length cn) s.tr.ns) (oi:GZ w1 B2 (FQ ai s.tr.ss.length ci) s.tr.ss) (ow:GZ w1 B2 (FQ aw s.ws.length cw) s.ws) (hb:B0 W w1):
  LF w (w1.alloc (FT #[.bool s.up,FQ ad nd cd,I0 s.id,I0 s.ep,FQ al s.ts.length cl,I0 s.dn,I0 s.tr.z,FQ an s.tr.ns.length cn,FQ ai s.tr.ss.length ci,FQ aw s.ws.length cw] 49)) w1.heap.size s:=by
 have hl:=hr.lt;have hal:=G7 w1 (FT #[.bool s.up,FQ ad nd cd,I0 s.id,I0 s.ep,FQ al s.ts.length cl,I0 s.dn,I0 s.tr.z,FQ an s.tr.ns.length cn,FQ ai s.tr.ss.length ci,FQ aw s.ws.length cw] 49);refine⟨ad,nd,cd,al,cl,an,cn,ai,ci,aw,cw,G8 (G8 hW hb) hal,(hr.next hb).next hal,IC.new w1 s.up s.id s.ep s.dn s.tr.z _ _ _ _ _,by have:=hb.size;omega,TA.1 (od.next hal).seq,(ol.next hal).lower (by omega),(on.next hal).lower (by omega),(oi.next hal).lower (by omega),(ow.next hal).lower (by omega),fun k hk=>⟨?_,?_,?_,?_⟩,V6 on (A8 _),V6 oi (A8 _),V6 ow (A8 _)⟩
 .rintro rfl;exact V6 ol (A8 _) hk
 .intro e;have:=QG on e;have:=hl2 k hk;omega
 .intro e;have:=QG oi e;have:=hl2 k hk;omega
 .intro e;have:=QG ow e;have:=hl2 k hk;omega
theorem jU{up0:Bool}{id0 ep0 dn0 z0:Int}{vd0 vl0 vn0 vs0 vw0:FV}(h:IC W k up0 vd0 id0 ep0 vl0 dn0 z0 vn0 vs0 vw0)(up:Bool)(id ep dn z:Int)(vd vl vn vs vw:FV):
  IC (OY W k (.bool up) vd (I0 id) (I0 ep) vl (I0 dn) (I0 z) vn vs vw) k up vd id ep vl dn z vn vs vw:=by
 unfold IC at*;unfold OY;rw[GL _ (GL _ (GL _ (GL _ (GL _ (GL _ (GL _ (GL _ (GL _ (GL _ h)))))))))];simp
theorem B21{q:Nat}{up0:Bool}{id0 ep0 dn0 z0:Int}{vd0 vl0 vn0 vs0 vw0:FV}(h:IC W k up0 vd0 id0 ep0 vl0 dn0 z0 vn0 vs0 vw0)(hk:k≠q)(x0 x1 x2 x3 x4 x5 x6 x7 x8 x9:FV):IC (OY W q x0 x1 x2 x3 x4 x5 x6 x7 x8 x9) k up0 vd0 id0 ep0 vl0 dn0 z0 vn0 vs0 vw0:=by
 unfold OY;exact(IC.other (IC.other (IC.other (IC.other (IC.other (IC.other (IC.other (IC.other (IC.other (IC.other h hk) hk) hk) hk) hk) hk) hk) hk) hk) hk)
theorem IC.touch{F:Nat->Prop}{V:FU}{up:Bool}{id ep dn z:Int}{vd vl vn vs vw:FV}(h:IC W k up vd id ep vl dn z vn vs vw)(ht:Touch F W V)(hk:¬F k):IC V k up vd id ep vl dn z vn vs vw:=(ht.block k h.lt hk).trans h
theorem C15{w W V:FU}{q:Nat}{s:Sv}{d1:List DF}{tn:List GI}{ad al an ai aw a a2:Option Addr}{nd cd cl cn ci cw n c c2:Nat}(hb:B0 w W)(hr:IC W (w.heap.size+1) false (N0) 0 0 (N0) 0 0 (N0) (N0) (N0))
  (ha:IC W q s.up (FQ ad nd cd) s.id s.ep (FQ al s.ts.length cl) s.dn s.tr.z (FQ an s.tr.ns.length cn) (FQ ai s.tr.ss.length ci) (FQ aw s.ws.length cw)) (hq:w.heap.size+2<=q)
  (ol:GZ W (w.heap.size+2) (FQ al s.ts.length cl) s.ts) (on:GZ W (w.heap.size+2) (FQ an s.tr.ns.length cn) s.tr.ns) (oi:GZ W (w.heap.size+2) (FQ ai s.tr.ss.length ci) s.tr.ss) (ow:GZ W (w.heap.size+2) (FQ aw s.ws.length cw) s.ws)
  (sep:∀k,(Value.slice al s.ts.length cl).ownBlock=FZ k->k≠q/\(Value.slice an s.tr.ns.length cn).ownBlock≠FZ k/\(Value.slice ai s.tr.ss.length ci).ownBlock≠FZ k/\(Value.slice aw s.ws.length cw).ownBlock≠FZ k)
  (n1:(Value.slice an s.tr.ns.length cn).ownBlock≠FZ q) (n2:(Value.slice ai s.tr.ss.length ci).ownBlock≠FZ q) (n3:(Value.slice aw s.ws.length cw).ownBlock≠FZ q)
  (ht:Touch (fun k=>(Value.slice al s.ts.length cl).ownBlock=FZ k) W V) (D:IK V (FQ a n c) d1) (L:GZ V (w.heap.size+2) (FQ a2 tn.length c2) tn) (hl:(Value.slice a2 tn.length c2).ownBlock=(Value.slice al s.ts.length cl).ownBlock\/∃k,(Value.slice a2 tn.length c2).ownBlock=FZ k/\W.heap.size<=k):
  IC V q s.up (FQ ad nd cd) s.id s.ep (FQ al s.ts.length cl) s.dn s.tr.z (FQ an s.tr.ns.length cn) (FQ ai s.tr.ss.length ci) (FQ aw s.ws.length cw)/\
  LF w (OY V q (.bool s.up) (FQ a n c) (I0 s.id) (I0 s.ep) (FQ a2 tn.length c2) (I0 s.dn) (I0 s.tr.z) (FQ an s.tr.ns.length cn) (FQ ai s.tr.ss.length ci) (FQ aw s.ws.length cw)) q ⟨s.up,d1,s.id,s.ep,tn,s.dn,s.tr,s.ws⟩:=by
 have ha':=ha.touch ht (fun e=>(sep q e).1 rfl);have hr':=hr.touch ht (fun e=>by have:=QG ol e;omega);have hqW:=ha.lt;have hb':=hb.trans (ht.below (B:=w.heap.size) hb.size (fun k hk=>by have:=QG ol hk;omega));have CP2:=KL on ht (fun k hk hf=>(sep k hf).2.1 hk);have CP3:=KL oi ht (fun k hk hf=>(sep k hf).2.2.1 hk);have keepW:=KL ow ht (fun k hk hf=>(sep k hf).2.2.2 hk);have lq:(Value.slice a2 tn.length c2).ownBlock≠FZ q:=by
  intro e;rcases hl with h|⟨k,h,hk⟩
  .rw[h]at e;exact(sep q e).1 rfl
  .rw[h]at e;simp only[Option.some.injEq]at e;omega
 refine⟨ha',a,n,c,a2,c2,an,cn,ai,ci,aw,cw,JJ hb' (by omega) _ _ _ _ _ _ _ _ _ _,B21 hr' (by omega) _ _ _ _ _ _ _ _ _ _,jU ha' _ _ _ _ _ _ _ _ _ _,hq,nJ ha'.fA D,WV L lq _ _ _ _ _ _ _ _ _ _,WV CP2 n1 _ _ _ _ _ _ _ _ _ _,WV CP3 n2 _ _ _ _ _ _ _ _ _ _,WV keepW n3 _ _ _ _ _ _ _ _ _ _,fun k hk=>?_,n1,n2,n3⟩;simp only at hk⊢;rcases hl with h|⟨k',h,hk'⟩
 .rw[h]at hk;exact sep k hk
 .rw[h]at hk;simp only[Option.some.injEq]at hk;subst hk;exact⟨by omega,V6 on hk',V6 oi hk',V6 ow hk'⟩
theorem B22(s:Sv)(v:FV)(vl:FV)(l:List GI)(epo:Int)(w:FU)(hv:SvV w v s)(hvl:NI w vl l)(hf:BR6 s)(hll:l.length<=1000000000)(ht:dB w)(hk:¬ (KQ s.ts l:Int)<s.dn)(z:Int)(d2 d3:List DF)(hz:CP0 l (KQ s.ts l) z)(G:MX 110 (fun g=>#[g,I0 z]) s.fs d2 0)(R:jR 111 (fun g=>#[g,I0 epo]) d2 d3 0)(gd:LK d3)(st:Nat->Sv)(h0:st 0=⟨s.up,d3,s.id,epo,s.ts.take (KQ s.ts l),s.dn,s.tr,s.ws⟩)(HT:∀i x,(l.drop (KQ s.ts l))[i]?=FZ x->CF0 (st i) x (st (i+1))):
  Calls prog 75 #[v,vl,I0 epo] w (dA w (st (l.drop (KQ s.ts l)).length) 0):=by
 obtain⟨ad,nd,cd,al,cl,an,cn,ai,ci,aw,cw,rfl,d1,l1,n1,s1,k1⟩:=hv.five;have CC:=G6 (fun W (hW:B0 w W)=>nC _ vl s.ts l W (l1.next hW) (hvl.next hW) (by have:=hf.l;omega) (by omega));have HG:=G6 (fun W (hW:B0 w W)=>G _ W (d1.next hW));have HLR:=G6 (fun(j:Nat) (x:GI) (hx:l[j]?=FZ x) W (hW:B0 w W)=>YO (hvl.next hW) hx);obtain⟨lb,lc,rfl⟩:=MB hvl;have HR:=G6 R;have HTK:=G6 HT;have HLV:=G6 (fun W (hW:B0 w W)=>hvl.next hW);have HS0:=G6 (And.intro (fun W (hW:B0 w W)=>l1.next hW) (And.intro (fun W (hW:B0 w W)=>n1.next hW) (And.intro (fun W (hW:B0 w W)=>s1.next hW) (fun W (hW:B0 w W)=>k1.next hW))));have HFit:=G6 (A15 hf gd epo (KQ s.ts l));have HTab:=G6 (fun W (hW:B0 w W)=>ht.next hW);clear hv d1 l1 n1 s1 k1 hvl hf G R ht HT gd;obtain⟨up,fs,id,ep,ts,dn,⟨tz,tns,tss⟩,ws⟩:=s;simp only at*;go_enter func75,ntmps75;go_wp2_with fail;have X0:=G6 (CB.start w up id ep dn tz (FQ ad nd cd) (FQ al ts.length cl) (FQ an tns.length cn) (FQ ai tss.length ci) (FQ aw ws.length cw));generalize (w.alloc (FT #[.bool up,FQ ad nd cd,I0 id,I0 ep,FQ al ts.length cl,I0 dn,I0 tz,FQ an tns.length cn,FQ ai tss.length ci,FQ aw ws.length cw] 49)).alloc (FT #[.bool false,N0,I0 0,I0 0,N0,I0 0,I0 0,N0,N0,N0] 49)=W0 at*;refine(G5 CC _ (G5 X0).below).mono ?_;rintro e w1 ⟨rfl,hb1⟩;have X1:=G6 ((G5 X0).next hb1);have x5:=(G5 X1).s.cells.2.2.2.2.2.1;clear hb1 X0 CC;have x1:=(G5 X1).s.cells.2.1;have hkl:=(WR ts l).2;have hkt:=(WR ts l).1;generalize KQ ts l=k at*;have hnk:¬ ((k:Int)<dn):=by omega
 go_upto_if 27 with fail
 go_cut [9]from 15 (fun t9 wx=>t9=I0 z/\wx=w1)
 case first=>
  rcases hz with⟨rfl,rfl⟩|⟨x,hk0,hx,rfl⟩
  .go_wp2_with fail
   go_meet
   exact⟨rfl,rfl⟩
  .obtain⟨m,rfl⟩:∃m,k=m+1:=⟨k-1,by omega⟩;simp only[Nat.add_sub_cancel]at hx;obtain⟨b,o,c,he,hb,q,hm1,_⟩:=G5 HLR m x hx w1 (G5 X1).below;simp only[AP]at he;obtain⟨rfl,_,rfl⟩:=he;have e0:=q.z hx;generalize x.z=z at*;have i1:(m:Int)<(l.length:Int):=by omega
   have i2:(0:Int)<((m+1:Nat):Int):=by omega
   have i3:IntKind.i64.wrap (((m+1:Nat):Int)-1)=(m:Int):=by rw[IntKind.wrap_i64];omega
   have i4:(((m+1:Nat):Int)-1)=(m:Int):=by omega
   clear q hx;go_wp2_with fail
   go_meet
   exact⟨rfl,rfl⟩
 case rest=>
  obtain⟨rfl,rfl⟩:=hcut;clear HLR;go_wp2_with fail;refine(G5 HG _ (G5 X1).below).mono ?_;rintro e w2 ⟨a2,n2,c2,rfl,D2,hb2⟩;have hal:=G7 w2 (FT #[FQ a2 n2 c2] 42);have X2:=G6 (((G5 X1).next hb2).next hal);have A2:=G6 (KG.new w2 (FQ a2 n2 c2));have F2:=G6 ((G5 D2).next hal);have Q2:=G6 (show w.heap.size+2<=w2.heap.size from((G5 X1).next hb2).lt);clear hb2 hal X1 D2 HG x1 x5;have ca:=(G5 A2).c;have fa:=(G5 A2).f;go_wp2_with fail;generalize w2.heap.size=q2 at*;generalize w2.alloc (FT #[FQ a2 n2 c2] 42)=W2 at*;refine(G5 HR _ _ (G5 HTab _ (G5 X2).below) (G5 F2)).mono ?_;rintro e w3 ⟨a3,n3,c3,rfl,D3,hb3⟩;have X3:=(G5 X2).next hb3;have A3:=(G5 A2).next hb3;have ca3:=A3.c;have fa3:=A3.f;have Y3:=X3.dput q2 (FQ a3 n3 c3) (by have:=G5 Q2;omega);have E3:=Q8 (G5 D3) A3 (FQ a3 n3 c3);have B3:=A3.set (FQ a3 n3 c3);have HX3:=G6 Y3;have HD3:=G6 E3;have HA3:=G6 B3;clear hb3 X2 A2 F2 D3 X3 A3 Y3 E3 B3 HR ca fa;go_upto_region 13 with fail;generalize w3.setCell ⟨q2,0,FX⟩ (FQ a3 n3 c3)=W3 at*;clear ca3 fa3;have hcap:ts.length<=cl:=C14 (G5 HS0).1;have ca5:=(G5 HA3).c;have x4:=(G5 HX3).s.cells.2.2.2.2.1;have x1:=(G5 HX3).s.cells.2.1;have x3:=(G5 HX3).s.cells.2.2.2.1;have xf1:=(G5 HX3).s.GN 1;have xf3:=(G5 HX3).s.GN 3;have xf4:=(G5 HX3).s.GN 4;have hnq:q2≠w.heap.size:=by have:=G5 Q2;omega
  have k0:(0:Int)<=(k:Int):=by omega
  have kk1:(k:Int)<=(cl:Int):=by omega
  have k2:k<=cl:=by omega
  have RF4:=G6 (BJ4 (s:=⟨up,d3,id,epo,ts.take k,dn,⟨tz,tns,tss⟩,ws⟩) (G5 HX3) (G5 HD3) (G5 HS0) hkt)
  go_cut [14]from 16 (fun _ wx=>Hid (SF0 w wx ⟨up,d3,id,epo,ts.take k,dn,⟨tz,tns,tss⟩,ws⟩ al cl an cn ai ci aw cw))
  case first=>
   go_region
   all_goals go_wp2_with fail
   all_goals go_meet
   all_goals exact G6 ((G5 RF4).next (Below.refl _ _).drew)
  case rest=>
   have HRF:=hcut;clear hcut RF4 ca5 x4 x1 x3 xf1 xf3 xf4 HX3 HD3 HA3;generalize ts.take k=tk at*;obtain⟨ad4,nd4,cd4,CB4,SV4⟩:=G5 HRF;simp only at CB4 SV4;obtain⟨x0,x1,x2,x3,x4,x5,x6,x7,x8,x9⟩:=CB4.s.cells;have CPY:=G6 (YQ (⟨up,d3,id,epo,tk,dn,⟨tz,tns,tss⟩,ws⟩:Sv) _ wc SV4 (G5 HFit));have HBR:=G6 (And.intro CB4.below CB4.r);clear SV4 CB4 HRF HFit HS0;go_wp2_with fail;refine(G5 CPY).mono ?_;rintro e w5 ⟨bd,md,fd,bl,fl,bn,fn,bi,fi,bw,fw,B1,B2,rfl,h1,h2,od,hd1,ol,hl2,on,oi,ow,hb5⟩;simp only at od ol hl2 on oi ow;have LF5:=G6 (BJ5 (s:=(⟨up,d3,id,epo,tk,dn,⟨tz,tns,tss⟩,ws⟩:Sv)) (G5 HBR).1 (G5 HBR).2 h1 h2 od ol hl2 on oi ow hb5);simp only at LF5;clear h1 h2 od hd1 ol hl2 on oi ow hb5 HBR CPY x0 x1 x2 x3 x4 x5 x6 x7 x8 x9;go_upto_region 15 with fail;generalize w5.heap.size=q5 at*;generalize w5.alloc (FT #[.bool up,FQ bd md fd,I0 id,I0 epo,FQ bl tk.length fl,I0 dn,I0 tz,FQ bn tns.length fn,FQ bi tss.length fi,FQ bw ws.length fw] 49)=W5 at*
   go_cut [71,72,73]from 15 (fun t71 t72 t73 wx=>∃la lcc,t71=FQ la (l.length-k) lcc/\t72=I0 ((l.length-k:Nat):Int)/\t73=I0 0/\wx=W5/\Hid (∀W,B0 w W->NI W (FQ la (l.length-k) lcc) (l.drop k)))
   case first=>
    by_cases hlc:lc=k
    .subst hlc;go_wp2_with fail
     all_goals go_meet
     all_goals exact⟨_,_,rfl,rfl,rfl,rfl,G6 fun W hW=>((G5 HLV W hW).drop hkl).1 rfl⟩
    .go_wp2_with fail
     all_goals go_meet
     all_goals exact⟨_,_,rfl,rfl,rfl,rfl,G6 fun W hW=>((G5 HLV W hW).drop hkl).2 hlc⟩
   case rest=>
    obtain⟨la,lcc,rfl,rfl,rfl,rfl,HLD⟩:=hcut;clear HLV hcap hnq k0 kk1 k2 hkt;go_wp2_with fail
    go_loopg [73] (l.length-k) (fun kx s73 wr=>∃i:Nat,s73=I0 i/\i<=l.length-k/\l.length-k-i<=kx/\Hid (LF w wr q5 (st i)))
    case atStart=>exact⟨0,rfl,Nat.zero_le _,by omega,G6 (by rw[h0];exact G5 LF5)⟩
    case round=>
     obtain⟨i,rfl,hi,hgi,hR⟩:=hrel;by_cases hlt:i<l.length-k
     .clear h0 LF5;obtain⟨x,hx⟩:∃x,(l.drop k)[i]?=FZ x:=⟨_,AL (by simp;omega)⟩;obtain⟨gad,gnd,gcd,gal,gcl,gan,gcn,gai,gci,gaw,gcw,hbw,hr,ha,hq,hd,ol,on,oi,ow,sep,n1,n2,n3⟩:=G5 hR;obtain⟨b,o,c,he,hb,q,hq9⟩:=YO (G5 HLD wr hbw) hx;simp only[AP]at he;obtain⟨rfl,he2,rfl⟩:=he;clear he2 hq9;have e0:=q.z hx;have e1:=q.o hx;have e2:=q.s hx;have e3:=q.p hx;have e4:=q.d hx;have e5:=q.v hx;have e6:=q.w hx;obtain⟨tz',tp',td',tn',d1,hst,G⟩:=G5 HTK i x hx;obtain⟨xz,xo,xs,xp,xd,xv,xw⟩:=x;have hal:=G7 wr (FT #[I0 xz,I0 xo,I0 xs,S0 xp,S0 xd,I0 xv,I0 xw] 52);have CT:=G6 (CE6 (st i).up (st i).id (st i).ep (st i).dn (st i).tr.z (st i).fs (st i).ts (⟨xz,xo,xs,xp,xd,xv,xw⟩:GI) true (FQ gad gnd gcd) (FQ gal (st i).ts.length gcl) gan gai gaw (st i).tr.ns.length gcn (st i).tr.ss.length gci (st i).ws.length gcw _ (hd.next hal) (OB.1 (ol.next hal).seq) tz' d1 (w.heap.size+2) (by have:=ha.lt;have:=hal.size;omega) (ol.next hal) tn' tp' td' G);unfold J7 at CT;simp only at e0 e1 e2 e3 e4 e5 e6 CT;have LS:=G6 (fun V a n c a2 c2 (tn:List GI) (T:Touch _ _ V) (D:IK V (FQ a n c) d1) (L:GZ V (w.heap.size+2) (FQ a2 tn.length c2) tn) hl=>C15 (s:=(st i)) (G8 hbw hal) (hr.next hal) (ha.next hal) hq (ol.next hal) (on.next hal) (oi.next hal) (ow.next hal) sep n1 n2 n3 T D L hl);obtain⟨x0,x1,x2,x3,x4,x5,x6,x7,x8,x9⟩:=(ha.next hal).cells;have C85:(i:Int)<((l.length-k:Nat):Int):=by omega
      clear q hx hal hbw hr ha hd ol on oi ow sep n1 n2 n3 hR tz' tp' td' tn' G;go_wp2_with fail;generalize wr.alloc (FT #[I0 xz,I0 xo,I0 xs,S0 xp,S0 xd,I0 xv,I0 xw] 52)=W6 at*;refine(G5 CT).mono ?_;rintro e w7 ⟨a7,n7,c7,b7,f7,rfl,D7,L7,hl7,T7⟩;obtain⟨HA7,LF7⟩:=G5 LS w7 a7 n7 c7 b7 f7 ((st i).ts++[(⟨xz,xo,xs,xp,xd,xv,xw⟩:GI)]) T7 D7 L7 hl7;rw[<-hst]at LF7;generalize (st i).ts++[(⟨xz,xo,xs,xp,xd,xv,xw⟩:GI)]=tn at*;have HLF7:=G6 LF7;clear x0 x1 x2 x3 x4 x5 x6 x7 x8 x9;obtain⟨x0,x1,x2,x3,x4,x5,x6,x7,x8,x9⟩:=HA7.cells;have xf0:=HA7.GN 0;have xf1:=HA7.GN 1;have xf2:=HA7.GN 2;have xf3:=HA7.GN 3;have xf4:=HA7.GN 4;have xf5:=HA7.GN 5;have xf6:=HA7.GN 6;have xf7:=HA7.GN 7;have xf8:=HA7.GN 8;have xf9:=HA7.GN 9;clear LF7 D7 L7 hl7 T7 HA7 LS CT hst e0 e1 e2 e3 e4 e5 e6;unfold OY at HLF7;go_wp2_with fail
      go_roundg (l.length-k-(i+1))
      case measure=>omega
      case rel=>exact⟨i+1,rfl,by omega,A8 _,HLF7⟩
     .obtain rfl:i=l.length-k:=by omega
      obtain⟨gad,gnd,gcd,gal,gcl,gan,gcn,gai,gci,gaw,gcw,hbw,hr,ha,hq,hd,ol,on,oi,ow,sep,n1,n2,n3⟩:=G5 hR;obtain⟨x0,x1,x2,x3,x4,x5,x6,x7,x8,x9⟩:=ha.cells;obtain⟨r0,r1,r2,r3,r4,r5,r6,r7,r8,r9⟩:=hr.cells;have rf0:=hr.GN 0;have rf1:=hr.GN 1;have rf2:=hr.GN 2;have rf3:=hr.GN 3;have rf4:=hr.GN 4;have rf5:=hr.GN 5;have rf6:=hr.GN 6;have rf7:=hr.GN 7;have rf8:=hr.GN 8;have rf9:=hr.GN 9;have PN:=G6 (ZX (s:=st (l.length-k)) hr.fA hd (OB.1 ol.seq) on.seq oi.seq (XQ oi (by omega)) ow.seq);have HB9:=G6 hbw;have FR9:=G6 (MF oi);have hdl:(l.drop k).length=l.length-k:=by simp
      clear hbw hr ha hd ol on oi ow sep n1 n2 n3 hR;go_wp2_with fail;refine bodyPost_ret (v:=.tuple #[.agg #[.bool (st (l.length-k)).up,FQ gad gnd gcd,I0 (st (l.length-k)).id,I0 (st (l.length-k)).ep,FQ gal (st (l.length-k)).ts.length gcl,I0 (st (l.length-k)).dn,I0 (st (l.length-k)).tr.z,FQ gan (st (l.length-k)).tr.ns.length gcn,FQ gai (st (l.length-k)).tr.ss.length gci,FQ gaw (st (l.length-k)).ws.length gcw],I0 0]) (by simp[results,results75,go_sem,r0,r1,r2,r3,r4,r5,r6,r7,r8,r9]) rfl ?_;rw[hdl];exact⟨gad,gnd,gcd,gal,_,gcl,gan,_,gcn,gai,_,gci,gaw,_,gcw,rfl,G6 ⟨G5 PN,(G5 FR9).lower (by omega)⟩,JJ (G5 HB9) (by omega) _ _ _ _ _ _ _ _ _ _⟩
def Y0(e:Int):DF:=⟨JF,QF (KU e 0),[]⟩
theorem BS5:bl JF NK=true:=by decide
theorem dF(s t:List UInt8):Gap [⟨NK,s,t⟩] [] [⟨NK,s,t⟩] JF:=⟨rfl,by simp,by simp[BS5]⟩
theorem aI(a b s t:List UInt8):There [⟨JF,a,b⟩,⟨NK,s,t⟩] [] ⟨JF,a,b⟩ [⟨NK,s,t⟩] JF:=(dF s t).ins (f':=⟨JF,a,b⟩) rfl
theorem jV(a b s t:List UInt8):There [⟨JF,a,b⟩,⟨NK,s,t⟩] [⟨JF,a,b⟩] ⟨NK,s,t⟩ [] NK:=⟨rfl,rfl,by simp[BS5],by simp⟩
theorem TD{a b s t:List UInt8}(h1:a.length+b.length<=1048576)(h2:s.length+t.length<=1048576):LK [⟨JF,a,b⟩,⟨NK,s,t⟩]:=
 pR (aG h2) (dF s t) YN (by simp) (f':=⟨JF,a,b⟩) rfl h1
theorem C16{m:List GI}{e:Int}(he:zIn e=true)(hm:(I9 m).length<=1048576):jR 111 (fun x=>#[x,I0 e]) [OT m] [Y0 e,OT m] 0:=by
 have hx:=ZO (KU e 0);have g0:LK [OT m]:=aG (by simpa using hm);have g1:LK [⟨JF,[],QF (KU e 0)⟩,OT m]:=TD (by simp;omega) (by simpa using hm);refine A11 [OT m] [] [⟨JF,[],QF (KU e 0)⟩,OT m] [Y0 e,OT m] e 7 0 (TP he (by decide)).2 (by decide) (uN fun v W hv=>?_) (MO fun v W hv=>?_) (MO fun v W hv=>?_)
 .exact AU6 v [OT m] JF 7 W hv (JR g0) (.inr ⟨g0,⟨_,_,dF (I9 m) []⟩,rfl⟩)
 .exact ZU v [OT m] [] [OT m] JF (QF (KU e 0)) W hv (JR g0) g0 YN (by simp) (dF (I9 m) []) (by omega)
 .have:=XO v _ [] [OT m] ⟨JF,[],QF (KU e 0)⟩ JF W hv (JR g1) g1 (aI [] (QF (KU e 0)) (I9 m) []);simpa [Y0]using this
theorem C17{ts:List GI}(h:Logs ts){j:Nat}{x:GI}(hx:ts[j]?=FZ x):SI x.z ts=ts.take (j+1):=by
 obtain⟨hj,hxe⟩:=AU.1 hx;have hr:=List.pairwise_iff_getElem.1 h.rise;unfold SI;have p1:∀t∈ts.take (j+1),decide (t.z<=x.z)=true:=by
  intro t ht;obtain⟨i,hi,rfl⟩:=List.getElem_of_mem ht;have hi':i<j+1:=by simp at hi;omega
  simp only[List.getElem_take,decide_eq_true_eq];rw[<-hxe];by_cases e:i=j
  .subst e;exact Int.le_refl _
  .have:=hr i j (by omega) hj (by omega);omega
 have e0:=List.takeWhile_append_of_pos (l₂:=ts.drop (j+1)) p1;rw[List.take_append_drop]at e0;rw[e0]
 cases hd:ts.drop (j+1)with
 |nil=>simp
 |cons y r=>
  have hy:ts[j+1]?=FZ y:=by
   have:=congrArg (fun l=>l[0]?) hd;simpa using this
  obtain⟨hk,rfl⟩:=AU.1 hy;have:=hr j (j+1) hj hk (by omega);rw[hxe]at this;rw[List.takeWhile_cons_of_neg (by simp;omega),List.append_nil]
theorem BJ7{d:List GI}{i:Nat}{x:GI}(h:d[i]?=FZ x):d=d.take i++x::d.drop (i+1):=by
 obtain⟨hk,rfl⟩:=AU.1 h;simp
theorem kJ{α:Type}[Lay α]{w:FU}{ops:Array Oper}{rest:List Oper}{o:Oper}{a:Act}{Q:Exit->Act->FU->Prop}(hgd:o.guard=FX)(s x:Operand)(T:TypeId)
  (ho:o.op=.call {callee:=.builtin .append,args:=#[s,x],argTypes:=#[T,T]})
  (i0:TypeInfo) (z:FV) (bytes:Nat) (hU:prog.underlying T=FZ (.slice (Lay.ty α))) (hi0:prog.info? (Lay.ty α)=FZ i0) (hz0:i0.zero=FZ z) (hz1:i0.size=Lay.k α) (hz2:i0.bytes=bytes) (hzs:z.cells.size=Lay.k α) (hk0:0<Lay.k α)
  (v:FV) (ns:List α) (hs:a.eval s=v) (B:Nat) (hown:GZ w B v ns) (q:Nat) (hx:a.eval x=FQ (FZ ⟨q,0,FX⟩) 1 1) (t:α) (hnews:JM w q t) (hl:(ns.length+1)*bytes<=140737488355328) (hm:ns.length+1<=maxLen) (hB:B<=w.heap.size)
  (h:∀a' c' w',GZ w' B (FQ a' (ns.length+1) c') (ns++[t])->w.grownBy w' v.ownBlock->wpList prog ops Q rest (a.put o.dst (FQ a' (ns.length+1) c')) w'):
  wpList prog ops Q (o::rest) a w:=by
 refine wpList_plain hgd fun K hK=>?_;obtain⟨v',w',hr,h2,h3,_⟩:=run_append_own (P:=prog) w B T o.type (Lay.ty α) i0 z (Lay.k α) bytes hU hi0 hz0 hz1 hz2 hzs hk0 v ns.length (G9 ns) hown.row ⟨q,0,FX⟩ 1 1 (Lay.cs t) (by rw[Lay.len,Nat.one_mul]) (QX hnews) (Lay.one t) hm hl hB;have h2':GZ w' B v' (ns++[t]):=GZ.KY (by rw[AO,JE];exact h2);obtain⟨a',c',rfl,_⟩:=h2'.slice;rw[AO,List.length_singleton]at h2' hr;unfold Oper.wp execOp;simp only[ho,resolve,invoke,builtin,Sem.run_bind,Sem.run_pure,Result.andThen_ok,List.map_toArray,List.map_cons,List.map_nil,hs,hx,hr];exact hK _ _ (h a' c' w' h2' h3)
open Go.ChangeShapes Go.WideShapes Go.ChangeAt Go.ChangeMaps
theorem BP8:laidOutB prog=true:=by kernel_rfl
theorem AD0(s:ByteArray):∃l:List UInt8,s=⟨l.toArray⟩:=⟨s.data.toList,rfl⟩
section
variable {H:Type} {enc:TypeId×FV->H} {W:FU} {base:Nat} {spare:Nat->Bool} {held:Bool}
theorem XF{e:TypeId}:∀ (l:List (DataW H)) (d:DataW H) (x:Nat),d∈l->x∈DataW.weights prog e d->x∈DataW.weightsAll prog e l
 |d'::r,d,x,h,hx=>by
  rw[DataW.weightsAll];rcases List.mem_cons.1 h with rfl|h
  .exact BU.2 (.inl hx)
  .exact BU.2 (.inr (XF r d x h hx))
theorem B89{α:Type}[Lay α](al:α){T E:TypeId}(hU:prog.underlying T=FZ (.slice E))(hk:prog.cellsOf E=Lay.k α)(hk0:0<Lay.k α){bytes:Nat}(hby:prog.bytesOf E=bytes)(P:α->Prop)(Q:Nat->α->Prop)
  (ho:∀ {n:Nat} {cs:List FV} {x:DataW H×List MemPlace},cs.length=Lay.k α->DataW.trod enc prog W base spare held n E cs=FZ x->∃f:α,cs=Lay.cs f/\P f/\∀M,(∀y∈DataW.weights prog E x.1,y<=M)->Q M f)
  {fuel:Nat} {v:FV} {y:DataW H×List MemPlace} (h:DataW.trod enc prog W base spare held fuel T [v]=FZ y):
  ∃xs:List α,IL W v xs/\(∀x∈xs,P x)/\∀M,(∀x∈DataW.weights prog T y.1,x<=M)->xs.length*bytes<=M/\∀x∈xs,Q M x:=by
 rcases Go.Deep.open_slice hU h with⟨h1,hx⟩|⟨a,len,cap,m,k,D,Pl,h1,hb,hl,hm,hmm,hx,hel⟩
 .simp only[List.cons.injEq,and_true]at h1;rw[h1];exact⟨[],IL.nil W,by simp,fun M _=>⟨by simp,by simp⟩⟩
 .simp only[List.cons.injEq,and_true]at h1;rw[h1];subst hx;have hlm:len<=m:=by rw[hmm];split<;>omega
  have each:∀i,i<len->∃f:α,(∀c,c<Lay.k α->W.cell? (a.add (i*Lay.k α+c))=(Lay.cs f)[c]?)/\P f/\∀M,(∀y∈DataW.weights prog E (D i),y<=M)->Q M f:=by
   intro i hi;obtain⟨cs',g1,g2⟩:=hel i (by omega);rw[hk]at g1;obtain⟨_,hlen,hcell⟩:=World.cells?_some g1;obtain⟨f,rfl,hp,hq⟩:=ho hlen g2;refine⟨f,fun c hc=>?_,hp,hq⟩;have:=hcell c hc;rwa[Go.Deep.add_add]at this
  have:Inhabited α:=⟨al⟩;obtain⟨F,hF⟩:=Go.Deep.choose_lt each;refine⟨(List.range len).map F,?_,?_,?_⟩
  .by_cases h0:len=0
   .subst h0;exact .inl ⟨FZ a,cap,rfl,rfl,hm⟩
   .have c0:=(hF 0 (by omega)).1 0 hk0;obtain⟨y,hy⟩:∃y,(Lay.cs (F 0))[0]?=FZ y:=⟨_,AL (by rw[Lay.len];exact hk0)⟩;rw[hy]at c0;obtain⟨b,off,sp⟩:=a;have hsp:sp=FX:=by
     cases sp with
     |none=>rfl
     |some s=>simp[World.cell?,Addr.add]at c0;split at c0<;>simp at c0
    subst hsp;have hblt:b<W.heap.size:=World.block_lt_of_cell? W _ (show W.cell? ((⟨b,off,FX⟩:Addr).add (0*Lay.k α+0))=FZ _ from c0)|>fun h=>by simpa [Addr.add]using h
    refine .inr ⟨b,off,cap,by simp,by simpa using hl,hm,hblt,by simp;omega,fun j u hj=>?_⟩;have hjl:j<len*Lay.k α:=by
     have:=(AU.1 hj).1;rw[GX,EG,List.length_range]at this;exact this
    have hi:j/Lay.k α<len:=Nat.div_lt_of_lt_mul (by rw[DC];exact hjl);have hm':j%Lay.k α<Lay.k α:=Nat.mod_lt _ hk0;have hdm:j/Lay.k α*Lay.k α+j%Lay.k α=j:=by rw[DC];exact Nat.div_add_mod j _
    have hg:=GV ((List.range len).map F) (j/Lay.k α) (F (j/Lay.k α)) (by rw[List.getElem?_map,List.getElem?_range hi];rfl) (j%Lay.k α) hm';rw[hdm,hj]at hg;have:=(hF (j/Lay.k α) hi).1 (j%Lay.k α) hm';rw[hdm,Addr.add_lit,<-hg]at this;exact this
  .intro x hx;obtain⟨i,hi,rfl⟩:=EU.1 hx;exact(hF i (by simpa using hi)).2.1
  .intro M hM;have hw':DataW.weights prog T (DataW.slice ((List.range len).map D) ((List.range (m-len)).map fun j=>D (len+j)):DataW H)=
     (len+(m-len))*bytes::(DataW.weightsAll prog E ((List.range len).map D)++DataW.weightsAll prog E ((List.range (m-len)).map fun j=>D (len+j))):=by
    simp[DataW.weights,hU,hby]
   rw[hw']at hM;refine⟨?_,fun f hf=>?_⟩
   .have:=hM _ (List.mem_cons_self ..);simp only[EG,List.length_range];exact Nat.le_trans (Nat.mul_le_mul_right _ (by omega)) this
   .obtain⟨i,hi,rfl⟩:=EU.1 hf;have hi':i<len:=by simpa using hi
    exact(hF i hi').2.2 M fun x hx=>hM x (List.mem_cons_of_mem _ (BU.2 (.inl (XF _ (D i) x (EU.2 ⟨i,hi,rfl⟩) hx))))
theorem CL0{ts:List TypeId}{ds:List (DataW H)}(h:(DataW.weightsEach prog ts ds).all (· <=reachBytes)=true){j:Nat}{T:TypeId}{d:DataW H}(ht:ts[j]?=FZ T)(hd:ds[j]?=FZ d):∀x∈DataW.weights prog T d,x<=140737488351232:=by
 intro x hx;have e:reachBytes=140737488351232:=by decide
 have h1:=List.all_eq_true.1 h _ (DataW.weights_mem_each ht hd x hx);rw[e]at h1;simpa using h1
end
