/-
  Part.
-/
import Derived.Test.YtefephchbjfdfaaGreatDoorLMAI
set_option maxRecDepth 20000
set_option maxHeartbeats 8000000
namespace Go.Proofs.YtefephchbjfdfaaGreatDoor
open Go.RowKit Go.Proofs.Tryz
open _root_.Nat renaming le_refl->AA,lt_of_lt_of_le->AY
open Go.RowKit.Below renaming refl->AB,heap_setCell->BG
open Go.Value.slice renaming injEq->AQ
open Go.World renaming cell?->AX
open Go.Value renaming slice->FV
open Go.Obj renaming cells->FW
open Go renaming World->FX,Value->FZ,Calls->G5
open _root_.Option renaming none->G6,some->G8
variable{a:Option Addr}{α:Type}{c i q B:Nat}{z:Int}{w W:FX}
theorem A68(k n:Int)(hn:0<n):k.tmod n=k%n\/k.tmod n=k%n-n:=by
 rw[Int.tmod_eq_emod]
 split
 .left;omega
 .right;omega
theorem BD5{a b:Int}(h:a=b):Ending.returned (I0 a)=.returned (I0 b):=by rw[h]
theorem BD6(k n:Int)(w:FX)(hn:0<n)(hn1:n<=1048576)(hk: -9223372036854775808<=k)(hk1:k<=9223372036854775807):
  G5 prog 13 #[I0 k,I0 n] w fun e w'=>e=.returned (I0 (k%n))/\w'=w:=by
 have hm1:=Int.emod_nonneg k (show n≠0 by omega);have hm2:=Int.emod_lt_of_pos k hn;by_cases h0:0<=k
 .go_enter func13,ntmps13
  go_wp2
  go_ret;exact⟨rfl,rfl⟩
 .have HT:=GH (A68 k n hn);go_enter func13,ntmps13
  go_wp2
  all_goals go_ret
  all_goals refine⟨BD5 ?_,rfl⟩
  all_goals (have hT:=G9 HT;clear HT;first|omega|(unfold wrap64;omega))
def Blk(W:FX)(B q:Nat)(a:Option Addr)(n K:Nat):Prop:=n=0\/∃g,a=G8 ⟨g,0,G6⟩/\B<=g/\g≠q/\∃cs ty,W.heap[g]?=G8 (FW cs ty (0,0))/\n*K<=cs.size
section
variable {W:FX} {B q n K:Nat} {a:Option Addr}
theorem Blk.set(h:Blk W B q a n K)(b j:Nat)(u:FZ):Blk (W.setCell ⟨b,j,G6⟩ u) B q a n K:=by
 rcases h with h|⟨g,e,hg,hq,cs,ty,h1,h2⟩
 .exact .inl h
 .by_cases hb:g=b
  .subst hb;exact .inr ⟨g,e,hg,hq,_,ty,GY u h1,by simpa using h2⟩
  .exact .inr ⟨g,e,hg,hq,cs,ty,(BG W ⟨b,j,G6⟩ u g hb).trans h1,h2⟩
theorem Blk.of[Lay α]{xs:List α}(h:I5 W B (FV a xs.length c) xs)(hq:(Value.slice a xs.length c).ownBlock≠G8 q):Blk W B q a xs.length (Lay.k α):=by
 rcases h with⟨_,e⟩|⟨g,cap,e,hg,rest,h1,h2,h3,_⟩
 .left
  rw[e];rfl
 .simp only[AQ,true_and]at e;obtain⟨rfl,rfl⟩:=e;exact .inr ⟨g,rfl,hg,fun e=>hq (by rw[e];rfl),_,_,h1,by simp[GX]⟩
theorem Blk.at(h:Blk W B q a n K){j:Nat}(hi:i<n)(hj:j<K):∃g,a=G8 ⟨g,0,G6⟩/\B<=g/\g≠q/\(∃z,W.cell? ⟨g,i*K+j,G6⟩=G8 z)/\W.frozen? ⟨g,i*K+j,G6⟩=false:=by
 rcases h with h|⟨g,e,hg,hq,cs,ty,h1,h2⟩
 .omega
 .have hlt:i*K+j<cs.size:=by
   have:(i+1)*K<=n*K:=Nat.mul_le_mul_right K hi;rw[Nat.add_mul,Nat.one_mul]at this;omega
  exact⟨g,e,hg,hq,⟨cs[i*K+j],by simp[AX,h1,hlt]⟩,by simp[World.frozen?,h1]⟩
end
def Ovr(P F:FX->Prop)(a:Option Addr)(n K j:Nat):Prop:=∀W,P W->F W/\∀i,i<n->∃g,a=G8 ⟨g,0,G6⟩/\(∃z,W.cell? ⟨g,i*K+j,G6⟩=G8 z)/\W.frozen? ⟨g,i*K+j,G6⟩=false/\∀u,P (W.setCell ⟨g,i*K+j,G6⟩ u)
structure Own5(W:FX)(B:Nat)(s:Sv)(vd vl vn vi vw:FZ):Prop where
 d:I5 W B vd s.fs
 l:I5 W B vl s.ts
 n:I5 W B vn s.tr.ns
 i:I5 W B vi s.tr.ss
 w:I5 W B vw s.ws
section
variable {w W V:FX} {B q6 q7:Nat} {s:Sv} {vd vl vn vi vw ud ul un ui uw:FZ}
theorem Own5.next(h:Own5 W B s vd vl vn vi vw)(hb:B0 W V):Own5 V B s vd vl vn vi vw:=⟨h.d.next hb,h.l.next hb,h.n.next hb,h.i.next hb,h.w.next hb⟩
theorem Own5.val(h:Own5 W B s vd vl vn vi vw):SvV W (.agg #[.bool s.up,vd,I0 s.id,I0 s.ep,vl,I0 s.dn,I0 s.tr.z,vn,vi,vw]) s:=⟨vd,vl,vn,vi,vw,rfl,OU.1 h.d.seq,MJ.1 h.l.seq,h.n.seq,h.i.seq,h.w.seq⟩
theorem Own5.put(h:Own5 W B s vd vl vn vi vw){up:Bool}{id ep dn:Int}{wd wl wn wi ww:FZ}(hb:IB W q6 up wd id ep wl dn z wn wi ww)(x0 x1 x2 x3 x4 x5 x6 x7 x8 x9:FZ):Own5 (NY W q6 x0 x1 x2 x3 x4 x5 x6 x7 x8 x9) B s vd vl vn vi vw:=
 ⟨TJ h.d hb (by decide) _ _ _ _ _ _ _ _ _ _,TJ h.l hb (by decide) _ _ _ _ _ _ _ _ _ _,TJ h.n hb (by decide) _ _ _ _ _ _ _ _ _ _,TJ h.i hb (by decide) _ _ _ _ _ _ _ _ _ _,TJ h.w hb (by decide) _ _ _ _ _ _ _ _ _ _⟩
structure Sp2(w W:FX)(q6 q7:Nat)(s:Sv)(vd vl vn vi vw ud ul un ui uw:FZ):Prop where
 b:B0 w W
 s1:IB W q6 s.up vd s.id s.ep vl s.dn s.tr.z vn vi vw
 s2:IB W q7 s.up ud s.id s.ep ul s.dn s.tr.z un ui uw
 o1:Own5 W w.heap.size s vd vl vn vi vw
 o2:Own5 W w.heap.size s ud ul un ui uw
theorem Sp2.next(h:Sp2 w W q6 q7 s vd vl vn vi vw ud ul un ui uw)(hb:B0 W V):Sp2 w V q6 q7 s vd vl vn vi vw ud ul un ui uw:=⟨GK h.b hb,h.s1.next hb,h.s2.next hb,h.o1.next hb,h.o2.next hb⟩
theorem Sp2.made(hb:B0 w W)(h6:w.heap.size<=q6)(h7:w.heap.size<=q7)(hne:q6≠q7)(z6:IB W q6 false (N0) 0 0 (N0) 0 0 (N0) (N0) (N0))(z7:IB W q7 false (N0) 0 0 (N0) 0 0 (N0) (N0) (N0))(o1:Own5 W w.heap.size s vd vl vn vi vw)(o2:Own5 W w.heap.size s ud ul un ui uw):
  Sp2 w (NY (NY W q6 (.bool s.up) vd (I0 s.id) (I0 s.ep) vl (I0 s.dn) (I0 s.tr.z) vn vi vw) q7 (.bool s.up) ud (I0 s.id) (I0 s.ep) ul (I0 s.dn) (I0 s.tr.z) un ui uw) q6 q7 s vd vl vn vi vw ud ul un ui uw:=by
 have y7:=bW z7 (fun e=>hne e.symm) (.bool s.up) vd (I0 s.id) (I0 s.ep) vl (I0 s.dn) (I0 s.tr.z) vn vi vw;exact⟨JE (JE hb h6 _ _ _ _ _ _ _ _ _ _) h7 _ _ _ _ _ _ _ _ _ _,bW (XT z6 s.up s.id s.ep s.dn s.tr.z vd vl vn vi vw) hne _ _ _ _ _ _ _ _ _ _,XT y7 s.up s.id s.ep s.dn s.tr.z ud ul un ui uw,(o1.put z6 _ _ _ _ _ _ _ _ _ _).put y7 _ _ _ _ _ _ _ _ _ _,(o2.put z6 _ _ _ _ _ _ _ _ _ _).put y7 _ _ _ _ _ _ _ _ _ _⟩
structure Spo(w W:FX)(q:Nat)(up:Bool)(id ep dn z:Int)(vi:FZ)(ad al an aw:Option Addr)(nf nl nn nw cd cl cn cw:Nat):Prop where
 b:B0 w W
 s:IB W q up (FV ad nf cd) id ep (FV al nl cl) dn z (FV an nn cn) vi (FV aw nw cw)
 d:Blk W w.heap.size q ad nf 3
 l:Blk W w.heap.size q al nl 7
 n:Blk W w.heap.size q an nn 9
 w:Blk W w.heap.size q aw nw 3
theorem Sp2.spo{ad al an aw:Option Addr}{cd cl cn cw:Nat}(h:Sp2 w W q6 q7 s (FV ad s.fs.length cd) (FV al s.ts.length cl) (FV an s.tr.ns.length cn) vi (FV aw s.ws.length cw) ud ul un ui uw):Spo w W q6 s.up s.id s.ep s.dn s.tr.z vi ad al an aw s.fs.length s.ts.length s.tr.ns.length s.ws.length cd cl cn cw:=
 ⟨h.b,h.s1,.of h.o1.d (SC h.o1.d h.s1 (by decide)),.of h.o1.l (SC h.o1.l h.s1 (by decide)),.of h.o1.n (SC h.o1.n h.s1 (by decide)),.of h.o1.w (SC h.o1.w h.s1 (by decide))⟩
theorem Spo.set{g j:Nat}{up:Bool}{id ep dn:Int}{ad al an aw:Option Addr}{nf nl nn nw cd cl cn cw:Nat}(h:Spo w W q up id ep dn z vi ad al an aw nf nl nn nw cd cl cn cw)(hg:w.heap.size<=g)(hq:g≠q)(u:FZ):Spo w (W.setCell ⟨g,j,G6⟩ u) q up id ep dn z vi ad al an aw nf nl nn nw cd cl cn cw:=
 ⟨h.b.setCell (by simpa using hg) u,h.s.other (fun e=>hq e.symm),h.d.set _ _ _,h.l.set _ _ _,h.n.set _ _ _,h.w.set _ _ _⟩
theorem CE7(w:FX)(q:Nat)(up:Bool)(id ep dn z:Int)(vi:FZ)(ad al an aw:Option Addr)(nf nl nn nw cd cl cn cw:Nat):∃P:FX->Prop,(∀W,P W↔Spo w W q up id ep dn z vi ad al an aw nf nl nn nw cd cl cn cw)/\(∀W,P W->B0 w W)/\
  Ovr P (fun W=>W.cell? ⟨q,4,G6⟩=G8 (FV al nl cl)) al nl 7 0/\Ovr P (fun W=>W.cell? ⟨q,7,G6⟩=G8 (FV an nn cn)) an nn 9 0/\Ovr P (fun W=>W.cell? ⟨q,1,G6⟩=G8 (FV ad nf cd)) ad nf 3 1/\Ovr P (fun W=>W.cell? ⟨q,9,G6⟩=G8 (FV aw nw cw)) aw nw 3 2:=by
 refine⟨fun W=>Spo w W q up id ep dn z vi ad al an aw nf nl nn nw cd cl cn cw,fun W=>Iff.rfl,fun W h=>h.b,?_,?_,?_,?_⟩
 all_goals
  intro W h;obtain⟨x0,x1,x2,x3,x4,x5,x6,x7,x8,x9⟩:=h.s.cells;refine⟨by assumption,fun i hi=>?_⟩
 .obtain⟨g,e,hg,hq,hz,hf⟩:=h.l.at hi (show 0<7 by decide);exact⟨g,e,hz,hf,fun u=>h.set hg hq u⟩
 .obtain⟨g,e,hg,hq,hz,hf⟩:=h.n.at hi (show 0<9 by decide);exact⟨g,e,hz,hf,fun u=>h.set hg hq u⟩
 .obtain⟨g,e,hg,hq,hz,hf⟩:=h.d.at hi (show 1<3 by decide);exact⟨g,e,hz,hf,fun u=>h.set hg hq u⟩
 .obtain⟨g,e,hg,hq,hz,hf⟩:=h.w.at hi (show 2<3 by decide);exact⟨g,e,hz,hf,fun u=>h.set hg hq u⟩
end
theorem CE8[Lay α]{xs:List α}(hb:B0 w W)(h:I5 W w.heap.size (FV a xs.length c) xs)(j:Nat)(hj:j<Lay.k α):∃P:FX->Prop,P W/\(∀W,P W->B0 w W)/\Ovr P (fun _=>True) a xs.length (Lay.k α) j:=by
 refine⟨fun V=>B0 w V/\Blk V w.heap.size W.heap.size a xs.length (Lay.k α),⟨hb,.of h (fun e=>Nat.lt_irrefl _ (h.low _ e))⟩,fun V h=>h.1,fun V h=>⟨trivial,fun i hi=>?_⟩⟩;obtain⟨g,e,hg,hq,hz,hf⟩:=h.2.at hi hj;exact⟨g,e,hz,hf,fun u=>⟨h.1.setCell (by simpa using hg) u,h.2.set _ _ _⟩⟩
theorem CR3{s:Int}{es:List En}(hb:B0 w W)(hx:NH W q s z (FV a es.length c))(h:I5 W w.heap.size (FV a es.length c) es):∃P:FX->Prop,P W/\(∀W,P W->B0 w W)/\Ovr P (fun W=>W.cell? ⟨q,2,G6⟩=G8 (FV a es.length c)) a es.length 3 1:=by
 have hne:(Value.slice a es.length c).ownBlock≠G8 q:=U9 h hx (by decide);refine⟨fun W=>B0 w W/\NH W q s z (FV a es.length c)/\Blk W w.heap.size q a es.length 3,⟨hb,hx,.of h hne⟩,fun W h=>h.1,fun W h=>⟨h.2.1.c2,fun i hi=>?_⟩⟩;obtain⟨g,e,hg,hq,hz,hf⟩:=h.2.2.at hi (show 1<3 by decide);exact⟨g,e,hz,hf,fun u=>⟨h.1.setCell (by simpa using hg) u,h.2.1.other (fun e=>hq e.symm) u,h.2.2.set _ _ _⟩⟩
theorem CE9{n:Nat}{r:Rp}(hn:r.ns.length=n)(h:I5 W B (FV a n c) r.ns)(hx:RpX W q r (FV a n c)):∃P:FX->Prop,P W/\(∀V,P V->Touch (fun b=>(Value.slice a n c).ownBlock=G8 b) W V)/\∀V,P V->V.cell? ⟨q,11,G6⟩=G8 (FV a n c)/\∀i,i<n->∃g,a=G8 ⟨g,0,G6⟩/\(∃z,V.cell? ⟨g,i*3,G6⟩=G8 z)/\(∃z,V.cell? ⟨g,i*3+1,G6⟩=G8 z)/\(∃z,V.cell? ⟨g,i*3+2,G6⟩=G8 z)/\V.frozen? ⟨g,i*3,G6⟩=false/\V.frozen? ⟨g,i*3+1,G6⟩=false/\V.frozen? ⟨g,i*3+2,G6⟩=false/\∀u0 u1 u2,P (((V.setCell ⟨g,i*3,G6⟩ u0).setCell ⟨g,i*3+1,G6⟩ u1).setCell ⟨g,i*3+2,G6⟩ u2):=by
 subst hn;have hne:(Value.slice a r.ns.length c).ownBlock≠G8 q:=U9 h hx (by decide);refine⟨fun V=>Touch (fun b=>(Value.slice a r.ns.length c).ownBlock=G8 b) W V/\RpX V q r (FV a r.ns.length c)/\Blk V B q a r.ns.length 3,⟨Touch.refl _ _,hx,.of h hne⟩,fun V h=>h.1,fun V h=>⟨h.2.1.cells.2.2.2.2.2.2.2.2.2.2.2,fun i hi=>?_⟩⟩;obtain⟨g,e,hg,hq,hz,hf⟩:=h.2.2.at hi (show 0<3 by decide);obtain⟨g1,e1,_,_,hz1,hf1⟩:=h.2.2.at hi (show 1<3 by decide);obtain⟨g2,e2,_,_,hz2,hf2⟩:=h.2.2.at hi (show 2<3 by decide);have t1:=e.symm.trans e1;have t2:=e.symm.trans e2;simp only[Option.some.injEq,Addr.mk.injEq,and_true]at t1 t2;subst t1 t2;have keep:∀ {V:FX} (j:Nat) (u:FZ),(Touch (fun b=>(Value.slice a r.ns.length c).ownBlock=G8 b) W V/\RpX V q r (FV a r.ns.length c)/\Blk V B q a r.ns.length 3)->(Touch (fun b=>(Value.slice a r.ns.length c).ownBlock=G8 b) W (V.setCell ⟨g,j,G6⟩ u)/\RpX (V.setCell ⟨g,j,G6⟩ u) q r (FV a r.ns.length c)/\Blk (V.setCell ⟨g,j,G6⟩ u) B q a r.ns.length 3):=fun j u h=>⟨h.1.trans (Touch.set (a:=⟨g,j,G6⟩) (by rw[e];rfl) u),(BG _ ⟨g,j,G6⟩ u q (fun e=>hq e.symm)).trans h.2.1,h.2.2.set _ _ _⟩;exact⟨g,e,hz,hz1,hz2,hf,hf1,hf2,fun u0 u1 u2=>keep _ u2 (keep _ u1 (keep _ u0 h))⟩
theorem CF0{g:Nat}(h:VP W)(hn:NtP W g):1≠g:=by
 intro e;have h1:=h.cell AO1 0 (by decide);obtain⟨cs,h2,h3⟩:=hn;rw[e,AX,h2]at h1;have h1:cs[0]?=G8 (.int .u64 (Lib.pow10Tab.getD 0 0)):=by simpa using h1
 rcases h3 0 _ h1 with⟨e,_⟩|⟨_,n,e⟩
 .cases e
 .cases e
structure LK(k m c b:Nat)(dc:Int)(q:Pw)(u:FZ)(V W:FX):Prop where
 x:WX W k q
 t:VP W
 a:UC W k m q (N0)
 cl:c<W.heap.size
 c:W.cell? ⟨c,0,G6⟩=G8 (P0 m)
 bl:b<W.heap.size
 d:W.cell? ⟨b,1,G6⟩=G8 (I0 dc)
 tt:Touch (fun b=>b=m\/u.ownBlock=G8 b) V W
def AG2(B:Nat)(w:FX)(s:Sv)(e:Ending)(w':FX):Prop:=
 ∃ad cd al cl an cn ai ci aw cw,e=.returned (.agg #[.bool s.up,FV ad s.fs.length cd,I0 s.id,I0 s.ep,FV al s.ts.length cl,I0 s.dn,I0 s.tr.z,FV an s.tr.ns.length cn,FV ai s.tr.ss.length ci,FV aw s.ws.length cw])/\
  Own5 w' B s (FV ad s.fs.length cd) (FV al s.ts.length cl) (FV an s.tr.ns.length cn) (FV ai s.tr.ss.length ci) (FV aw s.ws.length cw)/\B0 w w'
section
variable {k m c b:Nat} {dc:Int} {q:Pw} {u:FZ} {V W U:FX}
theorem LK.next(h:LK k m c b dc q u V W)(hb:B0 W U):LK k m c b dc q u V U:=
 ⟨h.x.next hb,h.t.next hb,h.a.next hb,AY h.cl hb.size,(hb.cell (p:=⟨c,0,G6⟩) h.cl).trans h.c,AY h.bl hb.size,(hb.cell (p:=⟨b,1,G6⟩) h.bl).trans h.d,h.tt.trans (Touch.of_below hb)⟩
theorem BD7{w':FX}{s:Sv}{e:Ending}(hB:B<=w.heap.size)(h:BD3 w s e w'):AG2 B w s e w':=by
 obtain⟨ad,cd,al,cl,an,cn,ai,ci,aw,cw,he,o1,o2,o3,o4,o5,hb⟩:=h;exact⟨ad,cd,al,cl,an,cn,ai,ci,aw,cw,he,⟨o1.lower hB,o2.lower hB,o3.lower hB,o4.lower hB,o5.lower hB⟩,hb⟩
theorem LK.srv(h:LK k m c b dc q u V W)(hw:QI q)(hi:i<3)(hb:B0 W U):G5 prog 9 #[P0 k,I0 i] U (AG2 W.heap.size U (svP i (q.s i))):=
 (pY q k i U (h.x.next hb) hi _ rfl ((hw.s i hi).more hw.n1).few).mono fun _ _=>BD7 hb.size
theorem LK.srvo(h:LK k m c b dc q u V W)(hw:QI q)(hi:i<3)(hb:B0 W U):G5 prog 9 #[P0 m,I0 i] U (AG2 W.heap.size U (svP i (q.s i))):=by
 obtain⟨H,_,_,_,hx⟩:=(h.next hb).a;exact(pY (TS q H) m i U hx hi _ rfl ((hw.s i hi).more hw.n1).few).mono fun _ _=>BD7 hb.size
theorem LK.ack(h:LK k m c b dc q u V W)(hw:QI q)(hb:B0 W U):G5 prog 11 #[P0 k] U fun e w'=>∃a n,e=.returned (FV a q.D.length n)/\I5 w' W.heap.size (FV a q.D.length n) q.D/\B0 U w':=by
 have:=hw.few;have:=hw.n1;refine(lX q k U (h.x.next hb) (by omega)).mono ?_;rintro e w' ⟨a,n,he,ho,hb'⟩;exact⟨a,n,he,ho.lower hb.size,hb'⟩
theorem LK.acko(h:LK k m c b dc q u V W)(hw:QI q)(hb:B0 W U):G5 prog 11 #[P0 m] U fun e w'=>∃a n,e=.returned (FV a q.D.length n)/\I5 w' W.heap.size (FV a q.D.length n) q.D/\B0 U w':=by
 have:=hw.few;have:=hw.n1;obtain⟨H,_,_,_,hx⟩:=(h.next hb).a;refine(lX (TS q H) m U hx (by show q.D.length<=300;omega)).mono ?_;rintro e w' ⟨a,n,he,ho,hb'⟩;exact⟨a,n,he,ho.lower hb.size,hb'⟩
theorem LK.cli(h:LK k m c b dc q u V W)(hw:QI q)(hi:i<16)(hb:B0 W U):G5 prog 12 #[P0 k,I0 i] U fun e w'=>∃a n,e=.returned (.agg #[I0 (q.c i).s,I0 (q.c i).z,FV a (q.c i).es.length n])/\I5 w' W.heap.size (FV a (q.c i).es.length n) (q.c i).es/\B0 U w':=by
 refine(AR7 q k i U (h.x.next hb) hi _ rfl ?_).mono ?_
 .have:=(hw.c i hi).len;have:=hw.n1;omega
 .rintro e w' ⟨a,n,he,ho,hb'⟩;exact⟨a,n,he,ho.lower hb.size,hb'⟩
end
structure MK(k m c b:Nat)(d:Dd)(r:Rp)(p q:Pw)(u:FZ)(V W:FX):Prop where
 x:WX W k (grH q u)
 n:ZW W (k+1) u r.ns
 t:VP W
 a:UC W k m p u
 cl:c<V.heap.size
 c:W.cell? ⟨c,0,G6⟩=G8 (P0 m)
 lo:V.heap.size<=b
 d:JU W b d
 r:RpX W (b+1) r u
 tt:Touch (fun b=>b=m\/u.ownBlock=G8 b) V W
structure MO(k m c:Nat)(q:Pw)(u:FZ)(V:FX):Prop where
 mlk:m<k
 ck:c<k
 cm:c≠m
 kV:k<V.heap.size
 u:∀g,u.ownBlock=G8 g->k<g/\g<V.heap.size
 h:q.h m
section
variable {k m c b:Nat} {d:Dd} {r:Rp} {p q:Pw} {u v:FZ} {V W U:FX}
theorem MK.next(h:MK k m c b d r p q u V W)(hb:B0 W U):MK k m c b d r p q u V U:=
 ⟨h.x.next hb,h.n.next hb,h.t.next hb,h.a.next hb,h.cl,(hb.cell (p:=⟨c,0,G6⟩) (AY h.cl h.tt.size)).trans h.c,h.lo,h.d.XV hb h.d.ltz,(hb.block _ h.r.lt).trans h.r,h.tt.trans (Touch.of_below hb)⟩
theorem MK.did(o:MO k m c q u V)(h:MK k m c b d r p q u V W)(ht:Touch (· =m) W U)(ha:UC U k m q u):MK k m c b d r q q u V U:=by
 obtain⟨H,h1,_,_,hx⟩:=h.a;have hV:=o.kV;have hmk:=o.mlk;have hlo:=h.lo;have hck:=o.ck;have keep:∀x,x<W.heap.size->x≠m->U.heap[x]?=W.heap[x]? :=fun x hx hne=>ht.block x hx hne;refine⟨h.x.CN5 (.inl o.h) hx.CN4 (by omega) ht,OB h.n ht (fun g e hg=>by have:=(o.u g e).1;omega),h.t.touch ht (B94 h.t hx),ha,h.cl,?_,h.lo,(keep b h.d.ltz (by omega)).trans h.d,(keep (b+1) h.r.lt (by omega)).trans h.r,h.tt.trans (ht.mono fun x _ e=>.inl e)⟩;rw[AX,keep c (AY h.cl h.tt.size) o.cm];exact h.c
theorem yS(h:UC V k m q u):UC V k m q (N0):=by
 obtain⟨H,h1,h2,_,hx⟩:=h;exact⟨H,h1,h2,fun g e=>by simp[Value.ownBlock]at e,hx⟩
theorem MK.over(o:MO k m c q u V)(h:MK k m c b d r q q u V W)(ht:Touch (fun b=>u.ownBlock=G8 b) W U):LK k m c b d.c q u V U:=by
 have hV:=o.kV;have hmk:=o.mlk;have hck:=o.ck;have hlo:=h.lo;have hbl:=h.d.ltz;have hcl:=AY h.cl h.tt.size;have hd:U.cell? ⟨b,1,G6⟩=G8 (I0 d.c):=by
  rw[AX,ht.block b hbl (fun e=>by have:=(o.u b e).2;omega)];exact h.d.row 1 _ rfl
 have hc:U.cell? ⟨c,0,G6⟩=G8 (P0 m):=by
  rw[AX,ht.block c hcl (fun e=>by have:=(o.u c e).1;omega)];exact h.c
 have tt:=h.tt.trans (ht.mono (G:=fun b=>b=m\/u.ownBlock=G8 b) fun x _ e=>.inr e)
 cases hu:u.ownBlock with
 |none=>
  have hb:B0 W U:=ht.below (AA _) (fun x e=>by rw[hu]at e;cases e);exact⟨(h.x.next hb).gr0,h.t.next hb,yS (h.a.next hb),AY hcl ht.size,hc,AY hbl ht.size,hd,tt⟩
 |some g=>
  have hg:=o.u g hu;have hn:=h.n.p g hu;have ht':Touch (· =g) W U:=ht.mono fun x _ e=>by rw[hu]at e;exact(Option.some.inj e).symm
  exact⟨(h.x.notes (.inr hu) hn (by omega) ht').gr0,h.t.touch ht' (CF0 h.t hn),yS (h.a.notes hu hn (by omega) ht'),AY hcl ht.size,hc,AY hbl ht.size,hd,tt⟩
theorem MK.start(h:LB V W d r u)(hx:WX V k (grH q u))(hn:ZW V (k+1) u r.ns)(ht:VP V)(ha:UC V k m p u)(hc:c<V.heap.size)(hcc:V.cell? ⟨c,0,G6⟩=G8 (P0 m)):MK k m c V.heap.size d r p q u V W:=
 ⟨hx.next h.b,hn.next h.b,ht.next h.b,ha.next h.b,hc,(h.b.cell (p:=⟨c,0,G6⟩) hc).trans hcc,AA _,h.d,h.r,Touch.of_below h.b⟩
end
theorem tX[Lay α]{v:FZ}{xs:List α}(h:I5 W B v xs):xs.length<=9223372036854775807:=by
 rcases h.seq with⟨_,_,_,rfl,_⟩|⟨_,_,cap,_,h1,h2,_⟩
 .simp
 .exact Nat.le_trans h1 h2
theorem AR8(r:Rp)(v1 v2:FZ)(w:FX)(hl:r.ns.length<=9223372036854775807)(h1:IV w v1 r.ns)(h2:IV w v2 r.ns):
  G5 prog 8 #[rpV r v1,rpV r v2] w (R0 w (.bool true)):=by
 have K1:=GH (V9 h1);have K2:=GH (V9 h2);obtain⟨a1,c1,rfl⟩:=GU h1;obtain⟨a2,c2,rfl⟩:=GU h2;have BL:=GH (GK (GI w (FW #[I0 r.E,I0 r.z,S0 r.p,S0 r.d,I0 r.t.c,I0 r.t.m,I0 r.t.q,I0 r.t.v,I0 r.t.k,I0 r.t.o,I0 r.t.n,FV a1 r.ns.length c1] 36)) (GI _ (FW #[I0 r.E,I0 r.z,S0 r.p,S0 r.d,I0 r.t.c,I0 r.t.m,I0 r.t.q,I0 r.t.v,I0 r.t.k,I0 r.t.o,I0 r.t.n,FV a2 r.ns.length c2] 36)));have R1:Hid (RpX ((w.alloc (FW #[I0 r.E,I0 r.z,S0 r.p,S0 r.d,I0 r.t.c,I0 r.t.m,I0 r.t.q,I0 r.t.v,I0 r.t.k,I0 r.t.o,I0 r.t.n,FV a1 r.ns.length c1] 36)).alloc (FW #[I0 r.E,I0 r.z,S0 r.p,S0 r.d,I0 r.t.c,I0 r.t.m,I0 r.t.q,I0 r.t.v,I0 r.t.k,I0 r.t.o,I0 r.t.n,FV a2 r.ns.length c2] 36)) w.heap.size r (FV a1 r.ns.length c1)):=GH (((GI _ _).block _ (by simp)).trans (heap_alloc_last _ _));have R2:Hid (RpX ((w.alloc (FW #[I0 r.E,I0 r.z,S0 r.p,S0 r.d,I0 r.t.c,I0 r.t.m,I0 r.t.q,I0 r.t.v,I0 r.t.k,I0 r.t.o,I0 r.t.n,FV a1 r.ns.length c1] 36)).alloc (FW #[I0 r.E,I0 r.z,S0 r.p,S0 r.d,I0 r.t.c,I0 r.t.m,I0 r.t.q,I0 r.t.v,I0 r.t.k,I0 r.t.o,I0 r.t.n,FV a2 r.ns.length c2] 36)) (w.heap.size+1) r (FV a2 r.ns.length c2)):=GH (by
  have h:=heap_alloc_last (w.alloc (FW #[I0 r.E,I0 r.z,S0 r.p,S0 r.d,I0 r.t.c,I0 r.t.m,I0 r.t.q,I0 r.t.v,I0 r.t.k,I0 r.t.o,I0 r.t.n,FV a1 r.ns.length c1] 36)) (FW #[I0 r.E,I0 r.z,S0 r.p,S0 r.d,I0 r.t.c,I0 r.t.m,I0 r.t.q,I0 r.t.v,I0 r.t.k,I0 r.t.o,I0 r.t.n,FV a2 r.ns.length c2] 36);rwa[show (w.alloc (FW #[I0 r.E,I0 r.z,S0 r.p,S0 r.d,I0 r.t.c,I0 r.t.m,I0 r.t.q,I0 r.t.v,I0 r.t.k,I0 r.t.o,I0 r.t.n,FV a1 r.ns.length c1] 36)).heap.size=w.heap.size+1 by simp]at h)
 clear h1 h2;unfold rpV;go_enter func8,ntmps8;go_upto_region 1 with fail;generalize ((w.alloc _).alloc _)=W0 at*;obtain⟨x0,x1,x2,x3,x4,x5,x6,x7,x8,x9,x10,x11⟩:=(G9 R1).cells;obtain⟨y0,y1,y2,y3,y4,y5,y6,y7,y8,y9,y10,y11⟩:=(G9 R2).cells;go_wp2_with fail;clear x0 x1 x2 x3 x4 x5 x6 x7 x8 x9 x10 x11 y0 y1 y2 y3 y4 y5 y6 y7 y8 y9 y10 y11
 go_loopg [5] r.ns.length (fun kx s5 wr=>∃i:Nat,s5=I0 i/\i<=r.ns.length/\r.ns.length-i<=kx/\Hid (RpX wr w.heap.size r (FV a1 r.ns.length c1)/\RpX wr (w.heap.size+1) r (FV a2 r.ns.length c2)/\B0 w wr))
 case atStart=>exact⟨0,rfl,Nat.zero_le _,AA _,GH ⟨G9 R1,G9 R2,G9 BL⟩⟩
 case round=>
  obtain⟨i,rfl,hi,hg,HS⟩:=hrel;clear R1 R2 BL;obtain⟨_,_,_,_,_,_,_,_,_,_,_,x11⟩:=(G9 HS).1.cells;obtain⟨_,_,_,_,_,_,_,_,_,_,_,y11⟩:=(G9 HS).2.1.cells;have hsz:=(G9 HS).2.2.size;by_cases hlt:i<r.ns.length
  .obtain⟨x,hx⟩:∃x,r.ns[i]?=G8 x:=⟨_,List.getElem?_eq_getElem hlt⟩;have vT:(i:Int)<(r.ns.length:Int):=by omega
   obtain⟨b1,o1,cc1,he,hb1,q1⟩:=G9 K1 wr (G9 HS).2.2 i x hx;simp only[AQ]at he;obtain⟨rfl,_,rfl⟩:=he;obtain⟨b2,o2,cc2,he,hb2,q2⟩:=G9 K2 wr (G9 HS).2.2 i x hx;simp only[AQ]at he;obtain⟨rfl,_,rfl⟩:=he;have d0:=q1 0 _ (by decide) rfl;have d1:=q1 1 _ (by decide) rfl;have d2:=q1 2 _ (by decide) rfl;have e0:=q2 0 _ (by decide) rfl;have e1:=q2 1 _ (by decide) rfl;have e2:=q2 2 _ (by decide) rfl;have HB:=GH (And.intro hb1 hb2);clear q1 q2 hx hb1 hb2;simp only[Lay.k,Nat.add_zero]at d0 d1 d2 e0 e1 e2;go_wp2_with fail;go_region;go_wp2_with fail
   go_roundg (r.ns.length-(i+1))
   case measure=>omega
   case rel=>exact⟨i+1,by simp,by omega,AA _,GH ⟨(G9 HS).1,(G9 HS).2.1,GK (G9 HS).2.2 (AB _ _).drew⟩⟩
  .obtain rfl:i=r.ns.length:=by omega
   go_wp2_with fail;go_ret;exact⟨rfl,(G9 HS).2.2⟩
theorem BV2(p:Pw)(d:Dd)(k m c:Nat)(u:FZ)(V:FX)(h:QI p)(hdc: -9223372036854775808<=d.c/\d.c<=9223372036854775807)(hdp:d.q.p.length<=140737488355328)(hdd:d.q.d.length<=140737488355328)(hx:WX V k (grH (doP p d).2 u))(hn:ZW V (k+1) u (doP p d).1.ns)(hT:VP V)(ha:UC V k m p u)(hcV:c<V.heap.size)(hcc:V.cell? ⟨c,0,G6⟩=G8 (P0 m))(ho:MO k m c (doP p d).2 u V):
  G5 prog 6 #[wP k,ddV d,rpV (doP p d).1 u,P0 c] V fun e w'=>e=.returned (.bool true)/\LK k m c V.heap.size d.c (doP p d).2 u V w':=by
 have hw:=lM d h;have CD:=GH (fun W (hM:MK k m c V.heap.size d (doP p d).1 p (doP p d).2 u V W)=>CE4 p d k m u W hM.a hM.t h hdp hdd);generalize doP p d=x at*;obtain⟨r,q⟩:=x;simp only at hw CD hx hn ho⊢;obtain⟨na,nc,rfl⟩:=IQ hn.o;have HW:=GH hw;have HO:=GH ho;have HD:=GH hdc;have B0:=GH (LB.start V d r (FV na r.ns.length nc));have HS0:=GH (fun W (hb:LB V W d r (FV na r.ns.length nc))=>MK.start (p:=p) hb hx hn hT ha hcV hcc);clear hw h hx hn hT ha hcV hcc ho hdc hdp hdd;unfold wP ddV rpV;go_enter func6,ntmps6;go_upto_region 1 with fail;generalize ((V.alloc _).alloc _)=W0 at*;have K0:=GH (G9 HS0 W0 (G9 B0));have dr:=(G9 K0).d.row;simp only[Nat.zero_add]at dr;have d0:W0.cell? ⟨V.heap.size,0,G6⟩=G8 (I0 d.k):=dr 0 _ rfl;have d1:W0.cell? ⟨V.heap.size,1,G6⟩=G8 (I0 d.c):=dr 1 _ rfl;have d2:W0.cell? ⟨V.heap.size,2,G6⟩=G8 (I0 d.s):=dr 2 _ rfl;have d3:W0.cell? ⟨V.heap.size,3,G6⟩=G8 (I0 d.q.o):=dr 3 _ rfl;have d4:W0.cell? ⟨V.heap.size,4,G6⟩=G8 (I0 d.q.s):=dr 4 _ rfl;have d5:W0.cell? ⟨V.heap.size,5,G6⟩=G8 (S0 d.q.p):=dr 5 _ rfl;have d6:W0.cell? ⟨V.heap.size,6,G6⟩=G8 (S0 d.q.d):=dr 6 _ rfl;have d7:W0.cell? ⟨V.heap.size,7,G6⟩=G8 (I0 d.q.v):=dr 7 _ rfl;have d8:W0.cell? ⟨V.heap.size,8,G6⟩=G8 (I0 d.q.f):=dr 8 _ rfl;have d9:W0.cell? ⟨V.heap.size,9,G6⟩=G8 (I0 d.lo):=dr 9 _ rfl;have d10:W0.cell? ⟨V.heap.size,10,G6⟩=G8 (I0 d.sl):=dr 10 _ rfl;have d11:W0.cell? ⟨V.heap.size,11,G6⟩=G8 (I0 d.ke):=dr 11 _ rfl;have d12:W0.cell? ⟨V.heap.size,12,G6⟩=G8 (.bool d.wt):=dr 12 _ rfl;have k1:=(G9 K0).c;have C0:=GH (G9 CD W0 (G9 K0));unfold wP ddV at C0;clear dr B0 HS0 CD;go_wp2_with fail;refine(G9 C0).mono ?_;rintro e w1 ⟨v1,rfl,ho1,ht1,ha1⟩;obtain⟨ma,mc,rfl⟩:=IQ ho1;have K1:=GH (MK.did (G9 HO) (G9 K0) ht1 ha1);have S1:=GH ho1.seq;have hmx:=tX ho1;clear d0 d1 d2 d3 d4 d5 d6 d7 d8 d9 d10 d11 d12 k1 ho1 ht1 ha1 C0 K0;unfold rpV;go_upto_region 2 with fail;have X8:Hid (RpX (w1.alloc (FW #[I0 r.E,I0 r.z,S0 r.p,S0 r.d,I0 r.t.c,I0 r.t.m,I0 r.t.q,I0 r.t.v,I0 r.t.k,I0 r.t.o,I0 r.t.n,FV ma r.ns.length mc] 36)) w1.heap.size r (FV ma r.ns.length mc)):=GH (heap_alloc_new w1 _);have A8:=GI w1 (FW #[I0 r.E,I0 r.z,S0 r.p,S0 r.d,I0 r.t.c,I0 r.t.m,I0 r.t.q,I0 r.t.v,I0 r.t.k,I0 r.t.o,I0 r.t.n,FV ma r.ns.length mc] 36);have K2:=GH ((G9 K1).next A8);have CR:=GH (AR8 r _ _ _ hmx ((G9 S1).next A8) (G9 K2).n.o.seq);unfold rpV at CR;clear A8 K1 S1;generalize w1.alloc _=W2 at*;generalize w1.heap.size=q8 at*;obtain⟨x0,x1,x2,x3,x4,x5,x6,x7,x8,x9,x10,x11⟩:=(G9 X8).cells;obtain⟨y0,y1,y2,y3,y4,y5,y6,y7,y8,y9,y10,y11⟩:=(G9 K2).r.cells;go_wp2_with fail;refine(G9 CR).mono ?_;rintro e w3 ⟨rfl,hb3⟩;have K3:=GH ((G9 K2).next hb3);clear x0 x1 x2 x3 x4 x5 x6 x7 x8 x9 x10 x11 y0 y1 y2 y3 y4 y5 y6 y7 y8 y9 y10 y11 hb3 CR K2 X8;obtain⟨P,hP0,hPT,hPO⟩:=CE9 rfl (G9 K3).n.o (G9 K3).r;have HP:=GH hP0;have HPT:=GH hPT;have OV:=GH hPO;clear hP0 hPT hPO;generalize hnl:r.ns.length=n at*;have HNL:=GH hnl;clear hnl;obtain⟨xr,-⟩:=G9 OV _ (G9 HP);go_upto_region 5 with fail;clear xr
 go_loopg [32] n (fun kx st W4=>∃j:Nat,st=I0 j/\j<=n/\n-j<=kx/\Hid (P W4))
 case atStart=>exact⟨0,rfl,by omega,by omega,HP⟩
 case round=>
  obtain⟨j,rfl,hj,hg,HI⟩:=hrel;clear HP;obtain⟨xr,hr⟩:=G9 OV _ (G9 HI);by_cases hlt:j<n
  .have vT:(j:Int)<(n:Int):=by omega
   obtain⟨g,rfl,⟨z0,hz0⟩,⟨z1,hz1⟩,⟨z2,hz2⟩,hf0,hf1,hf2,hs⟩:=hr j hlt;have HX:=GH (hs (I0 (-1)) (I0 0) (.string ⟨#[]⟩));clear hr hs HI;go_wp2_with fail
   go_roundg (n-(j+1))
   case measure=>omega
   case rel=>exact⟨j+1,by simp,by omega,AA _,HX⟩
  .obtain rfl:j=n:=by omega
   clear hr xr hj hg hlt OV hmx;have L4:=GH (MK.over (G9 HO) (G9 K3) (G9 HPT _ (G9 HI)));clear HI HPT K3 HO;generalize wr=W4 at*;go_wp2_with fail
   go_loopg [10] 3 (fun kx s10 wr=>∃i:Nat,s10=I0 i/\i<=3/\3-i<=kx/\Hid (B0 W4 wr))
   case atStart=>exact⟨0,rfl,by omega,by omega,GH (AB _ _)⟩
   case round=>
    obtain⟨i,rfl,hi,hg,BI⟩:=hrel;by_cases hi3:i<3
    .have hi4:(i:Int)<3:=by omega
     have HK:=GH ((G9 L4).next (G9 BI));have CS:=GH (fun V' (hV:B0 wr V')=>(G9 HK).srv (G9 HW) hi3 hV);have CO:=GH (fun V' (hV:B0 wr V')=>(G9 HK).srvo (G9 HW) hi3 hV);have HF:Hid (CT5 (svP i (q.s i))):=GH (((G9 HW).s i hi3).more (G9 HW).n1).few;have HKS:Hid (∀V',B0 wr V'->V'.cell? ⟨c,0,G6⟩=G8 (P0 m)):=GH fun V' hV=>(hV.cell (p:=⟨c,0,G6⟩) (G9 HK).cl).trans (G9 HK).c;generalize svP i (q.s i)=s at*;unfold AG2 at CS CO;go_upto_region 12 with fail
     go_cut [11,12]from 43 to 51 (fun t11 t12 wx=>∃q6 q7 ad cd al cl an cn ai ci aw cw bd ed bl el bn en bi ei bw ew,t11=P0 q6/\t12=P0 q7/\Hid (Sp2 wr wx q6 q7 s (FV ad s.fs.length cd) (FV al s.ts.length cl) (FV an s.tr.ns.length cn) (FV ai s.tr.ss.length ci) (FV aw s.ws.length cw) (FV bd s.fs.length ed) (FV bl s.ts.length el) (FV bn s.tr.ns.length en) (FV bi s.tr.ss.length ei) (FV bw s.ws.length ew)))
     case first=>
      clear HK HF BI L4;have HB:=GH (AB wr.heap.size wr).drew;have hS0:=G9 HKS _ (G9 HB);refine wp_region_held (S:=fun V:FX=>V.cell? ⟨c,0,G6⟩=G8 (P0 m)) (by kernel_rfl) ?_;change wpAnyH _ _ _ _ _ _ _ _ wr.drew;generalize wr.drew=v0 at*;refine tkH 0 hS0 ?_;refine tkH 1 hS0 ?_;refine tkH 3 hS0 ?_;refine tkH 4 hS0 ?_;clear hS0;refine wpAnyH_ready (rs:=[2,6,7]) (by kernel_rfl) (by simp) ?_;refine AllReadyH.cons (o:=_) rfl (fun K hK=>?n2) (AllReadyH.cons (o:=_) rfl (fun K hK=>?n6) (AllReadyH.cons (o:=_) rfl (fun K hK=>?n7) AllReadyH.nil))
      case' n2=>
       go_simp;refine(G9 CS _ (G9 HB)).mono ?_;rintro e v1 ⟨ad,cd,al,cl,an,cn,ai,ci,aw,cw,rfl,h,hb⟩;have Q1:=GH h;replace HB:=GH (GK (G9 HB) hb);refine nxH hK (G9 HKS _ (G9 HB)) ?_;clear hK K h hb
      case' n6=>
       go_simp;have Z6:=GH (IB.new v0 false 0 0 0 0 (N0) (N0) (N0) (N0) (N0));have g6:=GH (G9 HB).size;replace HB:=GH (GK (G9 HB) (GI v0 (FW #[.bool false,N0,I0 0,I0 0,N0,I0 0,I0 0,N0,N0,N0] 55)));refine nxH hK (G9 HKS _ (G9 HB)) ?_;clear hK K;generalize v0.alloc _=v1 at*;generalize v0.heap.size=q6 at*
      case' n7=>
       go_simp;have Z7:=GH (IB.new v0 false 0 0 0 0 (N0) (N0) (N0) (N0) (N0));have g7:=GH (G9 HB).size;replace HB:=GH (GK (G9 HB) (GI v0 (FW #[.bool false,N0,I0 0,I0 0,N0,I0 0,I0 0,N0,N0,N0] 55)));refine nxH hK (G9 HKS _ (G9 HB)) ?_;clear hK K;generalize v0.alloc _=v1 at*;generalize v0.heap.size=q7 at*
      case' n2=>
       refine wpAnyH_ready (rs:=[5,6,7]) (by kernel_rfl) (by simp) ?_;refine AllReadyH.cons (o:=_) rfl (fun K hK=>?n25) (AllReadyH.cons (o:=_) rfl (fun K hK=>?n26) (AllReadyH.cons (o:=_) rfl (fun K hK=>?n27) AllReadyH.nil))
      case' n6=>
       refine rd2 2 7 (fun K hK=>?n62) (fun K hK=>?n67)
      case' n7=>
       refine rd2 2 6 (fun K hK=>?n72) (fun K hK=>?n76)
      case' n25=>
       go_simp;refine(G9 CO _ (G9 HB)).mono ?_;rintro e v2 ⟨bd,ed,bl,el,bn,en,bi,ei,bw,ew,rfl,h,hb⟩;have Q2:=GH h;replace HB:=GH (GK (G9 HB) hb);replace Q1:=GH ((G9 Q1).next hb);refine nxH hK (G9 HKS _ (G9 HB)) ?_;clear hK K h hb
      case' n26=>
       go_simp;have Z6:=GH (IB.new v1 false 0 0 0 0 (N0) (N0) (N0) (N0) (N0));have g6:=GH (G9 HB).size;replace HB:=GH (GK (G9 HB) (GI v1 (FW #[.bool false,N0,I0 0,I0 0,N0,I0 0,I0 0,N0,N0,N0] 55)));replace Q1:=GH ((G9 Q1).next (GI v1 (FW #[.bool false,N0,I0 0,I0 0,N0,I0 0,I0 0,N0,N0,N0] 55)));refine nxH hK (G9 HKS _ (G9 HB)) ?_;clear hK K;generalize v1.alloc _=v2 at*;generalize v1.heap.size=q6 at*
      case' n27=>
       go_simp;have Z7:=GH (IB.new v1 false 0 0 0 0 (N0) (N0) (N0) (N0) (N0));have g7:=GH (G9 HB).size;replace HB:=GH (GK (G9 HB) (GI v1 (FW #[.bool false,N0,I0 0,I0 0,N0,I0 0,I0 0,N0,N0,N0] 55)));replace Q1:=GH ((G9 Q1).next (GI v1 (FW #[.bool false,N0,I0 0,I0 0,N0,I0 0,I0 0,N0,N0,N0] 55)));refine nxH hK (G9 HKS _ (G9 HB)) ?_;clear hK K;generalize v1.alloc _=v2 at*;generalize v1.heap.size=q7 at*
      case' n62=>
       go_simp;refine(G9 CS _ (G9 HB)).mono ?_;rintro e v2 ⟨ad,cd,al,cl,an,cn,ai,ci,aw,cw,rfl,h,hb⟩;have Q1:=GH h;replace HB:=GH (GK (G9 HB) hb);replace Z6:=GH ((G9 Z6).next hb);refine nxH hK (G9 HKS _ (G9 HB)) ?_;clear hK K h hb
      case' n67=>
       go_simp;have Z7:=GH (IB.new v1 false 0 0 0 0 (N0) (N0) (N0) (N0) (N0));have g7:=GH (G9 HB).size;have h67:=GH (Nat.ne_of_lt (G9 Z6).lt);replace HB:=GH (GK (G9 HB) (GI v1 (FW #[.bool false,N0,I0 0,I0 0,N0,I0 0,I0 0,N0,N0,N0] 55)));replace Z6:=GH ((G9 Z6).next (GI v1 (FW #[.bool false,N0,I0 0,I0 0,N0,I0 0,I0 0,N0,N0,N0] 55)));refine nxH hK (G9 HKS _ (G9 HB)) ?_;clear hK K;generalize v1.alloc _=v2 at*;generalize v1.heap.size=q7 at*
      case' n72=>
       go_simp;refine(G9 CS _ (G9 HB)).mono ?_;rintro e v2 ⟨ad,cd,al,cl,an,cn,ai,ci,aw,cw,rfl,h,hb⟩;have Q1:=GH h;replace HB:=GH (GK (G9 HB) hb);replace Z7:=GH ((G9 Z7).next hb);refine nxH hK (G9 HKS _ (G9 HB)) ?_;clear hK K h hb
      case' n76=>
       go_simp;have Z6:=GH (IB.new v1 false 0 0 0 0 (N0) (N0) (N0) (N0) (N0));have g6:=GH (G9 HB).size;have h67:=GH (Nat.ne_of_gt (G9 Z7).lt);replace HB:=GH (GK (G9 HB) (GI v1 (FW #[.bool false,N0,I0 0,I0 0,N0,I0 0,I0 0,N0,N0,N0] 55)));replace Z7:=GH ((G9 Z7).next (GI v1 (FW #[.bool false,N0,I0 0,I0 0,N0,I0 0,I0 0,N0,N0,N0] 55)));refine nxH hK (G9 HKS _ (G9 HB)) ?_;clear hK K;generalize v1.alloc _=v2 at*;generalize v1.heap.size=q6 at*
      case' n25=>
       refine rd2 6 7 (fun K hK=>?n256) (fun K hK=>?n257)
      case' n26=>
       refine rd2 5 7 (fun K hK=>?n265) (fun K hK=>?n267)
      case' n27=>
       refine rd2 5 6 (fun K hK=>?n275) (fun K hK=>?n276)
      case' n62=>
       refine rd2 5 7 (fun K hK=>?CY1) (fun K hK=>?CY2)
      case' n67=>
       refine rd1 2 (fun K hK=>?_)
      case' n72=>
       refine rd2 5 6 (fun K hK=>?CY3) (fun K hK=>?CY4)
      case' n76=>
       refine rd1 2 (fun K hK=>?_)
      case' n256=>
       go_simp;have Z6:=GH (IB.new v2 false 0 0 0 0 (N0) (N0) (N0) (N0) (N0));have g6:=GH (G9 HB).size;replace HB:=GH (GK (G9 HB) (GI v2 (FW #[.bool false,N0,I0 0,I0 0,N0,I0 0,I0 0,N0,N0,N0] 55)));replace Q1:=GH ((G9 Q1).next (GI v2 (FW #[.bool false,N0,I0 0,I0 0,N0,I0 0,I0 0,N0,N0,N0] 55)));replace Q2:=GH ((G9 Q2).next (GI v2 (FW #[.bool false,N0,I0 0,I0 0,N0,I0 0,I0 0,N0,N0,N0] 55)));refine nxH hK (G9 HKS _ (G9 HB)) ?_;clear hK K;generalize v2.alloc _=v3 at*;generalize v2.heap.size=q6 at*
      case' n257=>
       go_simp;have Z7:=GH (IB.new v2 false 0 0 0 0 (N0) (N0) (N0) (N0) (N0));have g7:=GH (G9 HB).size;replace HB:=GH (GK (G9 HB) (GI v2 (FW #[.bool false,N0,I0 0,I0 0,N0,I0 0,I0 0,N0,N0,N0] 55)));replace Q1:=GH ((G9 Q1).next (GI v2 (FW #[.bool false,N0,I0 0,I0 0,N0,I0 0,I0 0,N0,N0,N0] 55)));replace Q2:=GH ((G9 Q2).next (GI v2 (FW #[.bool false,N0,I0 0,I0 0,N0,I0 0,I0 0,N0,N0,N0] 55)));refine nxH hK (G9 HKS _ (G9 HB)) ?_;clear hK K;generalize v2.alloc _=v3 at*;generalize v2.heap.size=q7 at*
      case' n265|CY1=>
       go_simp;refine(G9 CO _ (G9 HB)).mono ?_;rintro e v3 ⟨bd,ed,bl,el,bn,en,bi,ei,bw,ew,rfl,h,hb⟩;have Q2:=GH h;replace HB:=GH (GK (G9 HB) hb);replace Q1:=GH ((G9 Q1).next hb);replace Z6:=GH ((G9 Z6).next hb);refine nxH hK (G9 HKS _ (G9 HB)) ?_;clear hK K h hb
      case' n267|CY2=>
       go_simp;have Z7:=GH (IB.new v2 false 0 0 0 0 (N0) (N0) (N0) (N0) (N0));have g7:=GH (G9 HB).size;have h67:=GH (Nat.ne_of_lt (G9 Z6).lt);replace HB:=GH (GK (G9 HB) (GI v2 (FW #[.bool false,N0,I0 0,I0 0,N0,I0 0,I0 0,N0,N0,N0] 55)));replace Q1:=GH ((G9 Q1).next (GI v2 (FW #[.bool false,N0,I0 0,I0 0,N0,I0 0,I0 0,N0,N0,N0] 55)));replace Z6:=GH ((G9 Z6).next (GI v2 (FW #[.bool false,N0,I0 0,I0 0,N0,I0 0,I0 0,N0,N0,N0] 55)));refine nxH hK (G9 HKS _ (G9 HB)) ?_;clear hK K;generalize v2.alloc _=v3 at*;generalize v2.heap.size=q7 at*
      case' n275|CY3=>
       go_simp;refine(G9 CO _ (G9 HB)).mono ?_;rintro e v3 ⟨bd,ed,bl,el,bn,en,bi,ei,bw,ew,rfl,h,hb⟩;have Q2:=GH h;replace HB:=GH (GK (G9 HB) hb);replace Q1:=GH ((G9 Q1).next hb);replace Z7:=GH ((G9 Z7).next hb);refine nxH hK (G9 HKS _ (G9 HB)) ?_;clear hK K h hb
      case' n276|CY4=>
       go_simp;have Z6:=GH (IB.new v2 false 0 0 0 0 (N0) (N0) (N0) (N0) (N0));have g6:=GH (G9 HB).size;have h67:=GH (Nat.ne_of_gt (G9 Z7).lt);replace HB:=GH (GK (G9 HB) (GI v2 (FW #[.bool false,N0,I0 0,I0 0,N0,I0 0,I0 0,N0,N0,N0] 55)));replace Q1:=GH ((G9 Q1).next (GI v2 (FW #[.bool false,N0,I0 0,I0 0,N0,I0 0,I0 0,N0,N0,N0] 55)));replace Z7:=GH ((G9 Z7).next (GI v2 (FW #[.bool false,N0,I0 0,I0 0,N0,I0 0,I0 0,N0,N0,N0] 55)));refine nxH hK (G9 HKS _ (G9 HB)) ?_;clear hK K;generalize v2.alloc _=v3 at*;generalize v2.heap.size=q6 at*
      case' n67|n76=>
       go_simp;refine(G9 CS _ (G9 HB)).mono ?_;rintro e v3 ⟨ad,cd,al,cl,an,cn,ai,ci,aw,cw,rfl,h,hb⟩;have Q1:=GH h;replace HB:=GH (GK (G9 HB) hb);replace Z6:=GH ((G9 Z6).next hb);replace Z7:=GH ((G9 Z7).next hb);refine nxH hK (G9 HKS _ (G9 HB)) ?_;clear hK K h hb
      case' n256=>
       refine rd1 7 (fun K hK=>?_)
      case' n257=>
       refine rd1 6 (fun K hK=>?_)
      case' n265=>
       refine rd1 7 (fun K hK=>?_)
      case' CY1=>
       refine rd1 7 (fun K hK=>?_)
      case' n267=>
       refine rd1 5 (fun K hK=>?_)
      case' CY2=>
       refine rd1 5 (fun K hK=>?_)
      case' n275=>
       refine rd1 6 (fun K hK=>?_)
      case' CY3=>
       refine rd1 6 (fun K hK=>?_)
      case' n276=>
       refine rd1 5 (fun K hK=>?_)
      case' CY4=>
       refine rd1 5 (fun K hK=>?_)
      case' n67=>
       refine rd1 5 (fun K hK=>?_)
      case' n76=>
       refine rd1 5 (fun K hK=>?_)
      case' n256|n265|CY1=>
       go_simp;have Z7:=GH (IB.new v3 false 0 0 0 0 (N0) (N0) (N0) (N0) (N0));have g7:=GH (G9 HB).size;have h67:=GH (Nat.ne_of_lt (G9 Z6).lt);replace HB:=GH (GK (G9 HB) (GI v3 (FW #[.bool false,N0,I0 0,I0 0,N0,I0 0,I0 0,N0,N0,N0] 55)));replace Q1:=GH ((G9 Q1).next (GI v3 (FW #[.bool false,N0,I0 0,I0 0,N0,I0 0,I0 0,N0,N0,N0] 55)));replace Q2:=GH ((G9 Q2).next (GI v3 (FW #[.bool false,N0,I0 0,I0 0,N0,I0 0,I0 0,N0,N0,N0] 55)));replace Z6:=GH ((G9 Z6).next (GI v3 (FW #[.bool false,N0,I0 0,I0 0,N0,I0 0,I0 0,N0,N0,N0] 55)));refine nxH hK (G9 HKS _ (G9 HB)) ?_;clear hK K;generalize v3.alloc _=v4 at*;generalize v3.heap.size=q7 at*
      case' n257|n275|CY3=>
       go_simp;have Z6:=GH (IB.new v3 false 0 0 0 0 (N0) (N0) (N0) (N0) (N0));have g6:=GH (G9 HB).size;have h67:=GH (Nat.ne_of_gt (G9 Z7).lt);replace HB:=GH (GK (G9 HB) (GI v3 (FW #[.bool false,N0,I0 0,I0 0,N0,I0 0,I0 0,N0,N0,N0] 55)));replace Q1:=GH ((G9 Q1).next (GI v3 (FW #[.bool false,N0,I0 0,I0 0,N0,I0 0,I0 0,N0,N0,N0] 55)));replace Q2:=GH ((G9 Q2).next (GI v3 (FW #[.bool false,N0,I0 0,I0 0,N0,I0 0,I0 0,N0,N0,N0] 55)));replace Z7:=GH ((G9 Z7).next (GI v3 (FW #[.bool false,N0,I0 0,I0 0,N0,I0 0,I0 0,N0,N0,N0] 55)));refine nxH hK (G9 HKS _ (G9 HB)) ?_;clear hK K;generalize v3.alloc _=v4 at*;generalize v3.heap.size=q6 at*
      case' n267|CY2|n276|CY4|n67|n76=>
       go_simp;refine(G9 CO _ (G9 HB)).mono ?_;rintro e v4 ⟨bd,ed,bl,el,bn,en,bi,ei,bw,ew,rfl,h,hb⟩;have Q2:=GH h;replace HB:=GH (GK (G9 HB) hb);replace Q1:=GH ((G9 Q1).next hb);replace Z6:=GH ((G9 Z6).next hb);replace Z7:=GH ((G9 Z7).next hb);refine nxH hK (G9 HKS _ (G9 HB)) ?_;clear hK K h hb
      all_goals
       obtain⟨x0,x1,x2,x3,x4,x5,x6,x7,x8,x9⟩:=(G9 Z6).cells;have f6:=(G9 Z6).H6;refine rd1 8 (fun K hK=>?_);go_simp;refine nxH (w:=NY v4 q6 (.bool s.up) (FV ad s.fs.length cd) (I0 s.id) (I0 s.ep) (FV al s.ts.length cl) (I0 s.dn) (I0 s.tr.z) (FV an s.tr.ns.length cn) (FV ai s.tr.ss.length ci) (FV aw s.ws.length cw)) hK (G9 HKS _ (JE (G9 HB) (G9 g6) _ _ _ _ _ _ _ _ _ _)) ?_;clear hK K x0 x1 x2 x3 x4 x5 x6 x7 x8 x9 f6;have Z8:=bW (G9 Z7) (fun e=>G9 h67 e.symm) (.bool s.up) (FV ad s.fs.length cd) (I0 s.id) (I0 s.ep) (FV al s.ts.length cl) (I0 s.dn) (I0 s.tr.z) (FV an s.tr.ns.length cn) (FV ai s.tr.ss.length ci) (FV aw s.ws.length cw);obtain⟨x0,x1,x2,x3,x4,x5,x6,x7,x8,x9⟩:=Z8.cells;have f7:=Z8.H6;have HX:=GH (Sp2.made (G9 HB) (G9 g6) (G9 g7) (G9 h67) (G9 Z6) (G9 Z7) (G9 Q1) (G9 Q2));refine rd1 9 (fun K hK=>?_);go_simp;refine nxH (w:=NY (NY v4 q6 (.bool s.up) (FV ad s.fs.length cd) (I0 s.id) (I0 s.ep) (FV al s.ts.length cl) (I0 s.dn) (I0 s.tr.z) (FV an s.tr.ns.length cn) (FV ai s.tr.ss.length ci) (FV aw s.ws.length cw)) q7 (.bool s.up) (FV bd s.fs.length ed) (I0 s.id) (I0 s.ep) (FV bl s.ts.length el) (I0 s.dn) (I0 s.tr.z) (FV bn s.tr.ns.length en) (FV bi s.tr.ss.length ei) (FV bw s.ws.length ew)) hK (G9 HKS _ (G9 HX).b) ?_;clear hK K x0 x1 x2 x3 x4 x5 x6 x7 x8 x9 f7 Z8;refine wpAnyH_done (by kernel_rfl) ?_ _;go_wp2_with fail
       go_meet
       exact⟨q6,q7,ad,cd,al,cl,an,cn,ai,ci,aw,cw,bd,ed,bl,el,bn,en,bi,ei,bw,ew,rfl,rfl,HX⟩
     case rest=>
      obtain⟨q6,q7,ad,cd,al,cl,an,cn,ai,ci,aw,cw,bd,ed,bl,el,bn,en,bi,ei,bw,ew,rfl,rfl,HX⟩:=hcut;clear CS CO HKS HK;obtain⟨x0,x1,x2,x3,x4,x5,x6,x7,x8,x9⟩:=(G9 HX).s1.cells;obtain⟨y0,y1,y2,y3,y4,y5,y6,y7,y8,y9⟩:=(G9 HX).s2.cells;have CM:=GH (A67 s _ _ _ (G9 HF) (G9 HX).o1.val (G9 HX).o2.val);go_wp2_with fail;refine(G9 CM).mono ?_;rintro e w6 ⟨rfl,hb6⟩;have HS:=GH ((G9 HX).next hb6).spo;clear x0 x1 x2 x3 x4 x5 x6 x7 x8 x9 y0 y1 y2 y3 y4 y5 y6 y7 y8 y9 hb6 CM HX;obtain⟨hn1,hn2,hn3,hn4⟩:s.ts.length<=400/\s.tr.ns.length<=400/\s.fs.length<=400/\s.ws.length<=400:=⟨(G9 HF).l,(G9 HF).n,(G9 HF).d,(G9 HF).w⟩;obtain⟨P,hP,hb,o4,o7,o1,o9⟩:=CE7 wr q6 s.up s.id s.ep s.dn s.tr.z (FV ai s.tr.ss.length ci) ad al an aw s.fs.length s.ts.length s.tr.ns.length s.ws.length cd cl cn cw;have HP:=GH ((hP _).2 (G9 HS));have PB:=GH hb;have O4:=GH o4;have O7:=GH o7;have O1:=GH o1;have O9:=GH o9;clear hP hb o4 o7 o1 o9 HS HF;generalize s.ts.length=nl at*;generalize s.tr.ns.length=nn at*;generalize s.fs.length=nf at*;generalize s.ws.length=nw at*;obtain⟨xr,-⟩:=G9 O4 _ (G9 HP);go_upto_region 16 with fail;clear xr
      go_loopg [59] nl (fun kx st wx=>∃j:Nat,st=I0 j/\j<=nl/\nl-j<=kx/\Hid (P wx))
      case atStart=>exact⟨0,rfl,by omega,by omega,HP⟩
      case round=>
       obtain⟨j,rfl,hj,hg,HI⟩:=hrel;clear HP;obtain⟨xr,hr⟩:=G9 O4 _ (G9 HI);by_cases hlt:j<nl
       .have vT:(j:Int)<(nl:Int):=by omega
        obtain⟨g,rfl,⟨z,hz⟩,hf,hs⟩:=hr j hlt;simp only[Nat.add_zero]at hz hf hs;have HX:=GH (hs (I0 (-1)));clear hr hs HI;go_wp2_with fail
        go_roundg (nl-(j+1))
        case measure=>omega
        case rel=>exact⟨j+1,by simp,by omega,AA _,HX⟩
       .obtain rfl:j=nl:=by omega
        have HP:=HI;clear HI hr xr hj hg hlt hn1 O4;obtain⟨xr,-⟩:=G9 O7 _ (G9 HP);go_upto_region 21 with fail;clear xr
        go_loopg [73] nn (fun kx st wx=>∃j:Nat,st=I0 j/\j<=nn/\nn-j<=kx/\Hid (P wx))
        case atStart=>exact⟨0,rfl,by omega,by omega,HP⟩
        case round=>
         obtain⟨j,rfl,hj,hg,HI⟩:=hrel;clear HP;obtain⟨xr,hr⟩:=G9 O7 _ (G9 HI);by_cases hlt:j<nn
         .have vT:(j:Int)<(nn:Int):=by omega
          obtain⟨g,rfl,⟨z,hz⟩,hf,hs⟩:=hr j hlt;simp only[Nat.add_zero]at hz hf hs;have HX:=GH (hs (.string ⟨#[115,112,111,105,108,116]⟩));clear hr hs HI;go_wp2_with fail
          go_roundg (nn-(j+1))
          case measure=>omega
          case rel=>exact⟨j+1,by simp,by omega,AA _,HX⟩
         .obtain rfl:j=nn:=by omega
          have HP:=HI;clear HI hr xr hj hg hlt hn2 O7;obtain⟨xr,-⟩:=G9 O1 _ (G9 HP);go_upto_region 26 with fail;clear xr
          go_loopg [87] nf (fun kx st wx=>∃j:Nat,st=I0 j/\j<=nf/\nf-j<=kx/\Hid (P wx))
          case atStart=>exact⟨0,rfl,by omega,by omega,HP⟩
          case round=>
           obtain⟨j,rfl,hj,hg,HI⟩:=hrel;clear HP;obtain⟨xr,hr⟩:=G9 O1 _ (G9 HI);by_cases hlt:j<nf
           .have vT:(j:Int)<(nf:Int):=by omega
            obtain⟨g,rfl,⟨z,hz⟩,hf,hs⟩:=hr j hlt;have HX:=GH (hs (.string ⟨#[115,112,111,105,108,116]⟩));clear hr hs HI;go_wp2_with fail
            go_roundg (nf-(j+1))
            case measure=>omega
            case rel=>exact⟨j+1,by simp,by omega,AA _,HX⟩
           .obtain rfl:j=nf:=by omega
            have HP:=HI;clear HI hr xr hj hg hlt hn3 O1;obtain⟨xr,-⟩:=G9 O9 _ (G9 HP);go_upto_region 31 with fail;clear xr
            go_loopg [100] nw (fun kx st wx=>∃j:Nat,st=I0 j/\j<=nw/\nw-j<=kx/\Hid (P wx))
            case atStart=>exact⟨0,rfl,by omega,by omega,HP⟩
            case round=>
             obtain⟨j,rfl,hj,hg,HI⟩:=hrel;clear HP;obtain⟨xr,hr⟩:=G9 O9 _ (G9 HI);by_cases hlt:j<nw
             .have vT:(j:Int)<(nw:Int):=by omega
              obtain⟨g,rfl,⟨z,hz⟩,hf,hs⟩:=hr j hlt;have HX:=GH (hs (.string ⟨#[115,112,111,105,108,116]⟩));clear hr hs HI;go_wp2_with fail
              go_roundg (nw-(j+1))
              case measure=>omega
              case rel=>exact⟨j+1,by simp,by omega,AA _,HX⟩
             .obtain rfl:j=nw:=by omega
              have HP:=HI;clear HI hr xr hj hg hlt hn4 O9;have BX:=GH (GK (G9 BI) (G9 PB _ (G9 HP)));clear HP PB BI;go_wp2_with fail
              go_roundg (3-(i+1))
              case measure=>omega
              case rel=>exact⟨i+1,by simp,by omega,AA _,BX⟩
    .obtain rfl:i=3:=by omega
     have L5:=GH ((G9 L4).next (G9 BI));clear L4 BI hi hg hi3;have C5:=GH ((G9 L5).ack (G9 HW) (AB _ _));go_wp2_with fail;refine(G9 C5).mono ?_;rintro e w6 ⟨a6,n6,rfl,ho6,hb6⟩;have hmx:=tX ho6;go_upto_region 36 with fail;have A7:=GI w6 (FW #[FV a6 q.D.length n6] 46);have G7:(w6.alloc (FW #[FV a6 q.D.length n6] 46)).cell? ⟨w6.heap.size,0,G6⟩=G8 (FV a6 q.D.length n6):=by
      rw[AX,heap_alloc_new w6 (FW #[FV a6 q.D.length n6] 46)];rfl
     obtain⟨P,hP0,hPB,hPO⟩:=CE8 (GK hb6 A7) (ho6.next A7) 0 (by decide);have HP:=GH hP0;have PB:=GH hPB;have OV:=GH hPO;clear hP0 hPB hPO A7 ho6 hb6 C5;generalize w6.alloc _=W7 at*;generalize w6.heap.size=g7 at*
     go_loopg [113] 1 (fun kx st wx=>∃j:Nat,st=I0 j/\j<=1/\1-j<=kx/\Hid ((j=0->wx=W7)/\P wx))
     case atStart=>exact⟨0,rfl,by omega,by omega,GH ⟨fun _=>rfl,G9 HP⟩⟩
     case round=>
      obtain⟨j,rfl,hj,hg,HI⟩:=hrel;by_cases hj1:j<1
      .obtain rfl:j=0:=by omega
       obtain rfl:=(G9 HI).1 rfl;clear HI;go_upto_region 39 with fail;clear G7;generalize hN:q.D.length=N at*
       go_loopg [119] N (fun kx st wx=>∃j:Nat,st=I0 j/\j<=N/\N-j<=kx/\Hid (P wx))
       case atStart=>exact⟨0,rfl,by omega,by omega,HP⟩
       case round=>
        obtain⟨j,rfl,hj,hg,HI⟩:=hrel;clear HP;obtain⟨-,hr⟩:=G9 OV _ (G9 HI);by_cases hlt:j<N
        .have vT:(j:Int)<(N:Int):=by omega
         obtain⟨g,rfl,⟨z,hz⟩,hf,hs⟩:=hr j hlt;simp only[Lay.k,Nat.add_zero]at hz hf hs;have HX:=GH (hs (I0 (-1)));clear hr hs HI;go_wp2_with fail
         go_roundg (N-(j+1))
         case measure=>omega
         case rel=>exact⟨j+1,by simp,by omega,AA _,HX⟩
        .obtain rfl:j=N:=by omega
         clear hr;go_wp2_with fail
         go_roundg 0
         case measure=>omega
         case rel=>exact⟨1,by simp,by omega,AA _,GH ⟨fun h=>by omega,G9 HI⟩⟩
      .obtain rfl:j=1:=by omega
       have L8:=GH ((G9 L5).next (G9 PB _ (G9 HI).2));clear L5 HP PB OV HI hj hg hj1 G7 hmx;obtain⟨i,hi⟩:∃i:Nat,d.c%16=(i:Int):=⟨(d.c%16).toNat,by omega⟩;have hi16:i<16:=by omega
       have CK:=GH (fun V=>BD6 d.c 16 V (by omega) (by omega) (G9 HD).1 (G9 HD).2);rw[hi]at CK;have d1:=(G9 L8).d;have C8:=GH ((G9 L8).cli (G9 HW) hi16 (AB _ _));clear hi hi16;go_wp2_with fail;refine(G9 CK _).mono ?_;rintro e _ ⟨rfl,rfl⟩;clear CK d1;generalize q.c i=cl at*;go_wp2_with fail;refine(G9 C8).mono ?_;rintro e w9 ⟨a9,n9,rfl,ho9,hb9⟩;have hmx:=tX ho9;go_upto_region 45 with fail;have A9:=GI w9 (FW #[I0 cl.s,I0 cl.z,FV a9 cl.es.length n9] 70);obtain⟨P,hP0,hPB,hPO⟩:=CR3 (GK hb9 A9) (NH.new w9 cl.s cl.z (FV a9 cl.es.length n9)) (ho9.next A9);have HP:=GH hP0;have PB:=GH hPB;have OV:=GH hPO;clear hP0 hPB hPO A9 ho9 hb9 C8;generalize w9.alloc _=W9 at*;generalize w9.heap.size=g9 at*;generalize cl.es.length=N at*;obtain⟨xr,-⟩:=G9 OV _ (G9 HP);go_upto_region 46 with fail;clear xr
       go_loopg [136] N (fun kx st wx=>∃j:Nat,st=I0 j/\j<=N/\N-j<=kx/\Hid (P wx))
       case atStart=>exact⟨0,rfl,by omega,by omega,HP⟩
       case round=>
        obtain⟨j,rfl,hj,hg,HI⟩:=hrel;clear HP;obtain⟨xr,hr⟩:=G9 OV _ (G9 HI);by_cases hlt:j<N
        .have vT:(j:Int)<(N:Int):=by omega
         obtain⟨g,rfl,⟨z,hz⟩,hf,hs⟩:=hr j hlt;have HX:=GH (hs (.string ⟨#[115,112,111,105,108,116]⟩));clear hr hs HI;go_wp2_with fail
         go_roundg (N-(j+1))
         case measure=>omega
         case rel=>exact⟨j+1,by simp,by omega,AA _,HX⟩
        .obtain rfl:j=N:=by omega
         have LF:=GH ((G9 L8).next (G9 PB _ (G9 HI)));clear hr xr HI PB OV L8 hj hg hlt hmx;generalize wr=W5 at*;have HKS:Hid (∀V',B0 W5 V'->V'.cell? ⟨c,0,G6⟩=G8 (P0 m)):=GH fun V' hV=>(hV.cell (p:=⟨c,0,G6⟩) (G9 LF).cl).trans (G9 LF).c;have CA:=GH (fun V' (hV:B0 W5 V')=>(G9 LF).ack (G9 HW) hV);have CB:=GH (fun V' (hV:B0 W5 V')=>(G9 LF).acko (G9 HW) hV);have hD:q.D.length<=1000000:=by have:=(G9 HW).few;have:=(G9 HW).n1;omega
         go_upto_region 50 with fail;have hS0:=G9 HKS _ (AB W5.heap.size W5).drew;refine wp_region_held (S:=fun V:FX=>V.cell? ⟨c,0,G6⟩=G8 (P0 m)) (by kernel_rfl) ?_;change wpAnyH _ _ _ _ _ _ _ _ W5.drew;refine tkH 0 hS0 ?_;refine tkH 2 hS0 ?_;refine rd1 1 (fun K hK=>?_);go_simp;refine(G9 CA _ (AB W5.heap.size W5).drew).mono ?_;rintro e v1 ⟨a1,c1,rfl,o1,hb1⟩;have B1:=GH (GK (AB W5.heap.size W5).drew hb1);have O1:=GH o1.seq;have hS1:=G9 HKS _ (G9 B1);clear o1 hb1 hS0;refine nxH hK hS1 ?_;clear hK K;refine rd1 3 (fun K hK=>?_);go_simp;refine(G9 CB _ (G9 B1)).mono ?_;rintro e v2 ⟨a2,c2,rfl,o2,hb2⟩;have B2:=GH (GK (G9 B1) hb2);have CS:=GH (BD4 _ _ q.D v2 hD (MJ.1 ((G9 O1).next hb2)) (MJ.1 o2.seq));have hS2:=G9 HKS _ (G9 B2);clear o2 hb2 hS1 O1;refine nxH hK hS2 ?_;clear hK K;refine rd1 4 (fun K hK=>?_);go_simp;refine(G9 CS).mono ?_;rintro e v3 ⟨rfl,hb3⟩;have B3:=GH (GK (G9 B2) hb3);have hS3:=G9 HKS _ (G9 B3);clear hb3 hS2 CS;refine nxH hK hS3 ?_;clear hK K;refine tkH 5 hS3 ?_;refine wpAnyH_done (by kernel_rfl) ?_ _;go_wp2_with fail;go_ret;exact⟨rfl,by rw[G9 HNL];exact(G9 LF).next (G9 B3)⟩
theorem do_h(k:Nat)(ds:List Dd)(i:Nat)(d:Dd){m:Nat}(hm:m<=k):(doP (TQ (pw0 k) (ds.take i)) d).2.h m:=by
 have:=BD0 (pw0 k) (ds.take i++[d]);rw[tN]at this;rw[this];exact hm
theorem BV3{W0:FX}(m c:Nat)(hb:B0 W0 W)(hm0:W0.heap.size<=m)(hxm:WX W m (pw0 m))(hcc:W.cell? ⟨c,0,G6⟩=G8 (P0 m))(hcl:c<W.heap.size)(hne:c≠m)(ds:List Dd)(v:FZ)(hv:IV W0 v ds)(hm:∀d∈ds,d.q.p.length<=140737488355328/\d.q.d.length<=140737488355328)(hc:∀d∈ds,-9223372036854775808<=d.c/\d.c<=9223372036854775807)(hT:VP W0):
  G5 prog 5 #[v,.func (.func 6) #[] #[P0 c]] W fun e w'=>∃k,e=.returned (.tuple #[P0 k,.bool true])/\B0 W0 w':=by
 have hbl:∀V,Touch (· =m) W V->B0 W0 V:=fun V hV=>hb.trans (hV.below hb.size (fun k e=>by rw[e];exact hm0));have hT1:=hT.next hb;refine(BU9 m c hxm.lt hxm ds v (fun V hV=>hv.next (hbl V hV)) hm hT1 ?_).mono ?_
 .intro k V i d u hd hx hn hk hTV hTt hM;have hdm:=List.mem_of_getElem? hd;have hml:=hxm.lt;have hcV:V.cell? ⟨c,0,G6⟩=G8 (P0 m):=by
   rw[AX,hTt.block c hcl hne];exact hcc
  refine(BV2 (TQ (pw0 k) (ds.take i)) d k m c u V (lN _ _ (YO k)) (hc d hdm) (hm d hdm).1 (hm d hdm).2 hx hn hTV hM (AY hcl hTt.size) hcV ⟨by omega,by omega,hne,hx.lt,fun g e=>⟨OJ hn.o g e,hn.o.low g e⟩,do_h k ds i d (by omega)⟩).mono ?_;rintro e w' ⟨rfl,h⟩;exact⟨rfl,h.tt,h.x,h.t,pX hTt h.tt (fun g e=>by have:=OJ hn.o g e;omega),hk,h.a⟩
 .rintro e w' ⟨k,rfl,ht⟩;exact⟨k,rfl,hbl _ ht⟩
theorem mY(ds:List Dd)(v:FZ)(W:FX)(hv:IV W v ds)(hm:∀d∈ds,d.q.p.length<=140737488355328/\d.q.d.length<=140737488355328)(hc:∀d∈ds,-9223372036854775808<=d.c/\d.c<=9223372036854775807)(hT:VP W):G5 prog 3 #[v] W (R0 W (.bool true)):=by
 have CN:=GH (A66 W);have CP:=GH (fun(w1:FX) (hx:WX w1 W.heap.size (pw0 W.heap.size)) (hb:B0 W w1)=>BV3 W.heap.size w1.heap.size (GK hb (GI w1 (FW #[.pointer (G8 ⟨W.heap.size,0,G6⟩)] 23))) (AA _) (hx.next (GI w1 _)) (by rw[AX,heap_alloc_new w1 (FW #[.pointer (G8 ⟨W.heap.size,0,G6⟩)] 23)];rfl) (by simp) (Nat.ne_of_gt hx.lt) ds v hv hm hc hT);unfold wP at CN;clear hv hm hc hT;go_enter func3,ntmps3;go_wp2_with fail;refine(G9 CN).mono ?_;rintro e w1 ⟨rfl,hx,hb⟩;have C:=GH (G9 CP w1 hx hb);clear hx hb CN CP;go_wp2_with fail;refine(G9 C).mono ?_;rintro e w2 ⟨k,rfl,hb2⟩;have HB:=GH hb2;clear hb2 C;go_wp2_with fail;go_ret;exact⟨rfl,G9 HB⟩
