/-
  Part.
-/
import Derived.Test.YtbaacalmgfkojaaGreatDoorLOXWdPf
import Derived.Test.YtbaacalmgfkojaaGreatDoorLOXWdMp
set_option maxRecDepth 20000
set_option maxHeartbeats 8000000
namespace Go.Proofs.YtbaacalmgfkojaaGreatDoor
open Go.RowKit Go.Proofs.Tryz
open _root_.Array renaming getElem?_eq_some_iff->AB
open Go.World renaming cell?->AV
open Go.Obj renaming cells->FT
open _root_.Option renaming none->FX,some->FZ
theorem CS1(p:Pw)(d:Dd):∀x∈p.H,x∈(doP p d).2.H:=by
 intro x hx;unfold doP
 split
 .exact hx
 split
 .exact hx
 unfold lH QS jY UA upW TI
 repeat' split
 all_goals first
  |exact hx
  |exact List.mem_append.2 (.inl hx)
theorem CR6{p:Pw}(h:SH p){i:Nat}(hi:i<3):∀x∈(svP i (p.s i)).ts,x∈p.H:=by
 intro x hx
 cases hu:(p.s i).up with
 |true=>
  rw[IY hu]at hx;exact h.a.hist i hi x (by rw[LQ hi];exact hx)
 |false=>
  rw[TG hu]at hx;simp at hx
def CS8(H:List GI)(key vx:Value):Prop:=∃x∈H,key=.int .i64 x.z/\vx=J7 x
def CS9(c m:Nat)(b:Nat):Prop:=b=c\/b=m
structure CT1(c m:Nat)(H:List GI)(V:World):Prop where
 c:V.heap[c]?=FZ (FT #[.map (FZ m)] 23 (0,0))
 m:CR9 V m (CS8 H)
section
variable {W V U:World} {c m k:Nat} {H G:List GI} {p:Pw}
theorem CT5{α:Type}[Lay α]{B:Nat}{v9:Value}{xs:List α}(h:GZ W B v9 xs)(ht:Touch (· =k) W V)(hk:k<B):GZ V B v9 xs:=KL h ht (fun b e hb=>by have:=QG h e;omega)
theorem CT1.next(h:CT1 c m H V)(hb:Below V.heap.size V U):CT1 c m H U:=⟨(hb.block _ (AB.1 h.c).1).trans h.c,h.m.next hb⟩
theorem CT1.turn(h:CT1 c m H V)(ht:Touch (· =k) V U)(hc:c≠k)(hm:m≠k):CT1 c m H U:=by
 obtain⟨es,cl,h1,h2⟩:=h.m;exact⟨(ht.block _ (AB.1 h.c).1 hc).trans h.c,es,cl,(ht.block _ (AB.1 h1).1 hm).trans h1,h2⟩
theorem CT1.more(h:CT1 c m H V)(hH:∀x∈H,x∈G):CT1 c m G V:=⟨h.c,h.m.more (fun _ _ ⟨x,hx,e⟩=>⟨x,hH x hx,e⟩)⟩
theorem CR3(V:World)(m:Nat)(o:Obj):Touch (· =m) V (Go.ChangeMaps.setBlock V m o):=⟨rfl,rfl,rfl,by simp[Go.ChangeMaps.setBlock],fun b _ hn=>by simp only[Go.ChangeMaps.setBlock];rw[Array.getElem?_setIfInBounds_ne (fun e=>hn e.symm)]⟩
theorem CT4{α:Type}[Lay α]{v:Value}{xs:List α}(hp:0<Lay.k α)(h:IL V v xs){es:Array MapEntry}{cl:Nat}(hm:V.heap[m]?=FZ (.map es cl)):xs≠[]->UJ v m:=by
 intro h0 b off n cc e;rcases h with⟨a,cap,_,e0,_⟩|⟨b',off',cap,rfl,_,_,h3,_,h4⟩
 .exact absurd e0 h0
 .simp only[Value.slice.injEq,Option.some.injEq,Addr.mk.injEq]at e;rintro rfl;obtain⟨x,r,rfl⟩:=List.exists_cons_of_ne_nil h0;obtain⟨u,hu⟩:∃u,(Lay.cs x)[0]?=FZ u:=⟨_,List.getElem?_eq_getElem (by rw[Lay.len];exact hp)⟩;have:=h4 (0*Lay.k α+0) _ ((GV (x::r) 0 x rfl 0 (hp)).trans hu);rw[e.1.1]at this;simp[AV,hm]at this
theorem WX.mapb(h:WX V k p){es:Array MapEntry}{cl:Nat}(hm:V.heap[m]?=FZ (.map es cl))(hc:m<k)(ht:Touch (· =m) V U):WX U k p:=by
 obtain⟨f,hb,hr⟩:=h;have he:k≠m:=by omega
 refine⟨f,hb.touch ht he,hr.n,fun i hi=>?_,hr.r,fun i hi=>⟨(hr.c i hi).s,(hr.c i hi).z,(hr.c i hi).e.far ht (CT4 (by decide) (hr.c i hi).e.1 hm)⟩,hr.d.far ht (CT4 (by decide) hr.d.1 hm),hr.h,hr.hk⟩;have s:=hr.s i hi;exact⟨s.up,s.d.far ht (CT4 (by decide) s.d.1 hm),s.id,s.ep,s.l.far ht (CT4 (by decide) s.l.1 hm),s.dn,s.z,s.n.far ht (CT4 (by decide) s.n.1 hm),s.i.far ht (CT4 (by decide) s.i.1 hm),s.w.far ht (CT4 (by decide) s.w.1 hm)⟩
theorem CS2:(prog.info? 52).map (fun i=>(i.zero,i.size))=FZ (FZ (.agg #[.int .i64 0,.int .i64 0,.int .i64 0,.string ⟨#[]⟩,.string ⟨#[]⟩,.int .i64 0,.int .i64 0]),7):=by kernel_rfl
theorem CR4:Go.Maps.Keyed prog 3:=Go.Maps.int_keyed underlying3
theorem CR5{H:List GI}(hp:∀x∈H,KH x.z=true):∀k v,CS8 H k v->∃l,keyOf prog 3 k=FZ l:=fun _ _ ⟨x,hx,e,_⟩=>by
 have:=LX.1 (hp x hx);rw[e];exact⟨_,Go.Maps.keyOf_int_mk underlying3 (WalkArith.wf_i64 (by omega))⟩
theorem Touch.wide{F G:Nat->Prop}{a b:World}(h:Touch F a b)(hFG:∀q,F q->G q):Touch G a b:=⟨h.os,h.tape,h.output,h.size,fun q hq hn=>h.block q hq (fun e=>hn (hFG q e))⟩
structure CS6(c m k:Nat)(q:Pw)(V W:World):Prop where
 t:Touch (CS9 c m) V W
 x:WX W k q
 i:CT1 c m q.H W
theorem CS6.next{q:Pw}(h:CS6 c m k q V W)(hb:Below W.heap.size W U):CS6 c m k q V U:=⟨h.t.trans (Touch.of_below hb),h.x.next hb,h.i.next hb⟩
end
theorem CS0(p:Pw)(d:Dd)(k c m:Nat)(u:Value)(V:World)(h:SH p)(hx:WX V k (doP p d).2)(hu:GZ V (k+1) u (doP p d).1.ns)(hmk:m<k)(hcm:c≠m)(hI:CT1 c m p.H V):
  Calls prog 7 #[wP k,ddV d,rpV (doP p d).1 u,.pointer (FZ ⟨c,0,FX⟩)] V fun e w'=>e=.returned (.bool true)/\Touch (CS9 c m) V w'/\WX w' k (doP p d).2/\CT1 c m (doP p d).2.H w':=by
 have hw:=qY d h;have HI0:=G6 (hI.more (CS1 p d));generalize doP p d=x at*;obtain⟨r,q⟩:=x;simp only at hx hw hu HI0⊢;obtain⟨na,nc,rfl⟩:=IV hu;have B0:=G6 (LB.start V d r (.slice na r.ns.length nc));have CS:=G6 (fun W (hW:WX W k q) b (hb:b<3)=>C93 q k b W hW hb _ rfl ((hw.s b hb).more hw.n1).few);have HH:=G6 (fun b (hb:b<3)=>CR6 hw hb);have HF:=G6 (fun b (hb:b<3)=>(((hw.s b hb).more hw.n1).few (i:=b)).l);have H1:=G6 hw.a.one;have H2:=G6 (fun x (hx:x∈q.H)=>(hw.a.pos x hx).1);have hX:=G6 hx;clear hI hx hw h hu;unfold wP at CS;unfold wP ddV rpV;have hf1:=CM9;have hf2:=CN0;go_enter func7,ntmps7;go_upto_region 1 with fail;have HW0:=G6 (show CS6 c m k q V ((V.alloc _).alloc _)from⟨Touch.of_below (G5 B0).b,(G5 hX).next (G5 B0).b,(G5 HI0).next (G5 B0).b⟩);clear B0 hX HI0;generalize ((V.alloc _).alloc _)=W0 at*;go_wp2_with fail
 go_loopg [8] 3 (fun kx s8 wr=>∃i:Nat,s8=.int .i64 i/\i<=3/\3-i<=kx/\Hid (CS6 c m k q V wr))
 case atStart=>exact⟨0,rfl,by omega,by omega,HW0⟩
 case round=>
  obtain⟨i,rfl,hi,hg,HW⟩:=hrel;clear HW0;by_cases hi3:i<3
  .have hi4:(i:Int)<3:=by omega
   have C:=G6 (G5 CS wr (G5 HW).x i hi3);have HT:=G6 (G5 HH i hi3);have hts:=G5 HF i hi3;generalize svP i (q.s i)=s at*;go_wp2_with fail;refine(G5 C).mono ?_;rintro e w1 ⟨ad,cd,al,cl,an,cn,ai,ci,aw,cw,rfl,_,ol,_,_,_,hb1⟩;have W1:=G6 ((G5 HW).next hb1);have OL:=G6 (ol.lower (C:=k+1) (G5 HW).x.lt);clear hb1 ol C HW;go_wp2_with fail
   go_loopg [23] s.ts.length (fun kx s23 wr=>∃j:Nat,s23=.int .i64 j/\j<=s.ts.length/\s.ts.length-j<=kx/\Hid (CS6 c m k q V wr/\GZ wr (k+1) (.slice al s.ts.length cl) s.ts))
   case atStart=>exact⟨0,rfl,by omega,by omega,G6 ⟨G5 W1,G5 OL⟩⟩
   case round=>
    obtain⟨j,rfl,hj,hgj,HJ⟩:=hrel;clear W1 OL;by_cases hlt:j<s.ts.length
    .have hj4:(j:Int)<(s.ts.length:Int):=by omega
     obtain⟨x,hx⟩:∃x,s.ts[j]?=FZ x:=⟨_,List.getElem?_eq_getElem hlt⟩;have HXH:=G6 (G5 HT x (List.mem_of_getElem? hx));obtain⟨b,off,cap,he,_,_,_,_,_⟩:=nS (G5 HJ).2.seq hx;simp only[Value.slice.injEq,true_and]at he;obtain⟨rfl,rfl⟩:=he;obtain⟨y0,y1,y2,y3,y4,y5,y6⟩:=CS5 (G5 HJ).2.seq hx;clear hx;go_upto_region 7 with fail;have Y1:=TAt.new wr x;have A1:=G7 wr (FT #[.int .i64 x.z,.int .i64 x.o,.int .i64 x.s,.string ⟨x.p.toArray⟩,.string ⟨x.d.toArray⟩,.int .i64 x.v,.int .i64 x.w] 52);have J1:=G6 ((G5 HJ).1.next A1);have O1:=G6 ((G5 HJ).2.next A1);clear A1 HJ y0 y1 y2 y3 y4 y5 y6;generalize wr.alloc _=W3 at*;generalize wr.heap.size=g3 at*;have q0:=Y1.c0;have q1:=Y1.c1;have q2:=Y1.c2;have q3:=Y1.c3;have q4:=Y1.c4;have q5:=Y1.c5;have q6:=Y1.c6;have c0:W3.cell? ⟨c,0,FX⟩=FZ (.map (FZ m)):=by simp[AV,(G5 J1).i.c]
     have hc3:c<W3.heap.size:=(AB.1 (G5 J1).i.c).1;have CT3:=G6 (Go.Maps.keyOf_int_mk underlying3 (WalkArith.wf_i64 (n:=x.z) (by have:=LX.1 (G5 H2 x (G5 HXH));omega)));rcases CR9.look (G5 J1).i.m CR4 underlying23 ((zero_of_info CS2).1 W3) (CR5 (G5 H2)) (G5 CT3)with hr|⟨vy,⟨y,hy,ek,rfl⟩,hr⟩
     ·
      go_upto_region 8 with fail;have A4:=G7 W3 (FT #[.int .i64 0,.int .i64 0,.int .i64 0,.string ⟨#[]⟩,.string ⟨#[]⟩,.int .i64 0,.int .i64 0] 52);have J4:=G6 ((G5 J1).next A4);have O4:=G6 ((G5 O1).next A4);have hg3:g3<W3.heap.size:=Y1.lt;have p0:=(A4.cell (p:=⟨g3,0,FX⟩) hg3).trans q0;have p1:=(A4.cell (p:=⟨g3,1,FX⟩) hg3).trans q1;have p2:=(A4.cell (p:=⟨g3,2,FX⟩) hg3).trans q2;have p3:=(A4.cell (p:=⟨g3,3,FX⟩) hg3).trans q3;have p4:=(A4.cell (p:=⟨g3,4,FX⟩) hg3).trans q4;have p5:=(A4.cell (p:=⟨g3,5,FX⟩) hg3).trans q5;have p6:=(A4.cell (p:=⟨g3,6,FX⟩) hg3).trans q6;have pc:=(A4.cell (p:=⟨c,0,FX⟩) hc3).trans c0;clear A4 J1 O1 hr q0 q1 q2 q3 q4 q5 q6 c0 hg3 hc3;generalize W3.alloc _=W4 at*;generalize W3.heap.size=g4 at*;obtain⟨es0,cl0,hm0,_⟩:=(G5 J4).i.m;obtain⟨es,cl',hr2,hm2⟩:=CR9.put (G5 J4).i.m CR4 underlying23 (CR5 (G5 H2)) (G5 CT3) (show CS8 q.H (.int .i64 x.z) (J7 x)from⟨x,G5 HXH,rfl,rfl⟩);unfold J7 at hr2;have T5:=CR3 W4 m (.map es cl');have HC:=(T5.block c (AB.1 (G5 J4).i.c).1 hcm).trans (G5 J4).i.c;have J5:=G6 (show CS6 c m k q V (Go.ChangeMaps.setBlock W4 m (.map es cl'))from⟨(G5 J4).t.trans (T5.wide (fun b e=>.inr e)),(G5 J4).x.mapb hm0 hmk T5,HC,hm2⟩);have O5:=G6 (CT5 (G5 O4) T5 (by omega:m<k+1));clear T5 HC hm0 hm2 J4 O4;go_wp2_with fail
      go_roundg (s.ts.length-(j+1))
      case measure=>omega
      case rel=>exact⟨j+1,by simp,by omega,Nat.le_refl _,G6 ⟨G5 J5,G5 O5⟩⟩
     .have ez:x.z=y.z:=by simpa using ek
      have exy:=G5 H1 x (G5 HXH) y hy ez;subst exy;unfold J7 at hr;clear ek ez hy;go_upto_region 8 with fail;have A4:=G7 W3 (FT #[.int .i64 x.z,.int .i64 x.o,.int .i64 x.s,.string ⟨x.p.toArray⟩,.string ⟨x.d.toArray⟩,.int .i64 x.v,.int .i64 x.w] 52);have J4:=G6 ((G5 J1).next A4);have O4:=G6 ((G5 O1).next A4);have hg3:g3<W3.heap.size:=Y1.lt;have p0:=(A4.cell (p:=⟨g3,0,FX⟩) hg3).trans q0;have p1:=(A4.cell (p:=⟨g3,1,FX⟩) hg3).trans q1;have p2:=(A4.cell (p:=⟨g3,2,FX⟩) hg3).trans q2;have p3:=(A4.cell (p:=⟨g3,3,FX⟩) hg3).trans q3;have p4:=(A4.cell (p:=⟨g3,4,FX⟩) hg3).trans q4;have p5:=(A4.cell (p:=⟨g3,5,FX⟩) hg3).trans q5;have p6:=(A4.cell (p:=⟨g3,6,FX⟩) hg3).trans q6;have pc:=(A4.cell (p:=⟨c,0,FX⟩) hc3).trans c0;have r0:(W3.alloc (FT #[.int .i64 x.z,.int .i64 x.o,.int .i64 x.s,.string ⟨x.p.toArray⟩,.string ⟨x.d.toArray⟩,.int .i64 x.v,.int .i64 x.w] 52)).cell? ⟨W3.heap.size,0,FX⟩=FZ (.int .i64 x.z):=by simp only[AV,heap_alloc_new];rfl
      have r1:(W3.alloc (FT #[.int .i64 x.z,.int .i64 x.o,.int .i64 x.s,.string ⟨x.p.toArray⟩,.string ⟨x.d.toArray⟩,.int .i64 x.v,.int .i64 x.w] 52)).cell? ⟨W3.heap.size,1,FX⟩=FZ (.int .i64 x.o):=by simp only[AV,heap_alloc_new];rfl
      have r2:(W3.alloc (FT #[.int .i64 x.z,.int .i64 x.o,.int .i64 x.s,.string ⟨x.p.toArray⟩,.string ⟨x.d.toArray⟩,.int .i64 x.v,.int .i64 x.w] 52)).cell? ⟨W3.heap.size,2,FX⟩=FZ (.int .i64 x.s):=by simp only[AV,heap_alloc_new];rfl
      have r3:(W3.alloc (FT #[.int .i64 x.z,.int .i64 x.o,.int .i64 x.s,.string ⟨x.p.toArray⟩,.string ⟨x.d.toArray⟩,.int .i64 x.v,.int .i64 x.w] 52)).cell? ⟨W3.heap.size,3,FX⟩=FZ (.string ⟨x.p.toArray⟩):=by simp only[AV,heap_alloc_new];rfl
      have r4:(W3.alloc (FT #[.int .i64 x.z,.int .i64 x.o,.int .i64 x.s,.string ⟨x.p.toArray⟩,.string ⟨x.d.toArray⟩,.int .i64 x.v,.int .i64 x.w] 52)).cell? ⟨W3.heap.size,4,FX⟩=FZ (.string ⟨x.d.toArray⟩):=by simp only[AV,heap_alloc_new];rfl
      have r5:(W3.alloc (FT #[.int .i64 x.z,.int .i64 x.o,.int .i64 x.s,.string ⟨x.p.toArray⟩,.string ⟨x.d.toArray⟩,.int .i64 x.v,.int .i64 x.w] 52)).cell? ⟨W3.heap.size,5,FX⟩=FZ (.int .i64 x.v):=by simp only[AV,heap_alloc_new];rfl
      have r6:(W3.alloc (FT #[.int .i64 x.z,.int .i64 x.o,.int .i64 x.s,.string ⟨x.p.toArray⟩,.string ⟨x.d.toArray⟩,.int .i64 x.v,.int .i64 x.w] 52)).cell? ⟨W3.heap.size,6,FX⟩=FZ (.int .i64 x.w):=by simp only[AV,heap_alloc_new];rfl
      clear A4 J1 O1 hr q0 q1 q2 q3 q4 q5 q6 c0 hg3 hc3;generalize W3.alloc _=W4 at*;generalize W3.heap.size=g4 at*;obtain⟨es0,cl0,hm0,_⟩:=(G5 J4).i.m;obtain⟨es,cl',hr2,hm2⟩:=CR9.put (G5 J4).i.m CR4 underlying23 (CR5 (G5 H2)) (G5 CT3) (show CS8 q.H (.int .i64 x.z) (J7 x)from⟨x,G5 HXH,rfl,rfl⟩);unfold J7 at hr2;have T5:=CR3 W4 m (.map es cl');have HC:=(T5.block c (AB.1 (G5 J4).i.c).1 hcm).trans (G5 J4).i.c;have J5:=G6 (show CS6 c m k q V (Go.ChangeMaps.setBlock W4 m (.map es cl'))from⟨(G5 J4).t.trans (T5.wide (fun b e=>.inr e)),(G5 J4).x.mapb hm0 hmk T5,HC,hm2⟩);have O5:=G6 (CT5 (G5 O4) T5 (by omega:m<k+1));clear T5 HC hm0 hm2 J4 O4;go_wp2_with fail
      go_roundg (s.ts.length-(j+1))
      case measure=>omega
      case rel=>exact⟨j+1,by simp,by omega,Nat.le_refl _,G6 ⟨G5 J5,G5 O5⟩⟩
    .obtain rfl:j=s.ts.length:=by omega
     have HW2:=G6 (G5 HJ).1;clear HJ;go_wp2_with fail
     go_roundg (3-(i+1))
     case measure=>omega
     case rel=>exact⟨i+1,by simp,by omega,Nat.le_refl _,HW2⟩
  .obtain rfl:i=3:=by omega
   go_wp2_with fail;go_ret;exact⟨rfl,(G5 HW).t,(G5 HW).x,(G5 HW).i⟩
theorem C80(ds:List Dd)(v:Value)(W:World)(hv:IL W v ds)(hm:∀d∈ds,d.q.p.length<=140737488355328/\d.q.d.length<=140737488355328)(hT:dB W):Calls prog 3 #[v] W fun e w'=>e=.returned (.bool true)/\Below W.heap.size W w':=by
 have hg:=B16 hT;have hA:=G8 (G7 W (.map #[] 0)) (G7 _ (FT #[.map (FZ W.heap.size)] 23));have hs2:((W.alloc (.map #[] 0)).alloc (FT #[.map (FZ W.heap.size)] 23)).heap.size=W.heap.size+2:=by simp
 have h1:((W.alloc (.map #[] 0)).alloc (FT #[.map (FZ W.heap.size)] 23)).heap[W.heap.size]?=FZ (.map #[] 0):=((G7 _ _).block _ (by simp)).trans (heap_alloc_new W _);have h2:((W.alloc (.map #[] 0)).alloc (FT #[.map (FZ W.heap.size)] 23)).heap[W.heap.size+1]?=FZ (FT #[.map (FZ W.heap.size)] 23 (0,0)):=by
  have h:=heap_alloc_new (W.alloc (.map #[] 0)) (FT #[.map (FZ W.heap.size)] 23);rwa[show (W.alloc (.map #[] 0)).heap.size=W.heap.size+1 by simp]at h
 have K:CS7 ((W.alloc (.map #[] 0)).alloc (FT #[.map (FZ W.heap.size)] 23)) (CS9 (W.heap.size+1) W.heap.size) (fun k i V=>CT1 (W.heap.size+1) W.heap.size (lI (pw0 k) (ds.take i)).H V):=
  ⟨fun b e=>by rw[hs2];rcases e with rfl|rfl<;>omega,fun e=>by rcases e with e|e<;>omega,fun k i V U h hb=>h.next hb,fun k i V U hk h ht=>by rw[hs2]at hk;exact h.turn ht (by omega) (by omega)⟩
 have hbl:∀V,Touch (CS9 (W.heap.size+1) W.heap.size) ((W.alloc (.map #[] 0)).alloc (FT #[.map (FZ W.heap.size)] 23)) V->Below W.heap.size W V:=fun V hV=>hA.trans (hV.below (by rw[hs2];omega) (fun k e=>by rcases e with e|e<;>omega));have C:=G6 (CR8 K (W.heap.size+1) ds v (fun V hV=>hv.next (hbl V hV)) hm (hT.next hA) (fun k=>⟨h2,#[],0,h1,fun x hx=>by simp at hx⟩)
  (fun k V i d u hd hx hu hk hI=>by
   rw[hs2]at hk;have:=CS0 _ d k (W.heap.size+1) W.heap.size u V (B45 _ _ (nY k)) hx hu (by omega) (by omega) hI;rwa[CK8 (pw0 k) hd]))
 have HB:=G6 hbl;have hmm:= @run_makeMap prog;unfold wP at C;clear hv hm hT hg hA hs2 h1 h2 K hbl;go_enter func3,ntmps3;go_wp2_with fail;refine(G5 C).mono ?_;rintro e V ⟨k,rfl,hp⟩;have HP:=G6 (G5 HB V hp.b);clear hp C HB;go_wp2_with fail;go_ret;exact⟨rfl,G5 HP⟩
