/-
  Part.
-/
import Derived.Test.YtkpojhhfjddegaaGreatDoorLOXWdAb
import Derived.Test.YtkpojhhfjddegaaGreatDoorLOXWdSv
import Derived.Laws.CopyOwn
set_option maxRecDepth 20000
set_option maxHeartbeats 8000000
namespace Go.Proofs.YtkpojhhfjddegaaGreatDoor
open Go.RowKit Go.Proofs.Tryz
open _root_.Nat renaming le_refl->A8,lt_of_lt_of_le->AY,le_trans->BP
open _root_.Array renaming getElem?_eq_getElem->BU
open Go.Value renaming slice->FV
open Go.Obj renaming cells->FW
open Go renaming World->FX,Value->FZ
open _root_.Option renaming some->G7
variable{W V:FX}{c2 c3:Array FZ}
def SvO(W:FX)(B:Nat)(c:Array FZ)(o:Nat)(s:Sv):Prop:=∃ad cd al cl an cn ai ci aw cw,(c[o]?=G7 (.bool s.up)/\c[o+1]?=G7 (FV ad s.fs.length cd)/\c[o+2]?=G7 (I0 s.id)/\c[o+3]?=G7 (I0 s.ep)/\c[o+4]?=G7 (FV al s.ts.length cl)/\c[o+5]?=G7 (I0 s.dn)/\c[o+6]?=G7 (I0 s.tr.z)/\c[o+7]?=G7 (FV an s.tr.ns.length cn)/\c[o+8]?=G7 (FV ai s.tr.ss.length ci)/\c[o+9]?=G7 (FV aw s.ws.length cw))/\H6 W B (FV ad s.fs.length cd) s.fs/\H6 W B (FV al s.ts.length cl) s.ts/\H6 W B (FV an s.tr.ns.length cn) s.tr.ns/\H6 W B (FV ai s.tr.ss.length ci) s.tr.ss/\H6 W B (FV aw s.ws.length cw) s.ws
def ClO(W:FX)(B:Nat)(c:Array FZ)(o:Nat)(x:Cl):Prop:=∃a n,(c[o]?=G7 (I0 x.s)/\c[o+1]?=G7 (I0 x.z)/\c[o+2]?=G7 (FV a x.es.length n))/\H6 W B (FV a x.es.length n) x.es
section
variable {W V:FX} {B C o k:Nat} {c c':Array FZ} {s:Sv} {x:Cl}
theorem U0{α:Type}[Lay α]{v:FZ}{xs:List α}(h:H6 W B v xs)(ht:Touch (· =k) W V)(hk:k<B):H6 V B v xs:=KF h ht (fun b e hb=>by have:=Q8 h e;omega)
theorem SvO.mono(h:SvO W B c o s)(hr:∀ {α:Type} [Lay α] {v9:FZ} {xs:List α},H6 W B v9 xs->H6 V C v9 xs)(hc:∀j,j<10->c'[o+j]?=c[o+j]?):SvO V C c' o s:=by
 obtain⟨ad,cd,al,cl,an,cn,ai,ci,aw,cw,⟨c0,c1,c2,c3,c4,c5,c6,c7,c8,c9⟩,r0,r1,r2,r3,r4⟩:=h;exact⟨ad,cd,al,cl,an,cn,ai,ci,aw,cw,⟨(hc 0 (by omega)).trans c0,(hc 1 (by omega)).trans c1,(hc 2 (by omega)).trans c2,(hc 3 (by omega)).trans c3,(hc 4 (by omega)).trans c4,(hc 5 (by omega)).trans c5,(hc 6 (by omega)).trans c6,(hc 7 (by omega)).trans c7,(hc 8 (by omega)).trans c8,(hc 9 (by omega)).trans c9⟩,hr r0,hr r1,hr r2,hr r3,hr r4⟩
theorem ClO.mono(h:ClO W B c o x)(hr:∀ {v9:FZ},H6 W B v9 x.es->H6 V C v9 x.es)(hc:∀j,j<3->c'[o+j]?=c[o+j]?):ClO V C c' o x:=by
 obtain⟨a,n,⟨c0,c1,c2⟩,r0⟩:=h;exact⟨a,n,⟨(hc 0 (by omega)).trans c0,(hc 1 (by omega)).trans c1,(hc 2 (by omega)).trans c2⟩,hr r0⟩
theorem SvO.next(h:SvO W B c o s)(hb:B0 W V):SvO V B c o s:=h.mono (fun r=>r.next hb) (fun _ _=>rfl)
theorem ClO.next(h:ClO W B c o x)(hb:B0 W V):ClO V B c o x:=h.mono (fun r=>r.next hb) (fun _ _=>rfl)
theorem SvO.touch(h:SvO W B c o s)(ht:Touch (· =k) W V)(hk:k<B):SvO V B c o s:=h.mono (fun r=>U0 r ht hk) (fun _ _=>rfl)
theorem ClO.touch(h:ClO W B c o x)(ht:Touch (· =k) W V)(hk:k<B):ClO V B c o x:=h.mono (fun r=>U0 r ht hk) (fun _ _=>rfl)
end
structure ALL(W V:FX)(c0 c1 c2 c3:Array FZ):Prop where
 r:AB 56 30 V W.heap.size c0
 q:AB 57 48 V (W.heap.size+1) c1
 s:AB 56 30 V (W.heap.size+2) c2
 c:AB 57 48 V (W.heap.size+3) c3
 bl:B0 W V
theorem ALL.next{U:FX}{c0 c1:Array FZ}(h:ALL W V c0 c1 c2 c3)(hb:B0 V U):ALL W U c0 c1 c2 c3:=⟨h.r.next hb,h.q.next hb,h.s.next hb,h.c.next hb,GI h.bl hb⟩
theorem ALL.start(W:FX):ALL W ((((W.alloc (FW SH 56)).alloc (FW UQ 57)).alloc (FW SH 56)).alloc (FW UQ 57)) SH UQ SH UQ:=by
 have h1:=AB.new (W.alloc (FW SH 56)) UQ 57 TY;have h2:=AB.new ((W.alloc (FW SH 56)).alloc (FW UQ 57)) SH 56 TW;have h3:=AB.new (((W.alloc (FW SH 56)).alloc (FW UQ 57)).alloc (FW SH 56)) UQ 57 TY;rw[show (W.alloc (FW SH 56)).heap.size=W.heap.size+1 by simp]at h1;rw[show ((W.alloc (FW SH 56)).alloc (FW UQ 57)).heap.size=W.heap.size+2 by simp]at h2;rw[show (((W.alloc (FW SH 56)).alloc (FW UQ 57)).alloc (FW SH 56)).heap.size=W.heap.size+3 by simp]at h3;exact⟨((((AB.new W SH 56 TW).next (GH _ _)).next (GH _ _)).next (GH _ _)),(h1.next (GH _ _)).next (GH _ _),h2.next (GH _ _),h3,GI (GI (GI (GH _ _) (GH _ _)) (GH _ _)) (GH _ _)⟩
theorem CC7{W V:FX}{c2 c3:Array FZ}{i:Nat}{p:Pw}{s:Sv}{ad al an ai aw:Option Addr}{cd cl cn ci cw:Nat}(hi:i<3)(hs:svP i (p.s i)=s)(h:ALL W V SH UQ c2 c3)(h1:c2.all (·.oneCell')=true)(hm:∀m,m<i->SvO V (W.heap.size+4) c2 (m*10) (svP m (p.s m)))
  (o0:H6 V (W.heap.size+4) (FV ad s.fs.length cd) s.fs) (o1:H6 V (W.heap.size+4) (FV al s.ts.length cl) s.ts) (o2:H6 V (W.heap.size+4) (FV an s.tr.ns.length cn) s.tr.ns) (o3:H6 V (W.heap.size+4) (FV ai s.tr.ss.length ci) s.tr.ss) (o4:H6 V (W.heap.size+4) (FV aw s.ws.length cw) s.ws):
  ALL W (qE V (W.heap.size+2) (i*10) (.bool s.up) (FV ad s.fs.length cd) (I0 s.id) (I0 s.ep) (FV al s.ts.length cl) (I0 s.dn) (I0 s.tr.z) (FV an s.tr.ns.length cn) (FV ai s.tr.ss.length ci) (FV aw s.ws.length cw)) SH UQ (RP c2 (i*10) (.bool s.up) (FV ad s.fs.length cd) (I0 s.id) (I0 s.ep) (FV al s.ts.length cl) (I0 s.dn) (I0 s.tr.z) (FV an s.tr.ns.length cn) (FV ai s.tr.ss.length ci) (FV aw s.ws.length cw)) c3/\(RP c2 (i*10) (.bool s.up) (FV ad s.fs.length cd) (I0 s.id) (I0 s.ep) (FV al s.ts.length cl) (I0 s.dn) (I0 s.tr.z) (FV an s.tr.ns.length cn) (FV ai s.tr.ss.length ci) (FV aw s.ws.length cw)).all (·.oneCell')=true/\∀m,m<i+1->SvO (qE V (W.heap.size+2) (i*10) (.bool s.up) (FV ad s.fs.length cd) (I0 s.id) (I0 s.ep) (FV al s.ts.length cl) (I0 s.dn) (I0 s.tr.z) (FV an s.tr.ns.length cn) (FV ai s.tr.ss.length ci) (FV aw s.ws.length cw)) (W.heap.size+4) (RP c2 (i*10) (.bool s.up) (FV ad s.fs.length cd) (I0 s.id) (I0 s.ep) (FV al s.ts.length cl) (I0 s.dn) (I0 s.tr.z) (FV an s.tr.ns.length cn) (FV ai s.tr.ss.length ci) (FV aw s.ws.length cw)) (m*10) (svP m (p.s m)):=by
 have ht:=WR V (W.heap.size+2) (i*10) (.bool s.up) (FV ad s.fs.length cd) (I0 s.id) (I0 s.ep) (FV al s.ts.length cl) (I0 s.dn) (I0 s.tr.z) (FV an s.tr.ns.length cn) (FV ai s.tr.ss.length ci) (FV aw s.ws.length cw);have hn:=h.s.n;have hk:W.heap.size+2<W.heap.size+4:=by omega
 refine⟨⟨h.r.touch ht (by omega),h.q.touch ht (by omega),h.s.OU _ _ _ _ _ _ _ _ _ _ _,h.c.touch ht (by omega),⟨ht.os.trans h.bl.os,ht.tape.trans h.bl.tape,ht.output.trans h.bl.output,BP h.bl.size ht.size,fun b hb=>(ht.block b (AY hb h.bl.size) (by omega)).trans (h.bl.block b hb)⟩⟩,?_,fun m hm'=>?_⟩
 .exact QO (QO (QO (QO (QO (QO (QO (QO (QO (QO h1 rfl _) rfl _) rfl _) rfl _) rfl _) rfl _) rfl _) rfl _) rfl _) rfl _
 .by_cases e:m=i
  .subst e;rw[hs];exact⟨ad,cd,al,cl,an,cn,ai,ci,aw,cw,BA0 _ _ _ _ _ _ _ _ _ _ (by omega),U0 o0 ht hk,U0 o1 ht hk,U0 o2 ht hk,U0 o3 ht hk,U0 o4 ht hk⟩
  .exact(hm m (by omega)).mono (fun r=>U0 r ht hk) (fun j hj=>B99 (by omega))
theorem CP8{i:Nat}{p:Pw}{x:Cl}{a:Option Addr}{n:Nat}(hi:i<16)(hx:p.c i=x)(h:ALL W V SH UQ c2 c3)(h1:c3.all (·.oneCell')=true)(hs:∀m,m<3->SvO V (W.heap.size+4) c2 (m*10) (svP m (p.s m)))(hm:∀m,m<i->ClO V (W.heap.size+4) c3 (m*3) (p.c m))(o0:H6 V (W.heap.size+4) (FV a x.es.length n) x.es):
  ALL W (jF V (W.heap.size+3) (i*3) (I0 x.s) (I0 x.z) (FV a x.es.length n)) SH UQ c2 (o7 c3 (i*3) (I0 x.s) (I0 x.z) (FV a x.es.length n))/\(o7 c3 (i*3) (I0 x.s) (I0 x.z) (FV a x.es.length n)).all (·.oneCell')=true/\(∀m,m<3->SvO (jF V (W.heap.size+3) (i*3) (I0 x.s) (I0 x.z) (FV a x.es.length n)) (W.heap.size+4) c2 (m*10) (svP m (p.s m)))/\∀m,m<i+1->ClO (jF V (W.heap.size+3) (i*3) (I0 x.s) (I0 x.z) (FV a x.es.length n)) (W.heap.size+4) (o7 c3 (i*3) (I0 x.s) (I0 x.z) (FV a x.es.length n)) (m*3) (p.c m):=by
 have ht:=SE V (W.heap.size+3) (i*3) (I0 x.s) (I0 x.z) (FV a x.es.length n);have hn:=h.c.n;have hk:W.heap.size+3<W.heap.size+4:=by omega
 refine⟨⟨h.r.touch ht (by omega),h.q.touch ht (by omega),h.s.touch ht (by omega),h.c.put3 _ _ _ _,⟨ht.os.trans h.bl.os,ht.tape.trans h.bl.tape,ht.output.trans h.bl.output,BP h.bl.size ht.size,fun b hb=>(ht.block b (AY hb h.bl.size) (by omega)).trans (h.bl.block b hb)⟩⟩,QO (QO (QO h1 rfl _) rfl _) rfl _,fun m hm'=>(hs m hm').touch ht hk,fun m hm'=>?_⟩;by_cases e:m=i
 .subst e;rw[hx];exact⟨a,n,BT0 _ _ _ (by omega),U0 o0 ht hk⟩
 .exact(hm m (by omega)).mono (fun r=>U0 r ht hk) (fun j hj=>BS9 (by omega))
structure BH2(B:Nat)(W:FX)(p:Pw)(c1 c2:Array FZ):Prop where
 n1:c1.size=30
 n2:c2.size=48
 o1:c1.all (·.oneCell')=true
 o2:c2.all (·.oneCell')=true
 s:∀m,m<3->SvO W B c1 (m*10) (svP m (p.s m))
 c:∀m,m<16->ClO W B c2 (m*3) (p.c m)
section
variable {W V:FX} {B k:Nat} {p:Pw} {c1 c2:Array FZ}
theorem BH2.next(h:BH2 B W p c1 c2)(hb:B0 W V):BH2 B V p c1 c2:=⟨h.n1,h.n2,h.o1,h.o2,fun m hm=>(h.s m hm).next hb,fun m hm=>(h.c m hm).next hb⟩
theorem BH2.touch(h:BH2 B W p c1 c2)(ht:Touch (· =k) W V)(hk:k<B):BH2 B V p c1 c2:=⟨h.n1,h.n2,h.o1,h.o2,fun m hm=>(h.s m hm).touch ht hk,fun m hm=>(h.c m hm).touch ht hk⟩
end
theorem A76{fn:Func}{tmps:Array FZ}{U:FX}{a b:Nat}{S T:TypeId}{x y:Addr}{v0 v1:FZ}(hfn:fn.results=#[.cell a S,.cell b T])(h2:tmps[a]?.getD undef=.pointer (G7 x))(h3:tmps[b]?.getD undef=.pointer (G7 y))(hl0:(loadVar S x).run prog U=.ok v0 U)(hl1:(loadVar T y).run prog U=.ok v1 U):(results fn tmps).run prog U=.ok (.tuple #[v0,v1]) U:=by
 unfold results;rw[hfn];simp[h2,h3,asAddr,hl0,hl1,Sem.run_bind,Result.andThen,List.mapM_toArray]
theorem C21{c:Prop}[Decidable c]{A B:Prop}(h:c)(ha:A):if c then A else B:=by rw[if_pos h];exact ha
theorem CC8{w:FX}{p:Pw}(n2:c2.size=30)(n3:c3.size=48)(o2:c2.all (·.oneCell')=true)(o3:c3.all (·.oneCell')=true)(hs:∀m,m<3->SvO W (w.heap.size+4) c2 (m*10) (svP m (p.s m)))(hc:∀m,m<16->ClO W (w.heap.size+4) c3 (m*3) (p.c m))(ht:Touch (fun b=>b=w.heap.size\/b=w.heap.size+1) W V):BH2 w.heap.size V p c2 c3:=by
 have hr:∀ {α:Type} [Lay α] {v:FZ} {xs:List α},H6 W (w.heap.size+4) v xs->H6 V w.heap.size v xs:=fun r=>(KF r ht (fun b e hb=>by have:=Q8 r e;omega)).lower (Nat.le_add_right _ _);exact⟨n2,n3,o2,o3,fun m hm=>(hs m hm).mono hr (fun _ _=>rfl),fun m hm=>(hc m hm).mono hr (fun _ _=>rfl)⟩
theorem A77(p:Pw)(k:Nat)(W:FX)(hx:WX W k p)(hw:QE p):
  Calls prog 10 #[wP k] W fun e w'=>∃c1 c2,e=.returned (.tuple #[.agg c1,.agg c2])/\BH2 W.heap.size w' p c1 c2/\B0 W w':=by
 have CS:=G9 (fun V (hV:B0 W V) b (hb:b<3) s (hs:svP b (p.s b)=s)=>AR8 p k b V (hx.next hV) hb s hs (by rw[<-hs];exact((hw.s b hb).more hw.n1).few));have CC:=G9 (fun V (hV:B0 W V) b (hb:b<16) x (he:p.c b=x)=>fQ p k b V (hx.next hV) hb x he (by rw[<-he];have h1:=(hw.c b hb).len;have h2:=hw.n1;omega));have H0:=G9 (ALL.start W);have hz1:=BT1;have hz2:=BT2;clear hx hw;unfold wP at CS CC⊢;go_enter func10,ntmps10;go_upto_region 3 with(first|refine NU rfl rfl ?_|refine NV rfl rfl ?_);generalize ((((W.alloc _).alloc _).alloc _).alloc _)=W1 at*;go_wp2_with fail
 go_loopg [6] 3 (fun kx s6 wr=>∃ (i:Nat) (c2:Array FZ),s6=I0 i/\i<=3/\3-i<=kx/\Hid (ALL W wr SH UQ c2 UQ/\c2.all (·.oneCell')=true/\∀m,m<i->SvO wr (W.heap.size+4) c2 (m*10) (svP m (p.s m))))
 case atStart=>exact⟨0,SH,rfl,by omega,by omega,G9 ⟨G8 H0,hz1,fun m hm=>by omega⟩⟩
 case round=>
  obtain⟨i,c2,rfl,hi,hg,HA⟩:=hrel;clear H0;by_cases hi3:i<3
  .have hi4:(i:Int)<3:=by omega
   generalize hsv:svP i (p.s i)=s;have C:=G9 (G8 CS _ (G8 HA).1.bl i hi3 s hsv);have HV:=G9 hsv;clear hsv;go_wp2_with fail;refine(G8 C).mono ?_;rintro e w1 ⟨ad,cd,al,cl,an,cn,ai,ci,aw,cw,rfl,o0,o1,o2,o3,o4,hb1⟩;have hz:W.heap.size+4<=wr.heap.size:=(G8 HA).1.c.lt;have A1:=(G8 HA).1.next hb1;have HN:=G9 (CC7 hi3 (G8 HV) A1 (G8 HA).2.1 (fun m hm=>((G8 HA).2.2 m hm).next hb1) (o0.lower hz) (o1.lower hz) (o2.lower hz) (o3.lower hz) (o4.lower hz));unfold qE at HN;have hn:=A1.s.n;obtain⟨u0,h0⟩:∃u,c2[i*10]?=G7 u:=⟨_,BU (by omega)⟩;have x0:=(A1.s.cell (i*10)).trans h0;have z0:=A1.s.GX (i*10);obtain⟨u1,h1⟩:∃u,c2[i*10+1]?=G7 u:=⟨_,BU (by omega)⟩;have x1:=(A1.s.cell (i*10+1)).trans h1;have z1:=A1.s.GX (i*10+1);obtain⟨u2,h2⟩:∃u,c2[i*10+2]?=G7 u:=⟨_,BU (by omega)⟩;have x2:=(A1.s.cell (i*10+2)).trans h2;have z2:=A1.s.GX (i*10+2);obtain⟨u3,h3⟩:∃u,c2[i*10+3]?=G7 u:=⟨_,BU (by omega)⟩;have x3:=(A1.s.cell (i*10+3)).trans h3;have z3:=A1.s.GX (i*10+3);obtain⟨u4,h4⟩:∃u,c2[i*10+4]?=G7 u:=⟨_,BU (by omega)⟩;have x4:=(A1.s.cell (i*10+4)).trans h4;have z4:=A1.s.GX (i*10+4);obtain⟨u5,h5⟩:∃u,c2[i*10+5]?=G7 u:=⟨_,BU (by omega)⟩;have x5:=(A1.s.cell (i*10+5)).trans h5;have z5:=A1.s.GX (i*10+5);obtain⟨u6,h6⟩:∃u,c2[i*10+6]?=G7 u:=⟨_,BU (by omega)⟩;have x6:=(A1.s.cell (i*10+6)).trans h6;have z6:=A1.s.GX (i*10+6);obtain⟨u7,h7⟩:∃u,c2[i*10+7]?=G7 u:=⟨_,BU (by omega)⟩;have x7:=(A1.s.cell (i*10+7)).trans h7;have z7:=A1.s.GX (i*10+7);obtain⟨u8,h8⟩:∃u,c2[i*10+8]?=G7 u:=⟨_,BU (by omega)⟩;have x8:=(A1.s.cell (i*10+8)).trans h8;have z8:=A1.s.GX (i*10+8);obtain⟨u9,h9⟩:∃u,c2[i*10+9]?=G7 u:=⟨_,BU (by omega)⟩;have x9:=(A1.s.cell (i*10+9)).trans h9;have z9:=A1.s.GX (i*10+9);clear o0 o1 o2 o3 o4 hb1 A1 C HA HV h0 h1 h2 h3 h4 h5 h6 h7 h8 h9;go_wp2_with fail
   go_roundg (3-(i+1))
   case measure=>omega
   case rel=>exact⟨i+1,_,by simp,by omega,A8 _,HN⟩
  .obtain rfl:i=3:=by omega
   go_wp2_with fail
   go_loopg [7] 16 (fun kx s7 wr=>∃ (i:Nat) (c3:Array FZ),s7=I0 i/\i<=16/\16-i<=kx/\Hid (ALL W wr SH UQ c2 c3/\c3.all (·.oneCell')=true/\(∀m,m<3->SvO wr (W.heap.size+4) c2 (m*10) (svP m (p.s m)))/\∀m,m<i->ClO wr (W.heap.size+4) c3 (m*3) (p.c m)))
   case atStart=>exact⟨0,UQ,rfl,by omega,by omega,G9 ⟨(G8 HA).1,hz2,(G8 HA).2.2,fun m hm=>by omega⟩⟩
   case round=>
    obtain⟨i,c3,rfl,hi,hg,HB⟩:=hrel;by_cases hi3:i<16
    .have hi4:(i:Int)<16:=by omega
     generalize hxv:p.c i=x;have C:=G9 (G8 CC _ (G8 HB).1.bl i hi3 x hxv);have HV:=G9 hxv;clear hxv;go_wp2_with fail;refine(G8 C).mono ?_;rintro e w1 ⟨a,n,rfl,o0,hb1⟩;have hz:W.heap.size+4<=wr.heap.size:=(G8 HB).1.c.lt;have A1:=(G8 HB).1.next hb1;have HN:=G9 (CP8 hi3 (G8 HV) A1 (G8 HB).2.1 (fun m hm=>((G8 HB).2.2.1 m hm).next hb1) (fun m hm=>((G8 HB).2.2.2 m hm).next hb1) (o0.lower hz));unfold jF at HN;have hn:=A1.c.n;obtain⟨u0,h0⟩:∃u,c3[i*3]?=G7 u:=⟨_,BU (by omega)⟩;have x0:=(A1.c.cell (i*3)).trans h0;have z0:=A1.c.GX (i*3);obtain⟨u1,h1⟩:∃u,c3[i*3+1]?=G7 u:=⟨_,BU (by omega)⟩;have x1:=(A1.c.cell (i*3+1)).trans h1;have z1:=A1.c.GX (i*3+1);obtain⟨u2,h2⟩:∃u,c3[i*3+2]?=G7 u:=⟨_,BU (by omega)⟩;have x2:=(A1.c.cell (i*3+2)).trans h2;have z2:=A1.c.GX (i*3+2);clear o0 hb1 A1 C HB HV h0 h1 h2;go_wp2_with fail
     go_roundg (16-(i+1))
     case measure=>omega
     case rel=>exact⟨i+1,_,by simp,by omega,A8 _,HN⟩
    .obtain rfl:i=16:=by omega
     have HH1:=(G8 HA).2.1;have HH2:=(G8 HB).2.1;clear HA;go_upto_region 11 with fail;have n2:=(G8 HB).1.s.n;have n3:=(G8 HB).1.c.n;have HD:=G9 (G8 HB).2;have HA:=G9 (G8 HB).1;clear HB CS CC;have hS0:wr.drew.heap[W.heap.size+2]?=G7 (FW c2 56 (0,0))/\wr.drew.heap[W.heap.size+3]?=G7 (FW c3 57 (0,0)):=⟨(G8 HA).s.b,(G8 HA).c.b⟩;refine wp_region_held (S:=fun V:FX=>V.heap[W.heap.size+2]?=G7 (FW c2 56 (0,0))/\V.heap[W.heap.size+3]?=G7 (FW c3 57 (0,0))) (by kernel_rfl) ?_;change wpAnyH _ _ _ _ _ _ _ _ wr.drew;refine tkH 0 hS0 ?_ (hy:=fun w hw=>CB3 _ rfl _ _ rfl hw.1 n2);refine tkH 1 hS0 ?_ (hy:=fun w hw=>CB6 _ rfl _ _ rfl hw.2 n3);have b0:wr.drew.heap[W.heap.size]?=G7 (FW SH 56 (0,0)):=(G8 HA).r.b;have b1:wr.drew.heap[W.heap.size+1]?=G7 (FW UQ 57 (0,0)):=(G8 HA).q.b;have hS1:(wr.drew.setRow W.heap.size c2).heap[W.heap.size+2]?=G7 (FW c2 56 (0,0))/\(wr.drew.setRow W.heap.size c2).heap[W.heap.size+3]?=G7 (FW c3 57 (0,0)):=⟨(setRow_other _ _ _ _ (by omega)).trans hS0.1,(setRow_other _ _ _ _ (by omega)).trans hS0.2⟩;refine rd1 2 (fun K hK=>?_);refine C21 (by rfl) ?_;refine wp_store_row _ _ _ rfl W.heap.size c2 rfl rfl _ SH b0 (BA1 n2) (TW.trans n2.symm) HH1 ?_;refine nxH hK hS1 ?_;clear hK K;have b2:(wr.drew.setRow W.heap.size c2).heap[W.heap.size+1]?=G7 (FW UQ 57 (0,0)):=(setRow_other _ _ _ _ (by omega)).trans b1;have hS2:((wr.drew.setRow W.heap.size c2).setRow (W.heap.size+1) c3).heap[W.heap.size+2]?=G7 (FW c2 56 (0,0))/\((wr.drew.setRow W.heap.size c2).setRow (W.heap.size+1) c3).heap[W.heap.size+3]?=G7 (FW c3 57 (0,0)):=⟨(setRow_other _ _ _ _ (by omega)).trans hS1.1,(setRow_other _ _ _ _ (by omega)).trans hS1.2⟩;refine rd1 3 (fun K hK=>?_);refine C21 (by rfl) ?_;refine wp_store_row _ _ _ rfl (W.heap.size+1) c3 rfl rfl _ UQ b2 (BA2 n3) (TY.trans n3.symm) HH2 ?_;refine nxH hK hS2 ?_;clear hK K;refine wpAnyH_done (by kernel_rfl) ?_ _;have f0:((wr.drew.setRow W.heap.size c2).setRow (W.heap.size+1) c3).heap[W.heap.size]?=G7 (FW c2 56 (0,0)):=(setRow_other _ _ _ _ (by omega)).trans (setRow_heap _ _ _ _ _ _ b0);have f1:((wr.drew.setRow W.heap.size c2).setRow (W.heap.size+1) c3).heap[W.heap.size+1]?=G7 (FW c3 57 (0,0)):=setRow_heap _ _ _ _ _ _ b2;have HBL:=below_setRow (below_setRow (G8 HA).bl.drew (A8 _) c2) (Nat.le_succ _) c3;have ht:Touch (fun b=>b=W.heap.size\/b=W.heap.size+1) wr ((wr.drew.setRow W.heap.size c2).setRow (W.heap.size+1) c3):=⟨rfl,rfl,rfl,by simp,fun b hb hn=>(setRow_other _ _ _ _ (by omega)).trans (setRow_other _ _ _ _ (by omega))⟩;have HF:=CC8 (p:=p) n2 n3 HH1 HH2 (G8 HD).2.1 (G8 HD).2.2 ht;clear HA HD hS0 hS1 hS2 b0 b1 b2 HH1 HH2 ht;generalize ((wr.drew.setRow W.heap.size c2).setRow (W.heap.size+1) c3)=U at*;go_wp2_with fail;exact bodyPost_ret (v:=.tuple #[.agg c2,.agg c3]) (A76 rfl rfl rfl (AG3 _ _ _ f0 n2) (AG4 _ _ _ f1 n3)) rfl ⟨c2,c3,rfl,HF,HBL⟩
