/-
  Part.
-/
import Derived.Test.YtppjdeblncincaaGreatDoorLOP
import Derived.Lib.ConvBytes
import Derived.Laws.EntriesVeiled
set_option maxRecDepth 20000
set_option maxHeartbeats 8000000
namespace Go.Proofs.YtppjdeblncincaaGreatDoor
open Go.RowKit Go.Proofs.Tryz
open _root_.Array renaming getElem?_eq_some_iff->AL
open Go.Value renaming slice->FU
open Go.Obj renaming cells->FV
open Go renaming World->FW,Value->FX,Calls->FZ
open _root_.Option renaming none->G5,some->G6
variable{W w V:FW}{t:Tr}{x:GN}{q:Nat}{z:Int}{vn vs:FX}
theorem GZ.raise{α:Type}[Lay α]{B:Nat}{v:FX}{xs:List α}(h:GZ W 0 v xs)(hb:∀k,v.ownBlock=G6 k->B<=k):GZ W B v xs:=by
 rcases h with h|⟨g,cap,rfl,_,h⟩
 .exact .inl h
 .exact .inr ⟨g,cap,rfl,hb g rfl,h⟩
def bK(w:FW)(t:Tr)(x:GN)(e:Ending)(w':FW):Prop:=
 ∃vn vs ve,e=.returned (.tuple #[.agg #[I0 (jI t x).z,vn,vs],ve,I0 (YS t x)])/\GZ w' w.heap.size vn (jI t x).ns/\GZ w' w.heap.size vs (jI t x).ss/\GZ w' w.heap.size ve (YX t x)/\B0 w w'
theorem AB0{w':FW}{E:Int}{e:Ending}(hE:YS t x=E)(h0:E≠0)(he:e=.returned (.tuple #[.agg #[I0 0,N0,N0],N0,I0 E]))(hb:B0 w w'):bK w t x e w':=by
 have h1:jI t x=tr0:=by rw[jI,if_neg (by omega)]
 have h2:YX t x=[]:=by rw[YX,if_neg (by omega)]
 refine⟨N0,N0,N0,?_,?_,?_,?_,hb⟩
 .rw[hE,h1];exact he
 .rw[h1];exact .inl ⟨rfl,rfl⟩
 .rw[h1];exact .inl ⟨rfl,rfl⟩
 .rw[h2];exact .inl ⟨rfl,rfl⟩
structure yR(W:FW)(q:Nat)(z:Int)(vn vs:FX)(x:GN):Prop where
 t:W.heap[q]?=G6 (FV #[I0 z,vn,vs] 37 (0,0))
 x:TAt W (q+1) x
 r:W.heap[q+2]?=G6 (FV #[I0 0,N0,N0] 37 (0,0))
theorem yR.new(w:FW)(z:Int)(vn vs:FX)(x:GN):yR (((w.alloc (FV #[I0 z,vn,vs] 37)).alloc (FV #[I0 x.z,I0 x.o,I0 x.s,S0 x.p,S0 x.d,I0 x.v,I0 x.w] 79)).alloc (FV #[I0 0,N0,N0] 37)) w.heap.size z vn vs x:=by
 refine⟨?_,?_,?_⟩
 .rw[(G9 _ _).block _ (by simp;omega),(G9 _ _).block _ (by simp)];exact heap_alloc_new w _
 .have h:=(TAt.new (w.alloc (FV #[I0 z,vn,vs] 37)) x).next (G9 _ (FV #[I0 0,N0,N0] 37));simpa using h
 .have h:=heap_alloc_new ((w.alloc (FV #[I0 z,vn,vs] 37)).alloc (FV #[I0 x.z,I0 x.o,I0 x.s,S0 x.p,S0 x.d,I0 x.v,I0 x.w] 79)) (FV #[I0 0,N0,N0] 37);rw[show ((w.alloc (FV #[I0 z,vn,vs] 37)).alloc (FV #[I0 x.z,I0 x.o,I0 x.s,S0 x.p,S0 x.d,I0 x.v,I0 x.w] 79)).heap.size=w.heap.size+2 by simp]at h;exact h
theorem yR.lt(h:yR W q z vn vs x):q+2<W.heap.size:=(AL.1 h.r).1
theorem yR.touch{F:Nat->Prop}(h:yR W q z vn vs x)(ht:Touch F W V)(hf:∀k,F k->q+3<=k):yR V q z vn vs x:=by
 have:=h.lt;have n0:∀k,k<q+3->¬F k:=fun k hk hF=>by have:=hf k hF;omega
 exact⟨(ht.block _ (by omega) (n0 _ (by omega))).trans h.t,(ht.block _ (by omega) (n0 _ (by omega))).trans h.x,(ht.block _ (by omega) (n0 _ (by omega))).trans h.r⟩
theorem yR.next(h:yR W q z vn vs x)(hb:B0 W V):yR V q z vn vs x:=h.touch (F:=fun _=>False) (Touch.of_below hb) (fun _ hF=>hF.elim)
theorem yR.cells(h:yR W q z vn vs x):W.cell? ⟨q,0,G5⟩=G6 (I0 z)/\W.cell? ⟨q,1,G5⟩=G6 vn/\W.cell? ⟨q,2,G5⟩=G6 vs/\W.cell? ⟨q+2,0,G5⟩=G6 (I0 0)/\W.cell? ⟨q+2,1,G5⟩=G6 (N0)/\W.cell? ⟨q+2,2,G5⟩=G6 (N0)/\W.frozen? ⟨q+2,0,G5⟩=false/\W.frozen? ⟨q+2,1,G5⟩=false/\W.frozen? ⟨q+2,2,G5⟩=false:=by
 have h1:=h.t;have h2:=h.r;refine⟨?_,?_,?_,?_,?_,?_,?_,?_,?_⟩<;>simp[World.cell?,World.frozen?,h1,h2]
theorem B23(t:Tr)(vn vs:FX)(x:GN)(w:FW)(hn:IL w vn t.ns)(hs:IL w vs t.ss)(hw:WfT t)(hd:x.d.length<=140737488355328)(ha:WJ t x≠0):
  FZ prog 118 #[.agg #[I0 t.z,vn,vs],J9 x] w (bK w t x):=by
 have CA:=G8 (fun W (hW:B0 w W)=>wI t vn vs x W (hn.next hW) (hs.next hW) hw hd);have FIN:=G8 (fun w' e h hb=>AB0 (w:=w) (w':=w') (e:=e) (BL4 ha) ha h hb);have hab:(WJ t x !=0)=true:=by simpa using ha
 obtain⟨na,nc,rfl⟩:=GK hn;obtain⟨sa,sc,rfl⟩:=GK hs;clear hn hs hw ha;generalize WJ t x=E at hab CA FIN;generalize hQ:bK w t x=Q at FIN⊢;clear hQ;obtain⟨xz,xo,xs,xp,xd,xv,xw⟩:=x;unfold J9 at*;simp only at*;have KB:∀W,Below (((w.alloc (FV #[I0 t.z,FU na t.ns.length nc,FU sa t.ss.length sc] 37)).alloc (FV #[I0 xz,I0 xo,I0 xs,S0 xp,S0 xd,I0 xv,I0 xw] 79)).alloc (FV #[I0 0,N0,N0] 37)).heap.size (((w.alloc (FV #[I0 t.z,FU na t.ns.length nc,FU sa t.ss.length sc] 37)).alloc (FV #[I0 xz,I0 xo,I0 xs,S0 xp,S0 xd,I0 xv,I0 xw] 79)).alloc (FV #[I0 0,N0,N0] 37)) W->yR W w.heap.size t.z (FU na t.ns.length nc) (FU sa t.ss.length sc) ⟨xz,xo,xs,xp,xd,xv,xw⟩/\B0 w W:=fun W h=>⟨(yR.new w _ _ _ ⟨xz,xo,xs,xp,xd,xv,xw⟩).next h,GX (GX (GX h))⟩;have HKB:=G8 KB;clear KB;go_enter func118,ntmps118;go_wp2_with fail;refine(G7 CA _ (GH (GH (G9 _ _) (G9 _ _)) (G9 _ _))).mono ?_;rintro e w1 ⟨rfl,hb1⟩;obtain⟨b1,B1⟩:=G7 HKB w1 hb1;obtain⟨k0,k1,k2,k3,k4,k5,k6,k7,k8⟩:=b1.cells;have j0:=b1.x.c0;have j1:=b1.x.c1;have j2:=b1.x.c2;have j3:=b1.x.c3;have j4:=b1.x.c4;have j5:=b1.x.c5;have j6:=b1.x.c6;have HB1:=G8 B1;have HX1:=G8 b1;clear hb1 b1 B1;go_wp2_with fail;exact bodyPost_ret (v:=.tuple #[.agg #[I0 0,N0,N0],N0,I0 E]) (by simp[results,results118,go_sem,k3,k4,k5]) rfl (G7 FIN _ _ rfl ((((G7 HB1).setCell (by show w.heap.size<=w.heap.size+1+1;omega) _).setCell (by show w.heap.size<=w.heap.size+1+1;omega) _).setCell (by show w.heap.size<=w.heap.size+1+1;omega) _))
theorem B24{B b:Nat}{ve:FX}{v0 v1 v2:FX}(ha:YS t x=0)(hg:Grow W (fun k=>B<=k) b x.z vn vs ve (gJ t x) (qH t x) (qI t x))(hq:w.heap.size+3<=B)(hb:B0 w W):
  bK w t x (.returned (.tuple #[.agg #[I0 x.z,vn,vs],ve,I0 0])) (((W.setCell ⟨w.heap.size+2,0,G5⟩ v0).setCell ⟨w.heap.size+2,1,G5⟩ v1).setCell ⟨w.heap.size+2,2,G5⟩ v2).drew:=by
 have h1:jI t x=⟨x.z,gJ t x,qH t x⟩:=by rw[jI,if_pos ha]
 have h2:YX t x=qI t x:=by rw[YX,if_pos ha]
 have nn:∀k,vn.ownBlock=G6 k->w.heap.size+3<=k:=fun k hk=>Nat.le_trans hq (hg.fn k hk).1;have ns:∀k,vs.ownBlock=G6 k->w.heap.size+3<=k:=fun k hk=>Nat.le_trans hq (hg.fs k hk).1;have ne:∀k,ve.ownBlock=G6 k->w.heap.size+3<=k:=fun k hk=>Nat.le_trans hq (hg.fe k hk).1;have no:∀ {v:FX},(∀k,v.ownBlock=G6 k->w.heap.size+3<=k)->v.ownBlock≠G6 (w.heap.size+2):=fun h e=>by have:=h _ e;omega
 refine⟨vn,vs,ve,by rw[h1,ha],?_,?_,?_,?_⟩
 .rw[h1];exact(((hg.n.raise (fun k hk=>by have:=nn k hk;omega)).other (no nn) _).other (no nn) _).other (no nn) _|>.next (Below.refl _ _).drew
 .rw[h1];exact(((hg.s.raise (fun k hk=>by have:=ns k hk;omega)).other (no ns) _).other (no ns) _).other (no ns) _|>.next (Below.refl _ _).drew
 .rw[h2];exact(((hg.e.raise (fun k hk=>by have:=ne k hk;omega)).other (no ne) _).other (no ne) _).other (no ne) _|>.next (Below.refl _ _).drew
 .exact(((hb.setCell (by simp) _).setCell (by simp) _).setCell (by simp) _).drew
theorem B25(t:Tr)(vn vs:FX)(x:GN)(w:FW)(hn:IL w vn t.ns)(hs:IL w vs t.ss)(hw:WfT t)(hd:x.d.length<=140737488355328)(ha:WJ t x=0):
  FZ prog 118 #[.agg #[I0 t.z,vn,vs],J9 x] w (bK w t x):=by
 have CA:=G8 (fun W (hW:B0 w W)=>wI t vn vs x W (hn.next hW) (hs.next hW) hw hd);rw[ha]at CA;obtain⟨g,_⟩:=QC ha;have few:=g.nod.few;have sl:=TN g.ses;have CB:=G8 (fun W (hW:B0 w W)=>B06 t vn vs x.z W (hn.next hW) (hs.next hW) few sl hw.CJ7);have CC:=G8 (fun(F:Nat->Prop) b vn' vs' W (hG:Grow W F b x.z vn' vs' (N0) t.ns t.ss []) hF=>AL7 F b t vn' vs' x W hG hF ha);have hap:=AA7 ha;have FNO:=G8 (fun w' e (h0:oG t x≠0) h hb=>AB0 (w:=w) (w':=w') (e:=e) hap h0 h hb);have FYE:=G8 (fun(W:FW) (B b:Nat) (vn vs ve v0 v1 v2:FX) (h0:oG t x=0) hg hq hb=>B24 (w:=w) (W:=W) (t:=t) (x:=x) (B:=B) (b:=b) (vn:=vn) (vs:=vs) (ve:=ve) (v0:=v0) (v1:=v1) (v2:=v2) (hap.trans h0) hg hq hb);obtain⟨na,nc,rfl⟩:=GK hn;obtain⟨sa,sc,rfl⟩:=GK hs;clear hn hs hw ha hap g few sl;generalize hQ:bK w t x=Q at FNO FYE⊢;clear hQ;obtain⟨E,hE⟩:∃E,oG t x=E:=⟨_,rfl⟩;unfold Chg at CC;rw[hE]at CC FNO FYE;clear hE;obtain⟨xz,xo,xs,xp,xd,xv,xw⟩:=x;unfold J9 at*;simp only at*;have KB:∀W,Below (((w.alloc (FV #[I0 t.z,FU na t.ns.length nc,FU sa t.ss.length sc] 37)).alloc (FV #[I0 xz,I0 xo,I0 xs,S0 xp,S0 xd,I0 xv,I0 xw] 79)).alloc (FV #[I0 0,N0,N0] 37)).heap.size (((w.alloc (FV #[I0 t.z,FU na t.ns.length nc,FU sa t.ss.length sc] 37)).alloc (FV #[I0 xz,I0 xo,I0 xs,S0 xp,S0 xd,I0 xv,I0 xw] 79)).alloc (FV #[I0 0,N0,N0] 37)) W->yR W w.heap.size t.z (FU na t.ns.length nc) (FU sa t.ss.length sc) ⟨xz,xo,xs,xp,xd,xv,xw⟩/\B0 w W:=fun W h=>⟨(yR.new w _ _ _ ⟨xz,xo,xs,xp,xd,xv,xw⟩).next h,GX (GX (GX h))⟩;have HKB:=G8 KB;clear KB;go_enter func118,ntmps118;go_wp2_with fail;refine(G7 CA _ (GH (GH (G9 _ _) (G9 _ _)) (G9 _ _))).mono ?_;rintro e w1 ⟨rfl,hb1⟩;obtain⟨b1,B1⟩:=G7 HKB w1 hb1;obtain⟨k0,k1,k2,k3,k4,k5,k6,k7,k8⟩:=b1.cells;have j0:=b1.x.c0;have j1:=b1.x.c1;have j2:=b1.x.c2;have j3:=b1.x.c3;have j4:=b1.x.c4;have j5:=b1.x.c5;have j6:=b1.x.c6;have HB1:=G8 B1;have HX1:=G8 b1;clear hb1 b1 B1;go_wp2_with fail;refine(G7 CB _ (G7 HB1)).mono ?_;rintro e w2 ⟨b,vn2,vs2,rfl,g2,hb2⟩;have b2:=(G7 HX1).next hb2;obtain⟨m0,m1,m2,m3,m4,m5,m6,m7,m8⟩:=b2.cells;have i0:=b2.x.c0;have i1:=b2.x.c1;have i2:=b2.x.c2;have i3:=b2.x.c3;have i4:=b2.x.c4;have i5:=b2.x.c5;have i6:=b2.x.c6;have HB2:=G8 (GH (G7 HB1) hb2);have HX2:=G8 b2;have HG2:=G8 g2;have hsz2:=hb2.size;clear hb2 g2 b2 k0 k1 k2 k3 k4 k5 k6 k7 k8 j0 j1 j2 j3 j4 j5 j6 CB CA;go_wp2_with fail;refine(G7 CC _ _ _ _ _ (G7 HG2) (fun k hk=>Nat.le_trans hsz2 hk)).mono ?_;rintro e w3 ⟨rfl,t3,g3⟩;have q1:=(G7 HX1).lt;have b3:=(G7 HX2).touch t3 (fun k hk=>by omega);obtain⟨n0,n1,n2,n3,n4,n5,n6,n7,n8⟩:=b3.cells;have B3:B0 w w3:=(G7 HB2).trans (t3.below (by omega) (fun k hk=>by omega));have HB3:=G8 B3;clear CC b3 B3 t3 m0 m1 m2 m3 m4 m5 m6 m7 m8 i0 i1 i2 i3 i4 i5 i6;by_cases h0:E=0
 .obtain⟨vn3,vs3,ve3,g3⟩:=g3 h0;have d0:=g3.c0;have d1:=g3.c1;have d2:=g3.c2;have d3:=g3.c3;obtain⟨na3,nc3,hn3,_⟩:=g3.n.slice;obtain⟨sa3,sc3,hs3,_⟩:=g3.s.slice;obtain⟨ea3,ec3,he3,_⟩:=g3.e.slice;have HG3:=G8 g3;have hbl:=g3.lt;have hbq:w1.heap.size<=b:=g3.fb;have hne:b≠w.heap.size+2:=by omega
  have FY:=G8 (fun(v0 v1 v2:FX)=>G7 FYE w3 w1.heap.size b vn3 vs3 ve3 v0 v1 v2 h0 (G7 HG3) (by omega) (G7 HB3));subst hn3 hs3 he3 h0;clear g3 FYE FNO HG3;go_wp2_with fail;go_region;go_wp2_with fail;exact bodyPost_ret (v:=.tuple #[.agg #[I0 xz,FU na3 (gJ t ⟨xz,xo,xs,xp,xd,xv,xw⟩).length nc3,FU sa3 (qH t ⟨xz,xo,xs,xp,xd,xv,xw⟩).length sc3],FU ea3 (qI t ⟨xz,xo,xs,xp,xd,xv,xw⟩).length ec3,I0 0]) (by simp[results,results118,go_sem,n3,n4,n5]) rfl (G7 FY _ _ _)
 .have h0b:(E !=0)=true:=by simpa using h0
  have FN:=G8 (fun w' e h hb=>G7 FNO w' e h0 h hb);clear g3 FYE FNO h0;go_wp2_with fail;exact bodyPost_ret (v:=.tuple #[.agg #[I0 0,N0,N0],N0,I0 E]) (by simp[results,results118,go_sem,n3,n4,n5]) rfl (G7 FN _ _ rfl ((((G7 HB3).setCell (by show w.heap.size<=w.heap.size+1+1;omega) _).setCell (by show w.heap.size<=w.heap.size+1+1;omega) _).setCell (by show w.heap.size<=w.heap.size+1+1;omega) _))
theorem wJ(t:Tr)(vn vs:FX)(x:GN)(w:FW)(hn:IL w vn t.ns)(hs:IL w vs t.ss)(hw:WfT t)(hd:x.d.length<=140737488355328):
  FZ prog 118 #[.agg #[I0 t.z,vn,vs],J9 x] w (bK w t x):=by
 by_cases ha:WJ t x=0
 .exact B25 t vn vs x w hn hs hw hd ha
 .exact B23 t vn vs x w hn hs hw hd ha
def B26(w:FW)(t:Tr)(e:Ending)(w':FW):Prop:=
 ∃vn vs,e=.returned (.agg #[I0 t.z,vn,vs])/\GZ w' w.heap.size vn t.ns/\GZ w' w.heap.size vs t.ss/\B0 w w'
theorem BM6(w:FW):GZ (w.alloc (FV #[.string ⟨#[47]⟩,.string ⟨#[]⟩,I0 0,I0 0,I0 0,I0 0,I0 0,I0 0,I0 0] 62)) w.heap.size (FU (G6 ⟨w.heap.size,0,G5⟩) 1 1) [zL]:=
 .inr ⟨w.heap.size,1,rfl,Nat.le_refl _,[],by rw[heap_alloc_new];rfl,by decide,by decide,by decide⟩
theorem AB1(w:FW):FZ prog 52 #[] w (B26 w QL):=by
 have H:Hid (B26 w QL (.returned (.agg #[I0 0,FU (G6 ⟨w.heap.size+1,0,G5⟩) 1 1,N0])) ((w.alloc (FV #[I0 0,FU (G6 ⟨w.heap.size+1,0,G5⟩) 1 1,N0] 37)).alloc (FV #[.string ⟨#[47]⟩,.string ⟨#[]⟩,I0 0,I0 0,I0 0,I0 0,I0 0,I0 0,I0 0] 62))):=by
  have h:=BM6 (w.alloc (FV #[I0 0,FU (G6 ⟨w.heap.size+1,0,G5⟩) 1 1,N0] 37));rw[show (w.alloc (FV #[I0 0,FU (G6 ⟨w.heap.size+1,0,G5⟩) 1 1,N0] 37)).heap.size=w.heap.size+1 by simp]at h;exact⟨_,_,rfl,h.lower (by omega),.inl ⟨rfl,rfl⟩,GH (G9 _ _) (G9 _ _)⟩
 go_enter func52,ntmps52;go_wp2_with fail;exact bodyPost_ret (v:=.agg #[I0 0,FU (G6 ⟨w.heap.size+1,0,G5⟩) 1 1,N0]) (by simp[results,results52,go_sem]) rfl (G7 H)
structure GB(w W:FW)(z:Int)(vn vs:FX):Prop where
 t:W.heap[w.heap.size]?=G6 (FV #[I0 z,vn,vs] 37 (0,0))
 r:W.heap[w.heap.size+1]?=G6 (FV #[.string ⟨#[]⟩,.string ⟨#[]⟩,I0 0,I0 0,I0 0,I0 0,I0 0,I0 0,I0 0] 62 (0,0))
 b:B0 w W
theorem GB.new(w:FW)(z:Int)(vn vs:FX):GB w ((w.alloc (FV #[I0 z,vn,vs] 37)).alloc (FV #[.string ⟨#[]⟩,.string ⟨#[]⟩,I0 0,I0 0,I0 0,I0 0,I0 0,I0 0,I0 0] 62)) z vn vs:=by
 refine⟨?_,?_,GH (G9 _ _) (G9 _ _)⟩
 .rw[(G9 _ _).block _ (by simp)];exact heap_alloc_new w _
 .have h:=heap_alloc_new (w.alloc (FV #[I0 z,vn,vs] 37)) (FV #[.string ⟨#[]⟩,.string ⟨#[]⟩,I0 0,I0 0,I0 0,I0 0,I0 0,I0 0,I0 0] 62);rw[show (w.alloc (FV #[I0 z,vn,vs] 37)).heap.size=w.heap.size+1 by simp]at h;exact h
theorem GB.lt(h:GB w W z vn vs):w.heap.size+1<W.heap.size:=(AL.1 h.r).1
theorem GB.next(h:GB w W z vn vs)(hb:B0 W V):GB w V z vn vs:=by
 have:=h.lt;exact⟨(hb.block _ (by omega)).trans h.t,(hb.block _ (by omega)).trans h.r,GH h.b hb⟩
theorem GB.c1(h:GB w W z vn vs):W.cell? ⟨w.heap.size,1,G5⟩=G6 vn:=by simp[World.cell?,h.t]
theorem GB.one(h:GB w W z vn vs):JQ W (w.heap.size+1) WG:=h.r
theorem BM7(z:Int)(vn vs:FX)(ns A B:List Nd)(p:List UInt8)(w:FW)(hn:IL w vn ns)(hl:ns.length<=100000)(G:nM ns A B p):
  FZ prog 13 #[.agg #[I0 z,vn,vs],S0 p] w (R0 w (.tuple #[TI WG,I0 7])):=by
 have CF:=G8 (fun W (hW:B0 w W)=>NI vn ns A B p W (hn.next hW) hl G);have B0:=G8 (GB.new w z vn vs);obtain⟨na,nc,rfl⟩:=GK hn;clear hn G;go_enter func13,ntmps13;go_wp2_with fail;refine(G7 CF _ (G7 B0).b).mono ?_;rintro e w1 ⟨rfl,hb1⟩;have b1:=(G7 B0).next hb1;have o1:=b1.one;have c0:=o1.JE 0 _ rfl;have c1:=o1.JE 1 _ rfl;have c2:=o1.JE 2 _ rfl;have c3:=o1.JE 3 _ rfl;have c4:=o1.JE 4 _ rfl;have c5:=o1.JE 5 _ rfl;have c6:=o1.JE 6 _ rfl;have c7:=o1.JE 7 _ rfl;have c8:=o1.JE 8 _ rfl;have f0:=o1.J8 0;have f1:=o1.J8 1;have f2:=o1.J8 2;have f3:=o1.J8 3;have f4:=o1.J8 4;have f5:=o1.J8 5;have f6:=o1.J8 6;have f7:=o1.J8 7;have f8:=o1.J8 8;have BB:=b1.b;have HBB:=G8 BB;clear CF B0 hb1 b1 o1 BB;go_wp2_with fail;have BB:=G7 HBB;exact bodyPost_ret (v:=.tuple #[TI WG,I0 7]) (by simp[results,results13,go_sem,TI,WG,c0,c1,c2,c3,c4,c5,c6,c7,c8]) rfl
  ⟨rfl,((((((((BB.setCell (by simp) _).setCell (by simp) _).setCell (by simp) _).setCell (by simp) _).setCell (by simp) _).setCell (by simp) _).setCell (by simp) _).setCell (by simp) _).setCell (by simp) _⟩
theorem AM1(z:Int)(vn vs:FX)(ns A B:List Nd)(n:Nd)(p:List UInt8)(w:FW)(hn:IL w vn ns)(hl:ns.length<=100000)(T:KJ ns A n B p)(hp:n.p.length<=140737488355328)(hd:n.d.length<=140737488355328):
  FZ prog 13 #[.agg #[I0 z,vn,vs],S0 p] w (R0 w (.tuple #[TI n,I0 0])):=by
 have CF:=G8 (fun W (hW:B0 w W)=>JW vn ns A B n p W (hn.next hW) hl T);have CC:=G8 (fun W=>ZL n W hp hd);unfold TI at CC;have hlt:A.length<ns.length:=by rw[T.eq];simp
 have hat:ns[A.length]?=G6 n:=by rw[T.eq];exact UM A n B
 obtain⟨b,off,cap,rfl,hb,hr,_,_⟩:=MV hn (by rw[T.eq];simp);have HR:=G8 (fun W (hW:B0 w W)=>hr.kept hW hb);have B0:=G8 (GB.new w z (FU (G6 ⟨b,off,G5⟩) ns.length cap) vs);clear hn T hr;have HAT:=G8 hat;clear hat;go_enter func13,ntmps13;go_wp2_with fail;refine(G7 CF _ (G7 B0).b).mono ?_;rintro e w1 ⟨rfl,hb1⟩;have b1:=(G7 B0).next hb1;have HB1:=G8 b1;have e1:=b1.c1;have q:=G7 HR w1 b1.b;have d0:=q.n0 (G7 HAT);have d1:=q.n1 (G7 HAT);have d2:=q.n2 (G7 HAT);have d3:=q.n3 (G7 HAT);have d4:=q.n4 (G7 HAT);have d5:=q.n5 (G7 HAT);have d6:=q.n6 (G7 HAT);have d7:=q.n7 (G7 HAT);have d8:=q.n8 (G7 HAT);clear q CF b1 hb1;go_wp2_with fail;refine(G7 CC _).mono ?_;rintro e w2 ⟨rfl,hb2⟩;have b2:=(G7 HB1).next hb2;have o1:=b2.one;have c0:=o1.JE 0 _ rfl;have c1:=o1.JE 1 _ rfl;have c2:=o1.JE 2 _ rfl;have c3:=o1.JE 3 _ rfl;have c4:=o1.JE 4 _ rfl;have c5:=o1.JE 5 _ rfl;have c6:=o1.JE 6 _ rfl;have c7:=o1.JE 7 _ rfl;have c8:=o1.JE 8 _ rfl;have f0:=o1.J8 0;have f1:=o1.J8 1;have f2:=o1.J8 2;have f3:=o1.J8 3;have f4:=o1.J8 4;have f5:=o1.J8 5;have f6:=o1.J8 6;have f7:=o1.J8 7;have f8:=o1.J8 8;have HBB:=G8 b2.b;clear b2 hb2 o1 CC d0 d1 d2 d3 d4 d5 d6 d7 d8 e1;go_wp2_with fail;have BB:=G7 HBB;exact bodyPost_ret (v:=.tuple #[TI n,I0 0]) (by simp[results,results13,go_sem,TI,c0,c1,c2,c3,c4,c5,c6,c7,c8]) rfl
  ⟨rfl,((((((((BB.setCell (by simp) _).setCell (by simp) _).setCell (by simp) _).setCell (by simp) _).setCell (by simp) _).setCell (by simp) _).setCell (by simp) _).setCell (by simp) _).setCell (by simp) _⟩
theorem YM:QW QL:=by
 refine⟨by decide,⟨List.Pairwise.nil,by simp[QL]⟩,⟨by decide,⟨zL,[],rfl,rfl,rfl⟩,List.pairwise_singleton _ _,?_⟩,?_⟩
 .intro n hn;obtain rfl:n=zL:=by simpa [QL]using hn
  refine⟨by decide,dP,fun h=>absurd rfl h,by decide,by decide,by decide,by decide,by decide,by decide,by decide,by decide,?_,.inl rfl⟩;show (0:Int)=NW [zL] [47];simp[NW,zL,UF]
 .intro n hn;obtain rfl:n=zL:=by simpa [QL]using hn
  decide
theorem QW.wf(g:QW t):WfT t:=by
 refine⟨fun s hs=>by have:=g.ses.2 s hs;omega,fun n hn=>?_⟩;have k:=g.nod.ok n hn;have:=MO k.path;have:=k.data;omega
structure TT(w W:FW)(z:Int)(vn vs un us:FX):Prop where
 a:W.heap[w.heap.size]?=G6 (FV #[I0 z,vn,vs] 37 (0,0))
 b:W.heap[w.heap.size+1]?=G6 (FV #[I0 z,un,us] 37 (0,0))
 bl:B0 w W
theorem TT.new(w:FW)(z:Int)(vn vs un us:FX):TT w ((w.alloc (FV #[I0 z,vn,vs] 37)).alloc (FV #[I0 z,un,us] 37)) z vn vs un us:=by
 refine⟨?_,?_,GH (G9 _ _) (G9 _ _)⟩
 .rw[(G9 _ _).block _ (by simp)];exact heap_alloc_new w _
 .have h:=heap_alloc_new (w.alloc (FV #[I0 z,vn,vs] 37)) (FV #[I0 z,un,us] 37);rw[show (w.alloc (FV #[I0 z,vn,vs] 37)).heap.size=w.heap.size+1 by simp]at h;exact h
theorem TT.next{un us:FX}(h:TT w W z vn vs un us)(hb:B0 W V):TT w V z vn vs un us:=
 ⟨(hb.block _ (AL.1 h.a).1).trans h.a,(hb.block _ (AL.1 h.b).1).trans h.b,GH h.bl hb⟩
theorem TT.six{un us:FX}(h:TT w W z vn vs un us):W.cell? ⟨w.heap.size,0,G5⟩=G6 (I0 z)/\W.cell? ⟨w.heap.size,1,G5⟩=G6 vn/\W.cell? ⟨w.heap.size,2,G5⟩=G6 vs/\W.cell? ⟨w.heap.size+1,0,G5⟩=G6 (I0 z)/\W.cell? ⟨w.heap.size+1,1,G5⟩=G6 un/\W.cell? ⟨w.heap.size+1,2,G5⟩=G6 us:=by
 have h1:=h.a;have h2:=h.b;refine⟨?_,?_,?_,?_,?_,?_⟩<;>simp[World.cell?,h1,h2]
theorem B27(t:Tr)(x:GN):(jI t x).ns.length<=140737488355328/\(jI t x).ss.length<=140737488355328/\(YX t x).length<=140737488355328:=by
 by_cases h:YS t x=0
 .obtain⟨g2,_,_⟩:=aS h;obtain⟨ha,_⟩:=qJ h;obtain⟨g,_,_⟩:=QC ha;have few:=g.nod.few;refine⟨by have:=g2.nod.few;omega,by have:=TN g2.ses;omega,?_⟩;rw[YX,if_pos h,qI]
  split
  .rw[A81];have:(OM t.ns x.s).length<=t.ns.length:=by
    rw[OM,List.length_map];exact List.length_filter_le _ _
   omega
  .split
   .simp
   .split
    .simp
    .split<;>simp
 .rw[jI,if_neg h,YX,if_neg h];exact⟨by decide,by decide,by decide⟩
