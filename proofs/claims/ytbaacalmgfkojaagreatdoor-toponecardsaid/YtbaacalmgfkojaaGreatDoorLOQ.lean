/-
  Part.
-/
import Derived.Test.YtbaacalmgfkojaaGreatDoorLOP
import Derived.Lib.ConvBytes
import Derived.Laws.EntriesVeiled
set_option maxRecDepth 20000
set_option maxHeartbeats 8000000
namespace Go.Proofs.YtbaacalmgfkojaaGreatDoor
open Go.RowKit Go.Proofs.Tryz
open _root_.Array renaming getElem?_eq_some_iff->AB
open Go.Value renaming slice->FQ
open Go.Obj renaming cells->FT
open Go renaming World->FU,Value->FV,Calls->FW
open _root_.Option renaming none->FX,some->FZ
variable{W w V:FU}{t:Tr}{x:GI}{q:Nat}{z:Int}{vn vs:FV}
theorem GZ.raise{α:Type}[Lay α]{B:Nat}{v:FV}{xs:List α}(h:GZ W 0 v xs)(hb:∀k,v.ownBlock=FZ k->B<=k):GZ W B v xs:=by
 rcases h with h|⟨g,cap,rfl,_,h⟩
 .exact .inl h
 .exact .inr ⟨g,cap,rfl,hb g rfl,h⟩
def aA(w:FU)(t:Tr)(x:GI)(e:Ending)(w':FU):Prop:=
 ∃vn vs ve,e=.returned (.tuple #[.agg #[I0 (iH t x).z,vn,vs],ve,I0 (XZ t x)])/\GZ w' w.heap.size vn (iH t x).ns/\GZ w' w.heap.size vs (iH t x).ss/\GZ w' w.heap.size ve (Y9 t x)/\B0 w w'
theorem A83{w':FU}{E:Int}{e:Ending}(hE:XZ t x=E)(h0:E≠0)(he:e=.returned (.tuple #[.agg #[I0 0,N0,N0],N0,I0 E]))(hb:B0 w w'):aA w t x e w':=by
 have h1:iH t x=tr0:=by rw[iH,if_neg (by omega)]
 have h2:Y9 t x=[]:=by rw[Y9,if_neg (by omega)]
 refine⟨N0,N0,N0,?_,?_,?_,?_,hb⟩
 .rw[hE,h1];exact he
 .rw[h1];exact .inl ⟨rfl,rfl⟩
 .rw[h1];exact .inl ⟨rfl,rfl⟩
 .rw[h2];exact .inl ⟨rfl,rfl⟩
structure xR(W:FU)(q:Nat)(z:Int)(vn vs:FV)(x:GI):Prop where
 t:W.heap[q]?=FZ (FT #[I0 z,vn,vs] 46 (0,0))
 x:TAt W (q+1) x
 r:W.heap[q+2]?=FZ (FT #[I0 0,N0,N0] 46 (0,0))
theorem xR.new(w:FU)(z:Int)(vn vs:FV)(x:GI):xR (((w.alloc (FT #[I0 z,vn,vs] 46)).alloc (FT #[I0 x.z,I0 x.o,I0 x.s,S0 x.p,S0 x.d,I0 x.v,I0 x.w] 52)).alloc (FT #[I0 0,N0,N0] 46)) w.heap.size z vn vs x:=by
 refine⟨?_,?_,?_⟩
 .rw[(G7 _ _).block _ (by simp;omega),(G7 _ _).block _ (by simp)];exact heap_alloc_new w _
 .have h:=(TAt.new (w.alloc (FT #[I0 z,vn,vs] 46)) x).next (G7 _ (FT #[I0 0,N0,N0] 46));simpa using h
 .have h:=heap_alloc_new ((w.alloc (FT #[I0 z,vn,vs] 46)).alloc (FT #[I0 x.z,I0 x.o,I0 x.s,S0 x.p,S0 x.d,I0 x.v,I0 x.w] 52)) (FT #[I0 0,N0,N0] 46);rw[show ((w.alloc (FT #[I0 z,vn,vs] 46)).alloc (FT #[I0 x.z,I0 x.o,I0 x.s,S0 x.p,S0 x.d,I0 x.v,I0 x.w] 52)).heap.size=w.heap.size+2 by simp]at h;exact h
theorem xR.lt(h:xR W q z vn vs x):q+2<W.heap.size:=(AB.1 h.r).1
theorem xR.touch{F:Nat->Prop}(h:xR W q z vn vs x)(ht:Touch F W V)(hf:∀k,F k->q+3<=k):xR V q z vn vs x:=by
 have:=h.lt;have n0:∀k,k<q+3->¬F k:=fun k hk hF=>by have:=hf k hF;omega
 exact⟨(ht.block _ (by omega) (n0 _ (by omega))).trans h.t,(ht.block _ (by omega) (n0 _ (by omega))).trans h.x,(ht.block _ (by omega) (n0 _ (by omega))).trans h.r⟩
theorem xR.next(h:xR W q z vn vs x)(hb:B0 W V):xR V q z vn vs x:=h.touch (F:=fun _=>False) (Touch.of_below hb) (fun _ hF=>hF.elim)
theorem xR.cells(h:xR W q z vn vs x):W.cell? ⟨q,0,FX⟩=FZ (I0 z)/\W.cell? ⟨q,1,FX⟩=FZ vn/\W.cell? ⟨q,2,FX⟩=FZ vs/\W.cell? ⟨q+2,0,FX⟩=FZ (I0 0)/\W.cell? ⟨q+2,1,FX⟩=FZ (N0)/\W.cell? ⟨q+2,2,FX⟩=FZ (N0)/\W.frozen? ⟨q+2,0,FX⟩=false/\W.frozen? ⟨q+2,1,FX⟩=false/\W.frozen? ⟨q+2,2,FX⟩=false:=by
 have h1:=h.t;have h2:=h.r;refine⟨?_,?_,?_,?_,?_,?_,?_,?_,?_⟩<;>simp[World.cell?,World.frozen?,h1,h2]
theorem AY3(t:Tr)(vn vs:FV)(x:GI)(w:FU)(hn:IL w vn t.ns)(hs:IL w vs t.ss)(hw:WfT t)(hd:x.d.length<=140737488355328)(ha:VN t x≠0):
  FW prog 130 #[.agg #[I0 t.z,vn,vs],J7 x] w (aA w t x):=by
 have CA:=G6 (fun W (hW:B0 w W)=>vG t vn vs x W (hn.next hW) (hs.next hW) hw hd);have FIN:=G6 (fun w' e h hb=>A83 (w:=w) (w':=w') (e:=e) (BG0 ha) ha h hb);have hab:(VN t x !=0)=true:=by simpa using ha
 obtain⟨na,nc,rfl⟩:=GK hn;obtain⟨sa,sc,rfl⟩:=GK hs;clear hn hs hw ha;generalize VN t x=E at hab CA FIN;generalize hQ:aA w t x=Q at FIN⊢;clear hQ;obtain⟨xz,xo,xs,xp,xd,xv,xw⟩:=x;unfold J7 at*;simp only at*;have KB:∀W,Below (((w.alloc (FT #[I0 t.z,FQ na t.ns.length nc,FQ sa t.ss.length sc] 46)).alloc (FT #[I0 xz,I0 xo,I0 xs,S0 xp,S0 xd,I0 xv,I0 xw] 52)).alloc (FT #[I0 0,N0,N0] 46)).heap.size (((w.alloc (FT #[I0 t.z,FQ na t.ns.length nc,FQ sa t.ss.length sc] 46)).alloc (FT #[I0 xz,I0 xo,I0 xs,S0 xp,S0 xd,I0 xv,I0 xw] 52)).alloc (FT #[I0 0,N0,N0] 46)) W->xR W w.heap.size t.z (FQ na t.ns.length nc) (FQ sa t.ss.length sc) ⟨xz,xo,xs,xp,xd,xv,xw⟩/\B0 w W:=fun W h=>⟨(xR.new w _ _ _ ⟨xz,xo,xs,xp,xd,xv,xw⟩).next h,GU (GU (GU h))⟩;have HKB:=G6 KB;clear KB;go_enter func130,ntmps130;go_wp2_with fail;refine(G5 CA _ (G8 (G8 (G7 _ _) (G7 _ _)) (G7 _ _))).mono ?_;rintro e w1 ⟨rfl,hb1⟩;obtain⟨b1,B1⟩:=G5 HKB w1 hb1;obtain⟨k0,k1,k2,k3,k4,k5,k6,k7,k8⟩:=b1.cells;have j0:=b1.x.c0;have j1:=b1.x.c1;have j2:=b1.x.c2;have j3:=b1.x.c3;have j4:=b1.x.c4;have j5:=b1.x.c5;have j6:=b1.x.c6;have HB1:=G6 B1;have HX1:=G6 b1;clear hb1 b1 B1;go_wp2_with fail;exact bodyPost_ret (v:=.tuple #[.agg #[I0 0,N0,N0],N0,I0 E]) (by simp[results,results130,go_sem,k3,k4,k5]) rfl (G5 FIN _ _ rfl ((((G5 HB1).setCell (by show w.heap.size<=w.heap.size+1+1;omega) _).setCell (by show w.heap.size<=w.heap.size+1+1;omega) _).setCell (by show w.heap.size<=w.heap.size+1+1;omega) _))
theorem AY4{B b:Nat}{ve:FV}{v0 v1 v2:FV}(ha:XZ t x=0)(hg:Grow W (fun k=>B<=k) b x.z vn vs ve (eU t x) (oQ t x) (oU t x))(hq:w.heap.size+3<=B)(hb:B0 w W):
  aA w t x (.returned (.tuple #[.agg #[I0 x.z,vn,vs],ve,I0 0])) (((W.setCell ⟨w.heap.size+2,0,FX⟩ v0).setCell ⟨w.heap.size+2,1,FX⟩ v1).setCell ⟨w.heap.size+2,2,FX⟩ v2).drew:=by
 have h1:iH t x=⟨x.z,eU t x,oQ t x⟩:=by rw[iH,if_pos ha]
 have h2:Y9 t x=oU t x:=by rw[Y9,if_pos ha]
 have nn:∀k,vn.ownBlock=FZ k->w.heap.size+3<=k:=fun k hk=>Nat.le_trans hq (hg.fn k hk).1;have ns:∀k,vs.ownBlock=FZ k->w.heap.size+3<=k:=fun k hk=>Nat.le_trans hq (hg.fs k hk).1;have ne:∀k,ve.ownBlock=FZ k->w.heap.size+3<=k:=fun k hk=>Nat.le_trans hq (hg.fe k hk).1;have no:∀ {v:FV},(∀k,v.ownBlock=FZ k->w.heap.size+3<=k)->v.ownBlock≠FZ (w.heap.size+2):=fun h e=>by have:=h _ e;omega
 refine⟨vn,vs,ve,by rw[h1,ha],?_,?_,?_,?_⟩
 .rw[h1];exact(((hg.n.raise (fun k hk=>by have:=nn k hk;omega)).other (no nn) _).other (no nn) _).other (no nn) _|>.next (Below.refl _ _).drew
 .rw[h1];exact(((hg.s.raise (fun k hk=>by have:=ns k hk;omega)).other (no ns) _).other (no ns) _).other (no ns) _|>.next (Below.refl _ _).drew
 .rw[h2];exact(((hg.e.raise (fun k hk=>by have:=ne k hk;omega)).other (no ne) _).other (no ne) _).other (no ne) _|>.next (Below.refl _ _).drew
 .exact(((hb.setCell (by simp) _).setCell (by simp) _).setCell (by simp) _).drew
theorem AY5(t:Tr)(vn vs:FV)(x:GI)(w:FU)(hn:IL w vn t.ns)(hs:IL w vs t.ss)(hw:WfT t)(hd:x.d.length<=140737488355328)(ha:VN t x=0):
  FW prog 130 #[.agg #[I0 t.z,vn,vs],J7 x] w (aA w t x):=by
 have CA:=G6 (fun W (hW:B0 w W)=>vG t vn vs x W (hn.next hW) (hs.next hW) hw hd);rw[ha]at CA;obtain⟨g,_⟩:=PW ha;have few:=g.nod.few;have sl:=SX g.ses;have CB:=G6 (fun W (hW:B0 w W)=>AW8 t vn vs x.z W (hn.next hW) (hs.next hW) few sl hw.CD1);have CC:=G6 (fun(F:Nat->Prop) b vn' vs' W (hG:Grow W F b x.z vn' vs' (N0) t.ns t.ss []) hF=>AI5 F b t vn' vs' x W hG hF ha);have hap:=A80 ha;have FNO:=G6 (fun w' e (h0:mW t x≠0) h hb=>A83 (w:=w) (w':=w') (e:=e) hap h0 h hb);have FYE:=G6 (fun(W:FU) (B b:Nat) (vn vs ve v0 v1 v2:FV) (h0:mW t x=0) hg hq hb=>AY4 (w:=w) (W:=W) (t:=t) (x:=x) (B:=B) (b:=b) (vn:=vn) (vs:=vs) (ve:=ve) (v0:=v0) (v1:=v1) (v2:=v2) (hap.trans h0) hg hq hb);obtain⟨na,nc,rfl⟩:=GK hn;obtain⟨sa,sc,rfl⟩:=GK hs;clear hn hs hw ha hap g few sl;generalize hQ:aA w t x=Q at FNO FYE⊢;clear hQ;obtain⟨E,hE⟩:∃E,mW t x=E:=⟨_,rfl⟩;unfold Chg at CC;rw[hE]at CC FNO FYE;clear hE;obtain⟨xz,xo,xs,xp,xd,xv,xw⟩:=x;unfold J7 at*;simp only at*;have KB:∀W,Below (((w.alloc (FT #[I0 t.z,FQ na t.ns.length nc,FQ sa t.ss.length sc] 46)).alloc (FT #[I0 xz,I0 xo,I0 xs,S0 xp,S0 xd,I0 xv,I0 xw] 52)).alloc (FT #[I0 0,N0,N0] 46)).heap.size (((w.alloc (FT #[I0 t.z,FQ na t.ns.length nc,FQ sa t.ss.length sc] 46)).alloc (FT #[I0 xz,I0 xo,I0 xs,S0 xp,S0 xd,I0 xv,I0 xw] 52)).alloc (FT #[I0 0,N0,N0] 46)) W->xR W w.heap.size t.z (FQ na t.ns.length nc) (FQ sa t.ss.length sc) ⟨xz,xo,xs,xp,xd,xv,xw⟩/\B0 w W:=fun W h=>⟨(xR.new w _ _ _ ⟨xz,xo,xs,xp,xd,xv,xw⟩).next h,GU (GU (GU h))⟩;have HKB:=G6 KB;clear KB;go_enter func130,ntmps130;go_wp2_with fail;refine(G5 CA _ (G8 (G8 (G7 _ _) (G7 _ _)) (G7 _ _))).mono ?_;rintro e w1 ⟨rfl,hb1⟩;obtain⟨b1,B1⟩:=G5 HKB w1 hb1;obtain⟨k0,k1,k2,k3,k4,k5,k6,k7,k8⟩:=b1.cells;have j0:=b1.x.c0;have j1:=b1.x.c1;have j2:=b1.x.c2;have j3:=b1.x.c3;have j4:=b1.x.c4;have j5:=b1.x.c5;have j6:=b1.x.c6;have HB1:=G6 B1;have HX1:=G6 b1;clear hb1 b1 B1;go_wp2_with fail;refine(G5 CB _ (G5 HB1)).mono ?_;rintro e w2 ⟨b,vn2,vs2,rfl,g2,hb2⟩;have b2:=(G5 HX1).next hb2;obtain⟨m0,m1,m2,m3,m4,m5,m6,m7,m8⟩:=b2.cells;have i0:=b2.x.c0;have i1:=b2.x.c1;have i2:=b2.x.c2;have i3:=b2.x.c3;have i4:=b2.x.c4;have i5:=b2.x.c5;have i6:=b2.x.c6;have HB2:=G6 (G8 (G5 HB1) hb2);have HX2:=G6 b2;have HG2:=G6 g2;have hsz2:=hb2.size;clear hb2 g2 b2 k0 k1 k2 k3 k4 k5 k6 k7 k8 j0 j1 j2 j3 j4 j5 j6 CB CA;go_wp2_with fail;refine(G5 CC _ _ _ _ _ (G5 HG2) (fun k hk=>Nat.le_trans hsz2 hk)).mono ?_;rintro e w3 ⟨rfl,t3,g3⟩;have q1:=(G5 HX1).lt;have b3:=(G5 HX2).touch t3 (fun k hk=>by omega);obtain⟨n0,n1,n2,n3,n4,n5,n6,n7,n8⟩:=b3.cells;have B3:B0 w w3:=(G5 HB2).trans (t3.below (by omega) (fun k hk=>by omega));have HB3:=G6 B3;clear CC b3 B3 t3 m0 m1 m2 m3 m4 m5 m6 m7 m8 i0 i1 i2 i3 i4 i5 i6;by_cases h0:E=0
 .obtain⟨vn3,vs3,ve3,g3⟩:=g3 h0;have d0:=g3.c0;have d1:=g3.c1;have d2:=g3.c2;have d3:=g3.c3;obtain⟨na3,nc3,hn3,_⟩:=g3.n.slice;obtain⟨sa3,sc3,hs3,_⟩:=g3.s.slice;obtain⟨ea3,ec3,he3,_⟩:=g3.e.slice;have HG3:=G6 g3;have hbl:=g3.lt;have hbq:w1.heap.size<=b:=g3.fb;have hne:b≠w.heap.size+2:=by omega
  have FY:=G6 (fun(v0 v1 v2:FV)=>G5 FYE w3 w1.heap.size b vn3 vs3 ve3 v0 v1 v2 h0 (G5 HG3) (by omega) (G5 HB3));subst hn3 hs3 he3 h0;clear g3 FYE FNO HG3;go_wp2_with fail;go_region;go_wp2_with fail;exact bodyPost_ret (v:=.tuple #[.agg #[I0 xz,FQ na3 (eU t ⟨xz,xo,xs,xp,xd,xv,xw⟩).length nc3,FQ sa3 (oQ t ⟨xz,xo,xs,xp,xd,xv,xw⟩).length sc3],FQ ea3 (oU t ⟨xz,xo,xs,xp,xd,xv,xw⟩).length ec3,I0 0]) (by simp[results,results130,go_sem,n3,n4,n5]) rfl (G5 FY _ _ _)
 .have h0b:(E !=0)=true:=by simpa using h0
  have FN:=G6 (fun w' e h hb=>G5 FNO w' e h0 h hb);clear g3 FYE FNO h0;go_wp2_with fail;exact bodyPost_ret (v:=.tuple #[.agg #[I0 0,N0,N0],N0,I0 E]) (by simp[results,results130,go_sem,n3,n4,n5]) rfl (G5 FN _ _ rfl ((((G5 HB3).setCell (by show w.heap.size<=w.heap.size+1+1;omega) _).setCell (by show w.heap.size<=w.heap.size+1+1;omega) _).setCell (by show w.heap.size<=w.heap.size+1+1;omega) _))
theorem vH(t:Tr)(vn vs:FV)(x:GI)(w:FU)(hn:IL w vn t.ns)(hs:IL w vs t.ss)(hw:WfT t)(hd:x.d.length<=140737488355328):
  FW prog 130 #[.agg #[I0 t.z,vn,vs],J7 x] w (aA w t x):=by
 by_cases ha:VN t x=0
 .exact AY5 t vn vs x w hn hs hw hd ha
 .exact AY3 t vn vs x w hn hs hw hd ha
def AY6(w:FU)(t:Tr)(e:Ending)(w':FU):Prop:=
 ∃vn vs,e=.returned (.agg #[I0 t.z,vn,vs])/\GZ w' w.heap.size vn t.ns/\GZ w' w.heap.size vs t.ss/\B0 w w'
theorem BH2(w:FU):GZ (w.alloc (FT #[.string ⟨#[47]⟩,.string ⟨#[]⟩,I0 0,I0 0,I0 0,I0 0,I0 0,I0 0,I0 0] 69)) w.heap.size (FQ (FZ ⟨w.heap.size,0,FX⟩) 1 1) [yK]:=
 .inr ⟨w.heap.size,1,rfl,Nat.le_refl _,[],by rw[heap_alloc_new];rfl,by decide,by decide,by decide⟩
theorem A84(w:FU):FW prog 48 #[] w (AY6 w QE):=by
 have H:Hid (AY6 w QE (.returned (.agg #[I0 0,FQ (FZ ⟨w.heap.size+1,0,FX⟩) 1 1,N0])) ((w.alloc (FT #[I0 0,FQ (FZ ⟨w.heap.size+1,0,FX⟩) 1 1,N0] 46)).alloc (FT #[.string ⟨#[47]⟩,.string ⟨#[]⟩,I0 0,I0 0,I0 0,I0 0,I0 0,I0 0,I0 0] 69))):=by
  have h:=BH2 (w.alloc (FT #[I0 0,FQ (FZ ⟨w.heap.size+1,0,FX⟩) 1 1,N0] 46));rw[show (w.alloc (FT #[I0 0,FQ (FZ ⟨w.heap.size+1,0,FX⟩) 1 1,N0] 46)).heap.size=w.heap.size+1 by simp]at h;exact⟨_,_,rfl,h.lower (by omega),.inl ⟨rfl,rfl⟩,G8 (G7 _ _) (G7 _ _)⟩
 go_enter func48,ntmps48;go_wp2_with fail;exact bodyPost_ret (v:=.agg #[I0 0,FQ (FZ ⟨w.heap.size+1,0,FX⟩) 1 1,N0]) (by simp[results,results48,go_sem]) rfl (G5 H)
structure GB(w W:FU)(z:Int)(vn vs:FV):Prop where
 t:W.heap[w.heap.size]?=FZ (FT #[I0 z,vn,vs] 46 (0,0))
 r:W.heap[w.heap.size+1]?=FZ (FT #[.string ⟨#[]⟩,.string ⟨#[]⟩,I0 0,I0 0,I0 0,I0 0,I0 0,I0 0,I0 0] 69 (0,0))
 b:B0 w W
theorem GB.new(w:FU)(z:Int)(vn vs:FV):GB w ((w.alloc (FT #[I0 z,vn,vs] 46)).alloc (FT #[.string ⟨#[]⟩,.string ⟨#[]⟩,I0 0,I0 0,I0 0,I0 0,I0 0,I0 0,I0 0] 69)) z vn vs:=by
 refine⟨?_,?_,G8 (G7 _ _) (G7 _ _)⟩
 .rw[(G7 _ _).block _ (by simp)];exact heap_alloc_new w _
 .have h:=heap_alloc_new (w.alloc (FT #[I0 z,vn,vs] 46)) (FT #[.string ⟨#[]⟩,.string ⟨#[]⟩,I0 0,I0 0,I0 0,I0 0,I0 0,I0 0,I0 0] 69);rw[show (w.alloc (FT #[I0 z,vn,vs] 46)).heap.size=w.heap.size+1 by simp]at h;exact h
theorem GB.lt(h:GB w W z vn vs):w.heap.size+1<W.heap.size:=(AB.1 h.r).1
theorem GB.next(h:GB w W z vn vs)(hb:B0 W V):GB w V z vn vs:=by
 have:=h.lt;exact⟨(hb.block _ (by omega)).trans h.t,(hb.block _ (by omega)).trans h.r,G8 h.b hb⟩
theorem GB.c1(h:GB w W z vn vs):W.cell? ⟨w.heap.size,1,FX⟩=FZ vn:=by simp[World.cell?,h.t]
theorem GB.one(h:GB w W z vn vs):JM W (w.heap.size+1) VJ:=h.r
theorem BH3(z:Int)(vn vs:FV)(ns A B:List Nd)(p:List UInt8)(w:FU)(hn:IL w vn ns)(hl:ns.length<=100000)(G:lU ns A B p):
  FW prog 12 #[.agg #[I0 z,vn,vs],S0 p] w (R0 w (.tuple #[TM VJ,I0 7])):=by
 have CF:=G6 (fun W (hW:B0 w W)=>N7 vn ns A B p W (hn.next hW) hl G);have B0:=G6 (GB.new w z vn vs);obtain⟨na,nc,rfl⟩:=GK hn;clear hn G;go_enter func12,ntmps12;go_wp2_with fail;refine(G5 CF _ (G5 B0).b).mono ?_;rintro e w1 ⟨rfl,hb1⟩;have b1:=(G5 B0).next hb1;have o1:=b1.one;have c0:=o1.JH 0 _ rfl;have c1:=o1.JH 1 _ rfl;have c2:=o1.JH 2 _ rfl;have c3:=o1.JH 3 _ rfl;have c4:=o1.JH 4 _ rfl;have c5:=o1.JH 5 _ rfl;have c6:=o1.JH 6 _ rfl;have c7:=o1.JH 7 _ rfl;have c8:=o1.JH 8 _ rfl;have f0:=o1.J6 0;have f1:=o1.J6 1;have f2:=o1.J6 2;have f3:=o1.J6 3;have f4:=o1.J6 4;have f5:=o1.J6 5;have f6:=o1.J6 6;have f7:=o1.J6 7;have f8:=o1.J6 8;have BB:=b1.b;have HBB:=G6 BB;clear CF B0 hb1 b1 o1 BB;go_wp2_with fail;have BB:=G5 HBB;exact bodyPost_ret (v:=.tuple #[TM VJ,I0 7]) (by simp[results,results12,go_sem,TM,VJ,c0,c1,c2,c3,c4,c5,c6,c7,c8]) rfl
  ⟨rfl,((((((((BB.setCell (by simp) _).setCell (by simp) _).setCell (by simp) _).setCell (by simp) _).setCell (by simp) _).setCell (by simp) _).setCell (by simp) _).setCell (by simp) _).setCell (by simp) _⟩
theorem AI9(z:Int)(vn vs:FV)(ns A B:List Nd)(n:Nd)(p:List UInt8)(w:FU)(hn:IL w vn ns)(hl:ns.length<=100000)(T:KD ns A n B p)(hp:n.p.length<=140737488355328)(hd:n.d.length<=140737488355328):
  FW prog 12 #[.agg #[I0 z,vn,vs],S0 p] w (R0 w (.tuple #[TM n,I0 0])):=by
 have CF:=G6 (fun W (hW:B0 w W)=>JU vn ns A B n p W (hn.next hW) hl T);have CC:=G6 (fun W=>YP n W hp hd);unfold TM at CC;have hlt:A.length<ns.length:=by rw[T.eq];simp
 have hat:ns[A.length]?=FZ n:=by rw[T.eq];exact U7 A n B
 obtain⟨b,off,cap,rfl,hb,hr,_,_⟩:=NT hn (by rw[T.eq];simp);have HR:=G6 (fun W (hW:B0 w W)=>hr.kept hW hb);have B0:=G6 (GB.new w z (FQ (FZ ⟨b,off,FX⟩) ns.length cap) vs);clear hn T hr;have HAT:=G6 hat;clear hat;go_enter func12,ntmps12;go_wp2_with fail;refine(G5 CF _ (G5 B0).b).mono ?_;rintro e w1 ⟨rfl,hb1⟩;have b1:=(G5 B0).next hb1;have HB1:=G6 b1;have e1:=b1.c1;have q:=G5 HR w1 b1.b;have d0:=q.n0 (G5 HAT);have d1:=q.n1 (G5 HAT);have d2:=q.n2 (G5 HAT);have d3:=q.n3 (G5 HAT);have d4:=q.n4 (G5 HAT);have d5:=q.n5 (G5 HAT);have d6:=q.n6 (G5 HAT);have d7:=q.n7 (G5 HAT);have d8:=q.n8 (G5 HAT);clear q CF b1 hb1;go_wp2_with fail;refine(G5 CC _).mono ?_;rintro e w2 ⟨rfl,hb2⟩;have b2:=(G5 HB1).next hb2;have o1:=b2.one;have c0:=o1.JH 0 _ rfl;have c1:=o1.JH 1 _ rfl;have c2:=o1.JH 2 _ rfl;have c3:=o1.JH 3 _ rfl;have c4:=o1.JH 4 _ rfl;have c5:=o1.JH 5 _ rfl;have c6:=o1.JH 6 _ rfl;have c7:=o1.JH 7 _ rfl;have c8:=o1.JH 8 _ rfl;have f0:=o1.J6 0;have f1:=o1.J6 1;have f2:=o1.J6 2;have f3:=o1.J6 3;have f4:=o1.J6 4;have f5:=o1.J6 5;have f6:=o1.J6 6;have f7:=o1.J6 7;have f8:=o1.J6 8;have HBB:=G6 b2.b;clear b2 hb2 o1 CC d0 d1 d2 d3 d4 d5 d6 d7 d8 e1;go_wp2_with fail;have BB:=G5 HBB;exact bodyPost_ret (v:=.tuple #[TM n,I0 0]) (by simp[results,results12,go_sem,TM,c0,c1,c2,c3,c4,c5,c6,c7,c8]) rfl
  ⟨rfl,((((((((BB.setCell (by simp) _).setCell (by simp) _).setCell (by simp) _).setCell (by simp) _).setCell (by simp) _).setCell (by simp) _).setCell (by simp) _).setCell (by simp) _).setCell (by simp) _⟩
theorem aB:QV QE:=by
 refine⟨by decide,⟨List.Pairwise.nil,by simp[QE]⟩,⟨by decide,⟨yK,[],rfl,rfl,rfl⟩,List.pairwise_singleton _ _,?_⟩,?_⟩
 .intro n hn;obtain rfl:n=yK:=by simpa [QE]using hn
  refine⟨by decide,bJ,fun h=>absurd rfl h,by decide,by decide,by decide,by decide,by decide,by decide,by decide,by decide,?_,.inl rfl⟩;show (0:Int)=NQ [yK] [47];simp[NQ,yK,TY]
 .intro n hn;obtain rfl:n=yK:=by simpa [QE]using hn
  decide
theorem QV.wf(g:QV t):WfT t:=by
 refine⟨fun s hs=>by have:=g.ses.2 s hs;omega,fun n hn=>?_⟩;have k:=g.nod.ok n hn;have:=ML k.path;have:=k.data;omega
structure TT(w W:FU)(z:Int)(vn vs un us:FV):Prop where
 a:W.heap[w.heap.size]?=FZ (FT #[I0 z,vn,vs] 46 (0,0))
 b:W.heap[w.heap.size+1]?=FZ (FT #[I0 z,un,us] 46 (0,0))
 bl:B0 w W
theorem TT.new(w:FU)(z:Int)(vn vs un us:FV):TT w ((w.alloc (FT #[I0 z,vn,vs] 46)).alloc (FT #[I0 z,un,us] 46)) z vn vs un us:=by
 refine⟨?_,?_,G8 (G7 _ _) (G7 _ _)⟩
 .rw[(G7 _ _).block _ (by simp)];exact heap_alloc_new w _
 .have h:=heap_alloc_new (w.alloc (FT #[I0 z,vn,vs] 46)) (FT #[I0 z,un,us] 46);rw[show (w.alloc (FT #[I0 z,vn,vs] 46)).heap.size=w.heap.size+1 by simp]at h;exact h
theorem TT.next{un us:FV}(h:TT w W z vn vs un us)(hb:B0 W V):TT w V z vn vs un us:=
 ⟨(hb.block _ (AB.1 h.a).1).trans h.a,(hb.block _ (AB.1 h.b).1).trans h.b,G8 h.bl hb⟩
theorem TT.six{un us:FV}(h:TT w W z vn vs un us):W.cell? ⟨w.heap.size,0,FX⟩=FZ (I0 z)/\W.cell? ⟨w.heap.size,1,FX⟩=FZ vn/\W.cell? ⟨w.heap.size,2,FX⟩=FZ vs/\W.cell? ⟨w.heap.size+1,0,FX⟩=FZ (I0 z)/\W.cell? ⟨w.heap.size+1,1,FX⟩=FZ un/\W.cell? ⟨w.heap.size+1,2,FX⟩=FZ us:=by
 have h1:=h.a;have h2:=h.b;refine⟨?_,?_,?_,?_,?_,?_⟩<;>simp[World.cell?,h1,h2]
theorem AY7(t:Tr)(x:GI):(iH t x).ns.length<=140737488355328/\(iH t x).ss.length<=140737488355328/\(Y9 t x).length<=140737488355328:=by
 by_cases h:XZ t x=0
 .obtain⟨g2,_,_⟩:=ZK h;obtain⟨ha,_⟩:=oV h;obtain⟨g,_,_⟩:=PW ha;have few:=g.nod.few;refine⟨by have:=g2.nod.few;omega,by have:=SX g2.ses;omega,?_⟩;rw[Y9,if_pos h,oU]
  split
  .rw[A54];have:(OG t.ns x.s).length<=t.ns.length:=by
    rw[OG,List.length_map];exact List.length_filter_le _ _
   omega
  .split
   .simp
   .split
    .simp
    .split<;>simp
 .rw[iH,if_neg h,Y9,if_neg h];exact⟨by decide,by decide,by decide⟩
