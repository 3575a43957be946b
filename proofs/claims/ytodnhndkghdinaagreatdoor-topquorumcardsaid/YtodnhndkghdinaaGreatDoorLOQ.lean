/-
  Part.
-/
import Derived.Test.YtodnhndkghdinaaGreatDoorLOP
import Derived.Lib.ConvBytes
import Derived.Laws.EntriesVeiled
set_option maxRecDepth 20000
set_option maxHeartbeats 8000000
namespace Go.Proofs.YtodnhndkghdinaaGreatDoor
open Go.RowKit Go.Proofs.Tryz
variable{W w V:World}{t:Tr}{x:AQ}{q:Nat}{z:Int}{vn vs:Value}
theorem BF.raise{α:Type}[Lay α]{B:Nat}{v:Value}{xs:List α}(h:BF W 0 v xs)(hb:∀k,v.ownBlock=some k→B≤k):BF W B v xs:=by
 rcases h with h|⟨g,cap,rfl,_,h⟩
 ·exact .inl h
 ·exact .inr ⟨g,cap,rfl,hb g rfl,h⟩
def XL(w:World)(t:Tr)(x:AQ)(e:Ending)(w':World):Prop:=
 ∃vn vs ve,e=.returned (.tuple #[.agg #[I0 (bU t x).z,vn,vs],ve,I0 (UW t x)])∧BF w' w.heap.size vn (bU t x).ns∧BF w' w.heap.size vs (bU t x).ss∧BF w' w.heap.size ve (V9 t x)∧B0 w w'
theorem A15{w':World}{E:Int}{e:Ending}(hE:UW t x=E)(h0:E≠0)(he:e=.returned (.tuple #[.agg #[I0 0,N0,N0],N0,I0 E]))(hb:B0 w w'):XL w t x e w':=by
 have h1:bU t x=tr0:=by rw[bU,if_neg (by omega)]
 have h2:V9 t x=[]:=by rw[V9,if_neg (by omega)]
 refine⟨N0,N0,N0,?_,?_,?_,?_,hb⟩
 ·rw[hE,h1];exact he
 ·rw[h1];exact .inl ⟨rfl,rfl⟩
 ·rw[h1];exact .inl ⟨rfl,rfl⟩
 ·rw[h2];exact .inl ⟨rfl,rfl⟩
structure tK(W:World)(q:Nat)(z:Int)(vn vs:Value)(x:AQ):Prop where
 t:W.heap[q]?=some (.cells #[I0 z,vn,vs] 45 (0,0))
 x:TAt W (q+1) x
 r:W.heap[q+2]?=some (.cells #[I0 0,N0,N0] 45 (0,0))
theorem tK.new(w:World)(z:Int)(vn vs:Value)(x:AQ):tK (((w.alloc (.cells #[I0 z,vn,vs] 45)).alloc (.cells #[I0 x.z,I0 x.o,I0 x.s,S0 x.p,S0 x.d,I0 x.v,I0 x.w] 62)).alloc (.cells #[I0 0,N0,N0] 45)) w.heap.size z vn vs x:=by
 refine⟨?_,?_,?_⟩
 ·rw[(AB _ _).block _ (by simp;omega),(AB _ _).block _ (by simp)];exact heap_alloc_new w _
 ·have h:=(TAt.new (w.alloc (.cells #[I0 z,vn,vs] 45)) x).next (AB _ (.cells #[I0 0,N0,N0] 45));simpa using h
 ·have h:=heap_alloc_new ((w.alloc (.cells #[I0 z,vn,vs] 45)).alloc (.cells #[I0 x.z,I0 x.o,I0 x.s,S0 x.p,S0 x.d,I0 x.v,I0 x.w] 62)) (.cells #[I0 0,N0,N0] 45);rw[show ((w.alloc (.cells #[I0 z,vn,vs] 45)).alloc (.cells #[I0 x.z,I0 x.o,I0 x.s,S0 x.p,S0 x.d,I0 x.v,I0 x.w] 62)).heap.size=w.heap.size+2 by simp]at h;exact h
theorem tK.lt(h:tK W q z vn vs x):q+2<W.heap.size:=(Array.getElem?_eq_some_iff.1 h.r).1
theorem tK.touch{F:Nat→Prop}(h:tK W q z vn vs x)(ht:Touch F W V)(hf:∀k,F k→q+3≤k):tK V q z vn vs x:=by
 have:=h.lt;have n0:∀k,k<q+3→¬F k:=fun k hk hF=>by have:=hf k hF;omega
 exact⟨(ht.block _ (by omega) (n0 _ (by omega))).trans h.t,(ht.block _ (by omega) (n0 _ (by omega))).trans h.x,(ht.block _ (by omega) (n0 _ (by omega))).trans h.r⟩
theorem tK.next(h:tK W q z vn vs x)(hb:B0 W V):tK V q z vn vs x:=h.touch (F:=fun _=>False) (Touch.of_below hb) (fun _ hF=>hF.elim)
theorem tK.cells(h:tK W q z vn vs x):W.cell? ⟨q,0,none⟩=some (I0 z)∧W.cell? ⟨q,1,none⟩=some vn∧W.cell? ⟨q,2,none⟩=some vs∧W.cell? ⟨q+2,0,none⟩=some (I0 0)∧W.cell? ⟨q+2,1,none⟩=some (N0)∧W.cell? ⟨q+2,2,none⟩=some (N0)∧W.frozen? ⟨q+2,0,none⟩=false∧W.frozen? ⟨q+2,1,none⟩=false∧W.frozen? ⟨q+2,2,none⟩=false:=by
 have h1:=h.t;have h2:=h.r;refine⟨?_,?_,?_,?_,?_,?_,?_,?_,?_⟩<;>simp[World.cell?,World.frozen?,h1,h2]
theorem AR7(t:Tr)(vn vs:Value)(x:AQ)(w:World)(hn:BZ w vn t.ns)(hs:BZ w vs t.ss)(hw:WfT t)(hd:x.d.length≤140737488355328)(ha:RZ t x≠0):
  Calls prog 137 #[.agg #[I0 t.z,vn,vs],DX x] w (XL w t x):=by
 have CA:=AA (fun W (hW:B0 w W)=>qN t vn vs x W (hn.next hW) (hs.next hW) hw hd);have FIN:=AA (fun w' e h hb=>A15 (w:=w) (w':=w') (e:=e) (BA2 ha) ha h hb);have hab:(RZ t x !=0)=true:=by simpa using ha
 obtain⟨na,nc,rfl⟩:=AU hn;obtain⟨sa,sc,rfl⟩:=AU hs;clear hn hs hw ha;generalize RZ t x=E at hab CA FIN;generalize hQ:XL w t x=Q at FIN⊢;clear hQ;obtain⟨xz,xo,xs,xp,xd,xv,xw⟩:=x;unfold DX at*;simp only at*;have KB:∀W,Below (((w.alloc (.cells #[I0 t.z,.slice na t.ns.length nc,.slice sa t.ss.length sc] 45)).alloc (.cells #[I0 xz,I0 xo,I0 xs,S0 xp,S0 xd,I0 xv,I0 xw] 62)).alloc (.cells #[I0 0,N0,N0] 45)).heap.size (((w.alloc (.cells #[I0 t.z,.slice na t.ns.length nc,.slice sa t.ss.length sc] 45)).alloc (.cells #[I0 xz,I0 xo,I0 xs,S0 xp,S0 xd,I0 xv,I0 xw] 62)).alloc (.cells #[I0 0,N0,N0] 45)) W→tK W w.heap.size t.z (.slice na t.ns.length nc) (.slice sa t.ss.length sc) ⟨xz,xo,xs,xp,xd,xv,xw⟩∧B0 w W:=fun W h=>⟨(tK.new w _ _ _ ⟨xz,xo,xs,xp,xd,xv,xw⟩).next h,AY (AY (AY h))⟩;have HKB:=AA KB;clear KB;go_enter func137,ntmps137;go_wp2_with fail;refine(A8 CA _ (AL (AL (AB _ _) (AB _ _)) (AB _ _))).mono ?_;rintro e w1 ⟨rfl,hb1⟩;obtain⟨b1,B1⟩:=A8 HKB w1 hb1;obtain⟨k0,k1,k2,k3,k4,k5,k6,k7,k8⟩:=b1.cells;have j0:=b1.x.c0;have j1:=b1.x.c1;have j2:=b1.x.c2;have j3:=b1.x.c3;have j4:=b1.x.c4;have j5:=b1.x.c5;have j6:=b1.x.c6;have HB1:=AA B1;have HX1:=AA b1;clear hb1 b1 B1;go_wp2_with fail;exact bodyPost_ret (v:=.tuple #[.agg #[I0 0,N0,N0],N0,I0 E]) (by simp[results,results137,go_sem,k3,k4,k5]) rfl (A8 FIN _ _ rfl ((((A8 HB1).setCell (by show w.heap.size≤w.heap.size+1+1;omega) _).setCell (by show w.heap.size≤w.heap.size+1+1;omega) _).setCell (by show w.heap.size≤w.heap.size+1+1;omega) _))
theorem AR8{B b:Nat}{ve:Value}{v0 v1 v2:Value}(ha:UW t x=0)(hg:Grow W (fun k=>B≤k) b x.z vn vs ve (ZT t x) (kS t x) (kT t x))(hq:w.heap.size+3≤B)(hb:B0 w W):
  XL w t x (.returned (.tuple #[.agg #[I0 x.z,vn,vs],ve,I0 0])) (((W.setCell ⟨w.heap.size+2,0,none⟩ v0).setCell ⟨w.heap.size+2,1,none⟩ v1).setCell ⟨w.heap.size+2,2,none⟩ v2).drew:=by
 have h1:bU t x=⟨x.z,ZT t x,kS t x⟩:=by rw[bU,if_pos ha]
 have h2:V9 t x=kT t x:=by rw[V9,if_pos ha]
 have nn:∀k,vn.ownBlock=some k→w.heap.size+3≤k:=fun k hk=>Nat.le_trans hq (hg.fn k hk).1;have ns:∀k,vs.ownBlock=some k→w.heap.size+3≤k:=fun k hk=>Nat.le_trans hq (hg.fs k hk).1;have ne:∀k,ve.ownBlock=some k→w.heap.size+3≤k:=fun k hk=>Nat.le_trans hq (hg.fe k hk).1;have no:∀ {v:Value},(∀k,v.ownBlock=some k→w.heap.size+3≤k)→v.ownBlock≠some (w.heap.size+2):=fun h e=>by have:=h _ e;omega
 refine⟨vn,vs,ve,by rw[h1,ha],?_,?_,?_,?_⟩
 ·rw[h1];exact(((hg.n.raise (fun k hk=>by have:=nn k hk;omega)).other (no nn) _).other (no nn) _).other (no nn) _|>.next (Below.refl _ _).drew
 ·rw[h1];exact(((hg.s.raise (fun k hk=>by have:=ns k hk;omega)).other (no ns) _).other (no ns) _).other (no ns) _|>.next (Below.refl _ _).drew
 ·rw[h2];exact(((hg.e.raise (fun k hk=>by have:=ne k hk;omega)).other (no ne) _).other (no ne) _).other (no ne) _|>.next (Below.refl _ _).drew
 ·exact(((hb.setCell (by simp) _).setCell (by simp) _).setCell (by simp) _).drew
theorem AR9(t:Tr)(vn vs:Value)(x:AQ)(w:World)(hn:BZ w vn t.ns)(hs:BZ w vs t.ss)(hw:WfT t)(hd:x.d.length≤140737488355328)(ha:RZ t x=0):
  Calls prog 137 #[.agg #[I0 t.z,vn,vs],DX x] w (XL w t x):=by
 have CA:=AA (fun W (hW:B0 w W)=>qN t vn vs x W (hn.next hW) (hs.next hW) hw hd);rw[ha]at CA;obtain⟨g,_⟩:=LV ha;have few:=g.nod.few;have sl:=OV g.ses;have CB:=AA (fun W (hW:B0 w W)=>AQ2 t vn vs x.z W (hn.next hW) (hs.next hW) few sl hw.BM2);have CC:=AA (fun(F:Nat→Prop) b vn' vs' W (hG:Grow W F b x.z vn' vs' (N0) t.ns t.ss []) hF=>AC2 F b t vn' vs' x W hG hF ha);have hap:=A12 ha;have FNO:=AA (fun w' e (h0:jE t x≠0) h hb=>A15 (w:=w) (w':=w') (e:=e) hap h0 h hb);have FYE:=AA (fun(W:World) (B b:Nat) (vn vs ve v0 v1 v2:Value) (h0:jE t x=0) hg hq hb=>AR8 (w:=w) (W:=W) (t:=t) (x:=x) (B:=B) (b:=b) (vn:=vn) (vs:=vs) (ve:=ve) (v0:=v0) (v1:=v1) (v2:=v2) (hap.trans h0) hg hq hb);obtain⟨na,nc,rfl⟩:=AU hn;obtain⟨sa,sc,rfl⟩:=AU hs;clear hn hs hw ha hap g few sl;generalize hQ:XL w t x=Q at FNO FYE⊢;clear hQ;obtain⟨E,hE⟩:∃E,jE t x=E:=⟨_,rfl⟩;unfold Chg at CC;rw[hE]at CC FNO FYE;clear hE;obtain⟨xz,xo,xs,xp,xd,xv,xw⟩:=x;unfold DX at*;simp only at*;have KB:∀W,Below (((w.alloc (.cells #[I0 t.z,.slice na t.ns.length nc,.slice sa t.ss.length sc] 45)).alloc (.cells #[I0 xz,I0 xo,I0 xs,S0 xp,S0 xd,I0 xv,I0 xw] 62)).alloc (.cells #[I0 0,N0,N0] 45)).heap.size (((w.alloc (.cells #[I0 t.z,.slice na t.ns.length nc,.slice sa t.ss.length sc] 45)).alloc (.cells #[I0 xz,I0 xo,I0 xs,S0 xp,S0 xd,I0 xv,I0 xw] 62)).alloc (.cells #[I0 0,N0,N0] 45)) W→tK W w.heap.size t.z (.slice na t.ns.length nc) (.slice sa t.ss.length sc) ⟨xz,xo,xs,xp,xd,xv,xw⟩∧B0 w W:=fun W h=>⟨(tK.new w _ _ _ ⟨xz,xo,xs,xp,xd,xv,xw⟩).next h,AY (AY (AY h))⟩;have HKB:=AA KB;clear KB;go_enter func137,ntmps137;go_wp2_with fail;refine(A8 CA _ (AL (AL (AB _ _) (AB _ _)) (AB _ _))).mono ?_;rintro e w1 ⟨rfl,hb1⟩;obtain⟨b1,B1⟩:=A8 HKB w1 hb1;obtain⟨k0,k1,k2,k3,k4,k5,k6,k7,k8⟩:=b1.cells;have j0:=b1.x.c0;have j1:=b1.x.c1;have j2:=b1.x.c2;have j3:=b1.x.c3;have j4:=b1.x.c4;have j5:=b1.x.c5;have j6:=b1.x.c6;have HB1:=AA B1;have HX1:=AA b1;clear hb1 b1 B1;go_wp2_with fail;refine(A8 CB _ (A8 HB1)).mono ?_;rintro e w2 ⟨b,vn2,vs2,rfl,g2,hb2⟩;have b2:=(A8 HX1).next hb2;obtain⟨m0,m1,m2,m3,m4,m5,m6,m7,m8⟩:=b2.cells;have i0:=b2.x.c0;have i1:=b2.x.c1;have i2:=b2.x.c2;have i3:=b2.x.c3;have i4:=b2.x.c4;have i5:=b2.x.c5;have i6:=b2.x.c6;have HB2:=AA (AL (A8 HB1) hb2);have HX2:=AA b2;have HG2:=AA g2;have hsz2:=hb2.size;clear hb2 g2 b2 k0 k1 k2 k3 k4 k5 k6 k7 k8 j0 j1 j2 j3 j4 j5 j6 CB CA;go_wp2_with fail;refine(A8 CC _ _ _ _ _ (A8 HG2) (fun k hk=>Nat.le_trans hsz2 hk)).mono ?_;rintro e w3 ⟨rfl,t3,g3⟩;have q1:=(A8 HX1).lt;have b3:=(A8 HX2).touch t3 (fun k hk=>by omega);obtain⟨n0,n1,n2,n3,n4,n5,n6,n7,n8⟩:=b3.cells;have B3:B0 w w3:=(A8 HB2).trans (t3.below (by omega) (fun k hk=>by omega));have HB3:=AA B3;clear CC b3 B3 t3 m0 m1 m2 m3 m4 m5 m6 m7 m8 i0 i1 i2 i3 i4 i5 i6;by_cases h0:E=0
 ·obtain⟨vn3,vs3,ve3,g3⟩:=g3 h0;have d0:=g3.c0;have d1:=g3.c1;have d2:=g3.c2;have d3:=g3.c3;obtain⟨na3,nc3,hn3,_⟩:=g3.n.slice;obtain⟨sa3,sc3,hs3,_⟩:=g3.s.slice;obtain⟨ea3,ec3,he3,_⟩:=g3.e.slice;have HG3:=AA g3;have hbl:=g3.lt;have hbq:w1.heap.size≤b:=g3.fb;have hne:b≠w.heap.size+2:=by omega
  have FY:=AA (fun(v0 v1 v2:Value)=>A8 FYE w3 w1.heap.size b vn3 vs3 ve3 v0 v1 v2 h0 (A8 HG3) (by omega) (A8 HB3));subst hn3 hs3 he3 h0;clear g3 FYE FNO HG3;go_wp2_with fail;go_region;go_wp2_with fail;exact bodyPost_ret (v:=.tuple #[.agg #[I0 xz,.slice na3 (ZT t ⟨xz,xo,xs,xp,xd,xv,xw⟩).length nc3,.slice sa3 (kS t ⟨xz,xo,xs,xp,xd,xv,xw⟩).length sc3],.slice ea3 (kT t ⟨xz,xo,xs,xp,xd,xv,xw⟩).length ec3,I0 0]) (by simp[results,results137,go_sem,n3,n4,n5]) rfl (A8 FY _ _ _)
 ·have h0b:(E !=0)=true:=by simpa using h0
  have FN:=AA (fun w' e h hb=>A8 FNO w' e h0 h hb);clear g3 FYE FNO h0;go_wp2_with fail;exact bodyPost_ret (v:=.tuple #[.agg #[I0 0,N0,N0],N0,I0 E]) (by simp[results,results137,go_sem,n3,n4,n5]) rfl (A8 FN _ _ rfl ((((A8 HB3).setCell (by show w.heap.size≤w.heap.size+1+1;omega) _).setCell (by show w.heap.size≤w.heap.size+1+1;omega) _).setCell (by show w.heap.size≤w.heap.size+1+1;omega) _))
theorem qO(t:Tr)(vn vs:Value)(x:AQ)(w:World)(hn:BZ w vn t.ns)(hs:BZ w vs t.ss)(hw:WfT t)(hd:x.d.length≤140737488355328):
  Calls prog 137 #[.agg #[I0 t.z,vn,vs],DX x] w (XL w t x):=by
 by_cases ha:RZ t x=0
 ·exact AR9 t vn vs x w hn hs hw hd ha
 ·exact AR7 t vn vs x w hn hs hw hd ha
def AS0(w:World)(t:Tr)(e:Ending)(w':World):Prop:=
 ∃vn vs,e=.returned (.agg #[I0 t.z,vn,vs])∧BF w' w.heap.size vn t.ns∧BF w' w.heap.size vs t.ss∧B0 w w'
theorem BB4(w:World):BF (w.alloc (.cells #[.string ⟨#[47]⟩,.string ⟨#[]⟩,I0 0,I0 0,I0 0,I0 0,I0 0,I0 0,I0 0] 58)) w.heap.size (.slice (some ⟨w.heap.size,0,none⟩) 1 1) [uP]:=
 .inr ⟨w.heap.size,1,rfl,Nat.le_refl _,[],by rw[heap_alloc_new];rfl,by decide,by decide,by decide⟩
theorem A16(w:World):Calls prog 39 #[] w (AS0 w MI):=by
 have H:Hid (AS0 w MI (.returned (.agg #[I0 0,.slice (some ⟨w.heap.size+1,0,none⟩) 1 1,N0])) ((w.alloc (.cells #[I0 0,.slice (some ⟨w.heap.size+1,0,none⟩) 1 1,N0] 45)).alloc (.cells #[.string ⟨#[47]⟩,.string ⟨#[]⟩,I0 0,I0 0,I0 0,I0 0,I0 0,I0 0,I0 0] 58))):=by
  have h:=BB4 (w.alloc (.cells #[I0 0,.slice (some ⟨w.heap.size+1,0,none⟩) 1 1,N0] 45));rw[show (w.alloc (.cells #[I0 0,.slice (some ⟨w.heap.size+1,0,none⟩) 1 1,N0] 45)).heap.size=w.heap.size+1 by simp]at h;exact⟨_,_,rfl,h.lower (by omega),.inl ⟨rfl,rfl⟩,AL (AB _ _) (AB _ _)⟩
 go_enter func39,ntmps39;go_wp2_with fail;exact bodyPost_ret (v:=.agg #[I0 0,.slice (some ⟨w.heap.size+1,0,none⟩) 1 1,N0]) (by simp[results,results39,go_sem]) rfl (A8 H)
structure GB(w W:World)(z:Int)(vn vs:Value):Prop where
 t:W.heap[w.heap.size]?=some (.cells #[I0 z,vn,vs] 45 (0,0))
 r:W.heap[w.heap.size+1]?=some (.cells #[.string ⟨#[]⟩,.string ⟨#[]⟩,I0 0,I0 0,I0 0,I0 0,I0 0,I0 0,I0 0] 58 (0,0))
 b:B0 w W
theorem GB.new(w:World)(z:Int)(vn vs:Value):GB w ((w.alloc (.cells #[I0 z,vn,vs] 45)).alloc (.cells #[.string ⟨#[]⟩,.string ⟨#[]⟩,I0 0,I0 0,I0 0,I0 0,I0 0,I0 0,I0 0] 58)) z vn vs:=by
 refine⟨?_,?_,AL (AB _ _) (AB _ _)⟩
 ·rw[(AB _ _).block _ (by simp)];exact heap_alloc_new w _
 ·have h:=heap_alloc_new (w.alloc (.cells #[I0 z,vn,vs] 45)) (.cells #[.string ⟨#[]⟩,.string ⟨#[]⟩,I0 0,I0 0,I0 0,I0 0,I0 0,I0 0,I0 0] 58);rw[show (w.alloc (.cells #[I0 z,vn,vs] 45)).heap.size=w.heap.size+1 by simp]at h;exact h
theorem GB.lt(h:GB w W z vn vs):w.heap.size+1<W.heap.size:=(Array.getElem?_eq_some_iff.1 h.r).1
theorem GB.next(h:GB w W z vn vs)(hb:B0 W V):GB w V z vn vs:=by
 have:=h.lt;exact⟨(hb.block _ (by omega)).trans h.t,(hb.block _ (by omega)).trans h.r,AL h.b hb⟩
theorem GB.c1(h:GB w W z vn vs):W.cell? ⟨w.heap.size,1,none⟩=some vn:=by simp[World.cell?,h.t]
theorem GB.one(h:GB w W z vn vs):F5 W (w.heap.size+1) RV:=h.r
theorem BB5(z:Int)(vn vs:Value)(ns A B:List Nd)(p:List UInt8)(w:World)(hn:BZ w vn ns)(hl:ns.length≤100000)(G:iM ns A B p):
  Calls prog 91 #[.agg #[I0 z,vn,vs],S0 p] w (R0 w (.tuple #[PD RV,I0 7])):=by
 have CF:=AA (fun W (hW:B0 w W)=>J8 vn ns A B p W (hn.next hW) hl G);have B0:=AA (GB.new w z vn vs);obtain⟨na,nc,rfl⟩:=AU hn;clear hn G;go_enter func91,ntmps91;go_wp2_with fail;refine(A8 CF _ (A8 B0).b).mono ?_;rintro e w1 ⟨rfl,hb1⟩;have b1:=(A8 B0).next hb1;have o1:=b1.one;have c0:=o1.ER 0 _ rfl;have c1:=o1.ER 1 _ rfl;have c2:=o1.ER 2 _ rfl;have c3:=o1.ER 3 _ rfl;have c4:=o1.ER 4 _ rfl;have c5:=o1.ER 5 _ rfl;have c6:=o1.ER 6 _ rfl;have c7:=o1.ER 7 _ rfl;have c8:=o1.ER 8 _ rfl;have f0:=o1.DW 0;have f1:=o1.DW 1;have f2:=o1.DW 2;have f3:=o1.DW 3;have f4:=o1.DW 4;have f5:=o1.DW 5;have f6:=o1.DW 6;have f7:=o1.DW 7;have f8:=o1.DW 8;have BB:=b1.b;have HBB:=AA BB;clear CF B0 hb1 b1 o1 BB;go_wp2_with fail;have BB:=A8 HBB;exact bodyPost_ret (v:=.tuple #[PD RV,I0 7]) (by simp[results,results91,go_sem,PD,RV,c0,c1,c2,c3,c4,c5,c6,c7,c8]) rfl
  ⟨rfl,((((((((BB.setCell (by simp) _).setCell (by simp) _).setCell (by simp) _).setCell (by simp) _).setCell (by simp) _).setCell (by simp) _).setCell (by simp) _).setCell (by simp) _).setCell (by simp) _⟩
theorem AC6(z:Int)(vn vs:Value)(ns A B:List Nd)(n:Nd)(p:List UInt8)(w:World)(hn:BZ w vn ns)(hl:ns.length≤100000)(T:FP ns A n B p)(hp:n.p.length≤140737488355328)(hd:n.d.length≤140737488355328):
  Calls prog 91 #[.agg #[I0 z,vn,vs],S0 p] w (R0 w (.tuple #[PD n,I0 0])):=by
 have CF:=AA (fun W (hW:B0 w W)=>F8 vn ns A B n p W (hn.next hW) hl T);have CC:=AA (fun W=>VQ n W hp hd);unfold PD at CC;have hlt:A.length<ns.length:=by rw[T.eq];simp
 have hat:ns[A.length]?=some n:=by rw[T.eq];exact Q8 A n B
 obtain⟨b,off,cap,rfl,hb,hr,_,_⟩:=JG hn (by rw[T.eq];simp);have HR:=AA (fun W (hW:B0 w W)=>hr.kept hW hb);have B0:=AA (GB.new w z (.slice (some ⟨b,off,none⟩) ns.length cap) vs);clear hn T hr;have HAT:=AA hat;clear hat;go_enter func91,ntmps91;go_wp2_with fail;refine(A8 CF _ (A8 B0).b).mono ?_;rintro e w1 ⟨rfl,hb1⟩;have b1:=(A8 B0).next hb1;have HB1:=AA b1;have e1:=b1.c1;have q:=A8 HR w1 b1.b;have d0:=q.n0 (A8 HAT);have d1:=q.n1 (A8 HAT);have d2:=q.n2 (A8 HAT);have d3:=q.n3 (A8 HAT);have d4:=q.n4 (A8 HAT);have d5:=q.n5 (A8 HAT);have d6:=q.n6 (A8 HAT);have d7:=q.n7 (A8 HAT);have d8:=q.n8 (A8 HAT);clear q CF b1 hb1;go_wp2_with fail;refine(A8 CC _).mono ?_;rintro e w2 ⟨rfl,hb2⟩;have b2:=(A8 HB1).next hb2;have o1:=b2.one;have c0:=o1.ER 0 _ rfl;have c1:=o1.ER 1 _ rfl;have c2:=o1.ER 2 _ rfl;have c3:=o1.ER 3 _ rfl;have c4:=o1.ER 4 _ rfl;have c5:=o1.ER 5 _ rfl;have c6:=o1.ER 6 _ rfl;have c7:=o1.ER 7 _ rfl;have c8:=o1.ER 8 _ rfl;have f0:=o1.DW 0;have f1:=o1.DW 1;have f2:=o1.DW 2;have f3:=o1.DW 3;have f4:=o1.DW 4;have f5:=o1.DW 5;have f6:=o1.DW 6;have f7:=o1.DW 7;have f8:=o1.DW 8;have HBB:=AA b2.b;clear b2 hb2 o1 CC d0 d1 d2 d3 d4 d5 d6 d7 d8 e1;go_wp2_with fail;have BB:=A8 HBB;exact bodyPost_ret (v:=.tuple #[PD n,I0 0]) (by simp[results,results91,go_sem,PD,c0,c1,c2,c3,c4,c5,c6,c7,c8]) rfl
  ⟨rfl,((((((((BB.setCell (by simp) _).setCell (by simp) _).setCell (by simp) _).setCell (by simp) _).setCell (by simp) _).setCell (by simp) _).setCell (by simp) _).setCell (by simp) _).setCell (by simp) _⟩
theorem UN:MQ MI:=by
 refine⟨by decide,⟨List.Pairwise.nil,by simp[MI]⟩,⟨by decide,⟨uP,[],rfl,rfl,rfl⟩,List.pairwise_singleton _ _,?_⟩,?_⟩
 ·intro n hn;obtain rfl:n=uP:=by simpa [MI]using hn
  refine⟨by decide,YJ,fun h=>absurd rfl h,by decide,by decide,by decide,by decide,by decide,by decide,by decide,by decide,?_,.inl rfl⟩;show (0:Int)=JF [uP] [47];simp[JF,uP,PV]
 ·intro n hn;obtain rfl:n=uP:=by simpa [MI]using hn
  decide
theorem MQ.wf(g:MQ t):WfT t:=by
 refine⟨fun s hs=>by have:=g.ses.2 s hs;omega,fun n hn=>?_⟩;have k:=g.nod.ok n hn;have:=IQ k.path;have:=k.data;omega
theorem AS1(t:Tr)(x:AQ):(bU t x).ns.length≤140737488355328∧(bU t x).ss.length≤140737488355328∧(V9 t x).length≤140737488355328:=by
 by_cases h:UW t x=0
 ·obtain⟨g2,_,_⟩:=WY h;obtain⟨ha,_⟩:=kU h;obtain⟨g,_,_⟩:=LV ha;have few:=g.nod.few;refine⟨by have:=g2.nod.few;omega,by have:=OV g2.ses;omega,?_⟩;rw[V9,if_pos h,kT]
  split
  ·rw[zJ];have:(JZ t.ns x.s).length≤t.ns.length:=by
    rw[JZ,List.length_map];exact List.length_filter_le _ _
   omega
  ·split
   ·simp
   ·split
    ·simp
    ·split<;>simp
 ·rw[bU,if_neg h,V9,if_neg h];exact⟨by decide,by decide,by decide⟩
end Go.Proofs.YtodnhndkghdinaaGreatDoor
