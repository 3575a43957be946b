/-
  Part.
-/
import Derived.Test.YtodnhndkghdinaaGreatDoorLOF
import Derived.Test.YtodnhndkghdinaaGreatDoorLOC
set_option maxRecDepth 20000
set_option maxHeartbeats 8000000
namespace Go.Proofs.YtodnhndkghdinaaGreatDoor
open Go.RowKit Go.Proofs.Tryz
variable{W V:World}{a:Int}{b:Bool}{t:AQ}{g B:Nat}{r l:List UInt8}
theorem vZ{w1:World}(hb:B0 W w1):(∀b o,b<W.heap.size→w1.cell? ⟨b,o,none⟩=W.cell? ⟨b,o,none⟩)∧(∀b o,b<W.heap.size→w1.frozen? ⟨b,o,none⟩=W.frozen? ⟨b,o,none⟩):=
 ⟨fun b o h=>hb.cell (p:=⟨b,o,none⟩) h,fun b o h=>hb.frozen (p:=⟨b,o,none⟩) h⟩
theorem EW(n k:Int)(w:World):
  Calls prog 128 #[I0 n,I0 k] w fun e w'=>e=.returned (.bool (uF n k))∧w'=w:=by
 go_enter func128,ntmps128
 go_wp2
 all_goals go_ret
 all_goals exact⟨OD (by rw[Bool.eq_iff_iff,QJ];simp;try omega),rfl⟩
theorem OX{w:World}{o:Obj}{w1:World}(h:Below (w.alloc o).heap.size (w.alloc o) w1):B0 w w1:=
 ((Below.refl _ _).alloc (Nat.le_refl _) _).trans (h.mono (by simp))
theorem B91{o:Int}(h:opB o=true):o=1∨o=2∨o=3∨o=4∨o=5:=by have:=bI.1 h;omega
theorem fm_1(z s:Int)(p d:List UInt8)(v u:Int):fmB ⟨z,1,s,p,d,v,u⟩=(p==[]&&d==[]&&v==0&&u==0):=rfl
theorem fm_2(z s:Int)(p d:List UInt8)(v u:Int):fmB ⟨z,2,s,p,d,v,u⟩=(p==[]&&d==[]&&v==0&&u==0):=rfl
theorem fm_3(z s:Int)(p d:List UInt8)(v u:Int):fmB ⟨z,3,s,p,d,v,u⟩=(DU p&& !(p==[47])&&v==0):=rfl
theorem fm_4(z s:Int)(p d:List UInt8)(v u:Int):fmB ⟨z,4,s,p,d,v,u⟩=(DU p&& !(p==[47])&&d==[]&&v==0&&u==0):=rfl
theorem fm_5(z s:Int)(p d:List UInt8)(v u:Int):fmB ⟨z,5,s,p,d,v,u⟩=(DU p&&u==0):=rfl
theorem B92(z s:Int)(p d:List UInt8)(v u:Int)(w:World):
  Calls prog 129 #[.agg #[I0 z,I0 1,I0 s,S0 p,S0 d,I0 v,I0 u]] w (R0 w (.bool (fmB ⟨z,1,s,p,d,v,u⟩))):=by
 rw[fm_1]
 cases hg:DU p
 all_goals
  have Hg:=AA hg;clear hg;go_enter func129,ntmps129;go_wp2_with fail;refine(H7 _ _).mono ?_;rintro e w1 ⟨rfl,hb1⟩;have hbz:=OX hb1;obtain⟨hc,hf⟩:=vZ hb1;rw[show (ByteArray.mk p.toArray).data.toList=p from rfl,A8 Hg];go_wp2_with fail
  all_goals go_ret
  all_goals (clear hc hf hb1)
  all_goals (refine⟨OD ?_,hbz⟩;clear hbz Hg;simp[*])
theorem B93(z s:Int)(p d:List UInt8)(v u:Int)(w:World):
  Calls prog 129 #[.agg #[I0 z,I0 2,I0 s,S0 p,S0 d,I0 v,I0 u]] w (R0 w (.bool (fmB ⟨z,2,s,p,d,v,u⟩))):=by
 rw[fm_2]
 cases hg:DU p
 all_goals
  have Hg:=AA hg;clear hg;go_enter func129,ntmps129;go_wp2_with fail;refine(H7 _ _).mono ?_;rintro e w1 ⟨rfl,hb1⟩;have hbz:=OX hb1;obtain⟨hc,hf⟩:=vZ hb1;rw[show (ByteArray.mk p.toArray).data.toList=p from rfl,A8 Hg];go_wp2_with fail
  all_goals go_ret
  all_goals (clear hc hf hb1)
  all_goals (refine⟨OD ?_,hbz⟩;clear hbz Hg;simp[*])
theorem B94(z s:Int)(p d:List UInt8)(v u:Int)(w:World):
  Calls prog 129 #[.agg #[I0 z,I0 3,I0 s,S0 p,S0 d,I0 v,I0 u]] w (R0 w (.bool (fmB ⟨z,3,s,p,d,v,u⟩))):=by
 rw[fm_3]
 cases hg:DU p
 all_goals
  have Hg:=AA hg;clear hg;go_enter func129,ntmps129;go_wp2_with fail;refine(H7 _ _).mono ?_;rintro e w1 ⟨rfl,hb1⟩;have hbz:=OX hb1;obtain⟨hc,hf⟩:=vZ hb1;rw[show (ByteArray.mk p.toArray).data.toList=p from rfl,A8 Hg];go_wp2_with fail
  all_goals go_ret
  all_goals (clear hc hf hb1)
  all_goals (refine⟨OD ?_,hbz⟩;clear hbz Hg;simp[*])
theorem B95(z s:Int)(p d:List UInt8)(v u:Int)(w:World):
  Calls prog 129 #[.agg #[I0 z,I0 4,I0 s,S0 p,S0 d,I0 v,I0 u]] w (R0 w (.bool (fmB ⟨z,4,s,p,d,v,u⟩))):=by
 rw[fm_4]
 cases hg:DU p
 all_goals
  have Hg:=AA hg;clear hg;go_enter func129,ntmps129;go_wp2_with fail;refine(H7 _ _).mono ?_;rintro e w1 ⟨rfl,hb1⟩;have hbz:=OX hb1;obtain⟨hc,hf⟩:=vZ hb1;rw[show (ByteArray.mk p.toArray).data.toList=p from rfl,A8 Hg];go_wp2_with fail
  all_goals go_ret
  all_goals (clear hc hf hb1)
  all_goals (refine⟨OD ?_,hbz⟩;clear hbz Hg;simp[*])
theorem B96(z s:Int)(p d:List UInt8)(v u:Int)(w:World):
  Calls prog 129 #[.agg #[I0 z,I0 5,I0 s,S0 p,S0 d,I0 v,I0 u]] w (R0 w (.bool (fmB ⟨z,5,s,p,d,v,u⟩))):=by
 rw[fm_5]
 cases hg:DU p
 all_goals
  have Hg:=AA hg;clear hg;go_enter func129,ntmps129;go_wp2_with fail;refine(H7 _ _).mono ?_;rintro e w1 ⟨rfl,hb1⟩;have hbz:=OX hb1;have hz1:w.heap.size<w1.heap.size:=by have:=hb1.size;simp at this;omega
  obtain⟨hc,hf⟩:=vZ hb1;rw[show (ByteArray.mk p.toArray).data.toList=p from rfl,A8 Hg];go_wp2_with fail
  all_goals
   refine(H7 _ _).mono ?_;rintro e w2 ⟨rfl,hb2⟩;have hbz2:=NV hbz hb2;obtain⟨hc2,hf2⟩:=vZ hb2;rw[show (ByteArray.mk p.toArray).data.toList=p from rfl,A8 Hg];go_wp2_with fail
  all_goals go_ret
  all_goals (clear hc hf hb1 hc2 hf2 hb2 hbz)
  all_goals (refine⟨OD ?_,hbz2⟩;clear hbz2 Hg;simp[*])
theorem jD(t:AQ)(w:World)(ht:opB t.o=true):
  Calls prog 129 #[DX t] w (R0 w (.bool (fmB t))):=by
 obtain⟨z,o,s,p,d,v,u⟩:=t;rcases B91 ht with h|h|h|h|h<;>(replace h:o=_:=h;subst h)
 ·exact B92 z s p d v u w
 ·exact B93 z s p d v u w
 ·exact B94 z s p d v u w
 ·exact B95 z s p d v u w
 ·exact B96 z s p d v u w
theorem C62{o:Int}(h:opB o=false):o<1∨5<o:=by
 by_cases h1:1≤o∧o≤5
 ·rw[bI.2 h1]at h;exact absurd h (by decide)
 ·omega
theorem ZF{b:Int}(h:a=b):Ending.returned (I0 a)=.returned (I0 b):=by rw[h]
theorem A10(h:FT t.z=false∨uF t.s 1=false∨uF t.v 0=false∨uF t.w 0=false):B30 t=false:=by
 rcases h with h|h|h|h<;>simp[B30,h]
theorem TJ(t:AQ)(w:World)(hd:t.d.length≤140737488355328):
  Calls prog 100 #[DX t] w (R0 w (I0 (gdE t))):=by
 cases ho:opB t.o
 ·have H:=AA (B40 ho);have hor:=C62 ho;clear ho;obtain⟨z,o,s,p,d,v,u⟩:=t;unfold DX;replace hor:o<1∨5<o:=hor;rcases hor with hor|hor
  all_goals
   go_enter func100,ntmps100;go_wp2_with fail;go_ret;exact⟨ZF (A8 H).symm,(Below.refl _ _).alloc (Nat.le_refl _) _⟩
 have hor:=bI.1 ho;have ho1:=hor.1;have ho2:=hor.2;have Ho:=AA ho;clear ho hor
 cases hz:FT t.z
 ·have H:=AA (WL (A8 Ho) (A10 (.inl hz)));have Hz:=AA hz;clear hz
  ·obtain⟨z,o,s,p,d,v,u⟩:=t;unfold DX;have hzd:(ByteArray.mk d.toArray).size=d.length:=Lib.size_eq ⟨d.toArray⟩;replace ho1:1≤o:=ho1;replace ho2:o≤5:=ho2;replace hd:d.length≤140737488355328:=hd;go_enter func100,ntmps100;go_wp2_with fail;refine(EO _ _).mono ?_;rintro e w1 ⟨rfl,rfl⟩;rw[A8 Hz];go_wp2_with fail;go_ret;exact⟨ZF (A8 H).symm,(Below.refl _ _).alloc (Nat.le_refl _) _⟩
 cases hs:uF t.s 1
 ·have H:=AA (WL (A8 Ho) (A10 (.inr (.inl hs))));have Hz:=AA hz;have Hs:=AA hs;clear hz hs
  ·obtain⟨z,o,s,p,d,v,u⟩:=t;unfold DX;have hzd:(ByteArray.mk d.toArray).size=d.length:=Lib.size_eq ⟨d.toArray⟩;replace ho1:1≤o:=ho1;replace ho2:o≤5:=ho2;replace hd:d.length≤140737488355328:=hd;go_enter func100,ntmps100;go_wp2_with fail;refine(EO _ _).mono ?_;rintro e w1 ⟨rfl,rfl⟩;rw[A8 Hz];go_wp2_with fail;refine(EW _ _ _).mono ?_;rintro e w1 ⟨rfl,rfl⟩;rw[A8 Hs];go_wp2_with fail;go_ret;exact⟨ZF (A8 H).symm,(Below.refl _ _).alloc (Nat.le_refl _) _⟩
 cases hv:uF t.v 0
 ·have H:=AA (WL (A8 Ho) (A10 (.inr (.inr (.inl hv)))));have Hz:=AA hz;have Hs:=AA hs;have Hv:=AA hv;clear hz hs hv
  ·obtain⟨z,o,s,p,d,v,u⟩:=t;unfold DX;have hzd:(ByteArray.mk d.toArray).size=d.length:=Lib.size_eq ⟨d.toArray⟩;replace ho1:1≤o:=ho1;replace ho2:o≤5:=ho2;replace hd:d.length≤140737488355328:=hd;go_enter func100,ntmps100;go_wp2_with fail;refine(EO _ _).mono ?_;rintro e w1 ⟨rfl,rfl⟩;rw[A8 Hz];go_wp2_with fail;refine(EW _ _ _).mono ?_;rintro e w1 ⟨rfl,rfl⟩;rw[A8 Hs];go_wp2_with fail;refine(EW _ _ _).mono ?_;rintro e w1 ⟨rfl,rfl⟩;rw[A8 Hv];go_wp2_with fail;go_ret;exact⟨ZF (A8 H).symm,(Below.refl _ _).alloc (Nat.le_refl _) _⟩
 cases hu:uF t.w 0
 ·have H:=AA (WL (A8 Ho) (A10 (.inr (.inr (.inr hu)))));have Hz:=AA hz;have Hs:=AA hs;have Hv:=AA hv;have Hu:=AA hu;clear hz hs hv hu
  ·obtain⟨z,o,s,p,d,v,u⟩:=t;unfold DX;have hzd:(ByteArray.mk d.toArray).size=d.length:=Lib.size_eq ⟨d.toArray⟩;replace ho1:1≤o:=ho1;replace ho2:o≤5:=ho2;replace hd:d.length≤140737488355328:=hd;go_enter func100,ntmps100;go_wp2_with fail;refine(EO _ _).mono ?_;rintro e w1 ⟨rfl,rfl⟩;rw[A8 Hz];go_wp2_with fail;refine(EW _ _ _).mono ?_;rintro e w1 ⟨rfl,rfl⟩;rw[A8 Hs];go_wp2_with fail;refine(EW _ _ _).mono ?_;rintro e w1 ⟨rfl,rfl⟩;rw[A8 Hv];go_wp2_with fail;refine(EW _ _ _).mono ?_;rintro e w1 ⟨rfl,rfl⟩;rw[A8 Hu];go_wp2_with fail;go_ret;exact⟨ZF (A8 H).symm,(Below.refl _ _).alloc (Nat.le_refl _) _⟩
 have HN:=AA (kM.2 ⟨hz,hs,hv,hu⟩);have Hz:=AA hz;have Hs:=AA hs;have Hv:=AA hv;have Hu:=AA hu;clear hz hs hv hu;by_cases hl:256<t.d.length
 ·have H:=AA (B41 (A8 Ho) (A8 HN) hl)
  ·obtain⟨z,o,s,p,d,v,u⟩:=t;unfold DX;replace hl:256<d.length:=hl;have hzd:(ByteArray.mk d.toArray).size=d.length:=Lib.size_eq ⟨d.toArray⟩;replace ho1:1≤o:=ho1;replace ho2:o≤5:=ho2;replace hd:d.length≤140737488355328:=hd;go_enter func100,ntmps100;go_wp2_with fail;refine(EO _ _).mono ?_;rintro e w1 ⟨rfl,rfl⟩;rw[A8 Hz];go_wp2_with fail;refine(EW _ _ _).mono ?_;rintro e w1 ⟨rfl,rfl⟩;rw[A8 Hs];go_wp2_with fail;refine(EW _ _ _).mono ?_;rintro e w1 ⟨rfl,rfl⟩;rw[A8 Hv];go_wp2_with fail;refine(EW _ _ _).mono ?_;rintro e w1 ⟨rfl,rfl⟩;rw[A8 Hu];go_wp2_with fail;go_ret;exact⟨ZF (A8 H).symm,(Below.refl _ _).alloc (Nat.le_refl _) _⟩
 cases hfm:fmB t
 ·have H:=AA (B42 (A8 Ho) (A8 HN) (by omega) hfm);have Hf:=AA hfm;clear hfm
  ·obtain⟨z,o,s,p,d,v,u⟩:=t;unfold DX;replace hl:¬256<d.length:=hl;have hzd:(ByteArray.mk d.toArray).size=d.length:=Lib.size_eq ⟨d.toArray⟩;replace ho1:1≤o:=ho1;replace ho2:o≤5:=ho2;replace hd:d.length≤140737488355328:=hd;go_enter func100,ntmps100;go_wp2_with fail;refine(EO _ _).mono ?_;rintro e w1 ⟨rfl,rfl⟩;rw[A8 Hz];go_wp2_with fail;refine(EW _ _ _).mono ?_;rintro e w1 ⟨rfl,rfl⟩;rw[A8 Hs];go_wp2_with fail;refine(EW _ _ _).mono ?_;rintro e w1 ⟨rfl,rfl⟩;rw[A8 Hv];go_wp2_with fail;refine(EW _ _ _).mono ?_;rintro e w1 ⟨rfl,rfl⟩;rw[A8 Hu];go_wp2_with fail;refine(jD ⟨z,o,s,p,d,v,u⟩ _ (A8 Ho)).mono ?_;rintro e w2 ⟨rfl,hb2⟩;have hbz:=OX hb2;rw[A8 Hf];go_wp2_with fail;go_ret;exact⟨ZF (A8 H).symm,hbz⟩
 ·have H:=AA (C37 (A8 Ho) (A8 HN) (by omega) hfm);have Hf:=AA hfm;clear hfm
  ·obtain⟨z,o,s,p,d,v,u⟩:=t;unfold DX;replace hl:¬256<d.length:=hl;have hzd:(ByteArray.mk d.toArray).size=d.length:=Lib.size_eq ⟨d.toArray⟩;replace ho1:1≤o:=ho1;replace ho2:o≤5:=ho2;replace hd:d.length≤140737488355328:=hd;go_enter func100,ntmps100;go_wp2_with fail;refine(EO _ _).mono ?_;rintro e w1 ⟨rfl,rfl⟩;rw[A8 Hz];go_wp2_with fail;refine(EW _ _ _).mono ?_;rintro e w1 ⟨rfl,rfl⟩;rw[A8 Hs];go_wp2_with fail;refine(EW _ _ _).mono ?_;rintro e w1 ⟨rfl,rfl⟩;rw[A8 Hv];go_wp2_with fail;refine(EW _ _ _).mono ?_;rintro e w1 ⟨rfl,rfl⟩;rw[A8 Hu];go_wp2_with fail;refine(jD ⟨z,o,s,p,d,v,u⟩ _ (A8 Ho)).mono ?_;rintro e w2 ⟨rfl,hb2⟩;have hbz:=OX hb2;rw[A8 Hf];go_wp2_with fail;go_ret;exact⟨ZF (A8 H).symm,hbz⟩
structure Only(g:Nat)(w w':World):Prop where
 os:w'.os=w.os
 tape:w'.tape=w.tape
 output:w'.output=w.output
 size:w'.heap.size=w.heap.size
 block:∀k,k≠g→w'.heap[k]?=w.heap[k]?
theorem Only.refl(g:Nat)(w:World):Only g w w:=⟨rfl,rfl,rfl,rfl,fun _ _=>rfl⟩
theorem Only.trans{a b c:World}(h:Only g a b)(k:Only g b c):Only g a c:=
 ⟨k.os.trans h.os,k.tape.trans h.tape,k.output.trans h.output,k.size.trans h.size,fun i hi=>(k.block i hi).trans (h.block i hi)⟩
theorem Only.below{a w w':World}(h:Only g w w')(hb:Below B a w)(hg:B≤g):Below B a w':=
 hb.trans ⟨h.os,h.tape,h.output,Nat.le_of_eq h.size.symm,fun k hk=>h.block k (by omega)⟩
theorem Only.setCell{a w:World}(h:Only g a w)(j:Nat)(v:Value):Only g a (w.setCell ⟨g,j,none⟩ v):=
 h.trans ⟨rfl,rfl,rfl,by simp[World.setCell],fun k hk=>Below.heap_setCell _ _ _ _ hk⟩
def Cur(W:World)(g:Nat)(rest:List UInt8)(short:Bool):Prop:=W.heap[g]?=some (.cells #[S0 rest,.bool short] 167 (0,0))
theorem Cur.c0(h:Cur W g r b):W.cell? ⟨g,0,none⟩=some (S0 r):=by unfold Cur at h;simp[World.cell?,h]
theorem Cur.c1(h:Cur W g r b):W.cell? ⟨g,1,none⟩=some (.bool b):=by unfold Cur at h;simp[World.cell?,h]
theorem Cur.f(h:Cur W g r b)(j:Nat):W.frozen? ⟨g,j,none⟩=false:=by unfold Cur at h;simp[World.frozen?,h]
theorem JI{w:World}{j:Nat}{cur:Array Value}{t:TypeId}{fz:Nat×Nat}(v:Value)(h:w.heap[g]?=some (.cells cur t fz)):
  (w.setCell ⟨g,j,none⟩ v).heap[g]?=some (.cells (cur.setIfInBounds j v) t fz):=by
 obtain⟨hlt,hk⟩:=Array.getElem?_eq_some_iff.1 h;show (w.heap.modify g _)[g]?=_;rw[Array.getElem?_eq_getElem (by rw[Array.size_modify];exact hlt),Array.getElem_modify_self,hk];rfl
theorem Cur.s0(h:Cur W g r b)(r':List UInt8):Cur (W.setCell ⟨g,0,none⟩ (S0 r')) g r' b:=JI _ h
theorem Cur.s1(h:Cur W g r b)(b':Bool):Cur (W.setCell ⟨g,1,none⟩ (.bool b')) g r b':=JI _ h
theorem Cur.kept(h:Cur W g r b)(hb:Below B W V)(hg:g<B):Cur V g r b:=(hb.block _ hg).trans h
theorem Cur.other{k:Nat}(h:Cur W g r b)(ho:Only k W V)(hg:g≠k):Cur V g r b:=(ho.block _ hg).trans h
theorem lW(l:List UInt8)(d:Nat):(ByteArray.mk l.toArray).extract 0 d=⟨(l.take d).toArray⟩:=by
 apply ByteArray.ext
 apply Array.toList_inj.1
 have h:=Lib.extract_toList (ByteArray.mk l.toArray) 0 d;rw[Lib.toList_data]at h;refine h.trans ?_;show (l.drop 0).take (d-0)=_;simp
theorem AT5(l:List UInt8)(d:Nat):(ByteArray.mk l.toArray).extract d l.length=⟨(l.drop d).toArray⟩:=by
 apply ByteArray.ext
 apply Array.toList_inj.1
 have h:=Lib.extract_toList (ByteArray.mk l.toArray) d l.length;rw[Lib.toList_data]at h;refine h.trans ?_;show (l.drop d).take (l.length-d)=l.drop d;exact List.take_of_length_le (by simp)
theorem AT6{a b:ByteArray}(h:a=b):Ending.returned (.string a)=.returned (.string b):=by rw[h]
theorem NM(g n:Nat)(r:List UInt8)(b:Bool)(w:World)(hn:n≤140737488355328)(hc:Cur w g r b):
  Calls prog 75 #[P0 g,I0 n] w fun e w'=>e=.returned (S0 (r.take n))∧Cur w' g (r.drop n) (b||decide (r.length<n))∧Only g w w':=by
 have hz:(ByteArray.mk r.toArray).size=r.length:=Lib.size_eq ⟨r.toArray⟩;have h0:=hc.c0;have h1:=hc.c1;have hf0:=hc.f 0;have hf1:=hc.f 1;have HC:=AA hc;clear hc;by_cases hlt:r.length<n
 ·go_enter func75,ntmps75
  go_wp2
  go_ret;refine⟨AT6 ?_,?_,((Only.refl g w).setCell 1 _).setCell 0 _⟩
  ·rw[lW,List.take_length,List.take_of_length_le (by omega)]
  ·rw[List.drop_of_length_le (by omega),decide_eq_true hlt,Bool.or_true];exact((A8 HC).s1 true).s0 []
 ·go_enter func75,ntmps75
  go_wp2
  go_ret;refine⟨AT6 (lW r n),?_,(Only.refl g w).setCell 0 _⟩;rw[AT5,decide_eq_false hlt,Bool.or_false];exact(A8 HC).s0 _
theorem C77(x y:Int):bits .or .i64 x y=IntKind.i64.wrap ((BitVec.ofInt 64 x|||BitVec.ofInt 64 y).toNat:Int):=rfl
theorem BU0(t b:Nat)(ht:t<72057594037927936)(hb:b<256):bits .or .i64 (wrap64 ((t:Int)*256)) (b:Int)=wrap64 ((t*256+b:Nat):Int):=by
 have e1:BitVec.ofInt 64 (wrap64 ((t:Int)*256))=BitVec.ofNat 64 (t*256):=by
  apply BitVec.eq_of_toNat_eq
  rw[BitVec.toNat_ofInt,BitVec.toNat_ofNat];unfold wrap64;omega
 have e2:(BitVec.ofNat 64 (t*256)|||BitVec.ofInt 64 (b:Int)).toNat=t*256+b:=by
  rw[BitVec.ofInt_natCast,BitVec.toNat_or,BitVec.toNat_ofNat,BitVec.toNat_ofNat,Nat.mod_eq_of_lt (by omega),Nat.mod_eq_of_lt (by omega)];have:=Nat.two_pow_add_eq_or_of_lt (i:=8) (b:=b) (by omega) t;rw[Nat.mul_comm t 256];exact this.symm
 rw[C77,e1,e2,IntKind.wrap_i64,wrap64]
theorem A23(h:l.length≤7):un l<72057594037927936:=by
 have h1:=B39 l;have h2:256^l.length≤256^7:=Nat.pow_le_pow_right (by decide) h;have h3:(256:Nat)^7=72057594037927936:=by decide
 omega
theorem BU1(l:List UInt8)(k:Nat)(h:k<l.length):un (l.take (k+1))=un (l.take k)*256+l[k].toNat:=by
 rw[List.take_succ_eq_append_getElem h,uD]
theorem C78{b:Int}(h:a=b):Ending.returned (I0 a)=.returned (I0 b):=by rw[h]
theorem C79{b:Int}(h:a=b):I0 a=I0 b:=by rw[h]
theorem C80(l:List UInt8)(k:Nat)(h:k<(ByteArray.mk l.toArray).size):(ByteArray.mk l.toArray)[k]=l[k]'(by rwa[Lib.size_eq]at h):=rfl
theorem FI(g n:Nat)(r:List UInt8)(b:Bool)(w:World)(hn:n≤8)(hc:Cur w g r b):
  Calls prog 76 #[P0 g,I0 n] w fun e w'=>e=.returned (I0 (wrap64 (un (r.take n):Nat)))∧Cur w' g (r.drop n) (b||decide (r.length<n))∧Only g w w':=by
 have HC:=AA hc;clear hc;go_enter func76,ntmps76;go_wp2_with fail;refine(NM g n r b _ (by omega) (A8 HC)).mono ?_;rintro e w1 ⟨rfl,hc1,ho1⟩;have H1:=AA hc1;clear hc1 HC;obtain⟨p,hp⟩:∃p,r.take n=p:=⟨_,rfl⟩;have hpl:p.length≤8:=by rw[←hp,List.length_take];omega
 rw[hp];have Hp:=AA hp;clear hp;have hz:(ByteArray.mk p.toArray).size=p.length:=Lib.size_eq ⟨p.toArray⟩;go_wp2_with fail
 go_loop [6,13] (fun t i=>∃k:Nat,k≤p.length∧i=I0 k∧t=I0 (wrap64 (un (p.take k):Nat))) (fun _ i=>p.length-(intOf i).toNat)
 case atStart=>exact⟨0,Nat.zero_le _,rfl,C79 (by simp[un,wrap64])⟩
 case round=>
  obtain⟨k,hk,rfl,rfl⟩:=hrel;by_cases hlt:k<p.length
  ·have Hs:=AA (BU1 p k hlt);have hsm:=A23 (l:=p.take k) (by rw[List.length_take];omega);obtain⟨x,hx⟩:∃x,un (p.take k)=x:=⟨_,rfl⟩;rw[hx]at hsm Hs⊢;clear hx;rw[show wrap64 (x:Int)=x from by unfold wrap64;omega];have hb:=p[k].toNat_lt;go_wp2_with fail;refine⟨⟨k+1,by omega,by go_num,C79 ?_⟩,by simp[intOf];omega⟩;rw[A8 Hs,C80,show wrap64 ((p[k].toNat:Nat):Int)=(p[k].toNat:Int)from by unfold wrap64;omega];exact BU0 x _ hsm (by omega)
  ·obtain rfl:k=p.length:=by omega
   rw[List.take_length];go_wp2_with fail;go_ret;exact⟨C78 (by rw[A8 Hp]),A8 H1,ho1⟩
theorem TQ(s:List UInt8)(w:World):
  Calls prog 74 #[S0 s] w fun e w'=>e=.returned (.pointer (some ⟨w.heap.size,0,none⟩))∧w'=w.alloc (.cells #[S0 s,.bool false] 167):=by
 go_enter func74,ntmps74;go_wp2_with fail;go_ret;exact⟨rfl,rfl⟩
theorem dY(g:Nat)(r:List UInt8)(b:Bool)(w:World)(h:Cur w g r b):
  Calls prog 78 #[P0 g] w fun e w'=>e=.returned (.bool b)∧w'=w:=by
 have c1:=h.c1;go_enter func78,ntmps78;go_wp2_with fail;go_ret;exact⟨rfl,rfl⟩
theorem lX(g:Nat)(r:List UInt8)(b:Bool)(w:World)(h:Cur w g r b):
  Calls prog 77 #[P0 g] w fun e w'=>e=.returned (I0 r.length)∧w'=w:=by
 have c0:=h.c0;have hz:(ByteArray.mk r.toArray).size=r.length:=Lib.size_eq ⟨r.toArray⟩;go_enter func77,ntmps77;go_wp2_with fail;go_ret;exact⟨rfl,rfl⟩
theorem A24:∀j n,be (j+1) n=UInt8.ofNat (n/256^j)::be j n
 |0,n=>by simp[be]
 |j+1,n=>by
  rw[be,A24 j (n/256),be,Nat.div_div_eq_div_mul,Nat.pow_succ,Nat.mul_comm 256];rfl
def qV(l:List UInt8):List Value:=l.map fun b=>.int .u8 (b.toNat:Int)
def L6(W:World)(g:Nat)(l:List UInt8):Prop:=W.heap[g]?=some (.cells (qV l).toArray 5 (0,0))
theorem L6.cell(h:L6 W g l){j:Nat}(hj:j<l.length):W.cell? ⟨g,j,none⟩=some (.int .u8 (l[j].toNat:Int)):=by
 unfold L6 at h;simp[World.cell?,h,qV,List.getElem?_eq_getElem hj]
theorem L6.soft(h:L6 W g l)(j:Nat):W.frozen? ⟨g,j,none⟩=false:=by
 unfold L6 at h;simp[World.frozen?,h]
theorem L6.set(h:L6 W g l)(j:Nat)(b:UInt8):L6 (W.setCell ⟨g,j,none⟩ (.int .u8 (b.toNat:Int))) g (l.set j b):=by
 unfold L6 at h⊢;obtain⟨hlt,hk⟩:=Array.getElem?_eq_some_iff.1 h;show (W.heap.modify g _)[g]?=_;rw[Array.getElem?_eq_getElem (by rw[Array.size_modify];exact hlt),Array.getElem_modify_self,hk];simp[qV,List.map_set]
theorem BU5(m:Nat)(b:UInt8)(r:List UInt8):(List.replicate (m+1) 0++r).set m b=List.replicate m 0++b::r:=by
 rw[List.replicate_succ',List.append_assoc,List.set_append_right _ _ (by simp)];simp
theorem L6.text(h:L6 W g l)(cap:Nat):
  (convert 164 9 (.slice (some ⟨g,0,none⟩) l.length cap)).run prog W=.ok (S0 l) W:=
 run_convert_bytes_back W 164 9 5 ⟨g,0,none⟩ cap l underlying164 underlying5 underlying9 (fun j hj=>by
  rw[show (⟨g,0,none⟩:Addr).add j=⟨g,j,none⟩from by unfold Addr.add;split<;>simp_all];exact h.cell hj)
theorem AT8(x:Nat):((x:Int)%256)=((UInt8.ofNat x).toNat:Int):=by simp
theorem BU6(n j:Nat):n/256^j/256=n/256^(j+1):=by rw[Nat.div_div_eq_div_mul,Nat.pow_succ]
theorem C81{b:Int}(h:a=b):I0 a=I0 b:=by rw[h]
theorem BC5{a b:ByteArray}(h:a=b):Ending.returned (.string a)=.returned (.string b):=by rw[h]
theorem AT9(k:Nat):madeCells (Value.int .u8 0).cells k=(qV (List.replicate k 0)).toArray:=by
 apply Array.ext'
 apply List.ext_getElem
 ·simp[madeCells,qV]
 ·intro j h1 h2;simp[madeCells,qV,Value.cells,Nat.mod_one]
theorem C82:(prog.info? 5).map (fun i=>(i.zero,i.size,i.bytes))=some (some (.int .u8 0),1,1):=by kernel_rfl
theorem AD8(k:Nat)(hk:k≤8)(w:World):(Instr.makeSlice 164 (I0 k) (I0 k)).run prog w=.ok (.slice (some ⟨w.heap.size,0,none⟩) k k) (w.alloc (.cells (qV (List.replicate k 0)).toArray 5)):=by
 obtain⟨i0,hi,hz0,hz1,hz2⟩:=info_parts C82;have h:=run_make (P:=prog) w 164 5 i0 (.int .u8 0) underlying164 hi hz0 .i64 .i64 k k (by omega) (by omega) (by rw[hz2];omega) (by omega);rw[h,hz1,Nat.mul_one,Int.toNat_natCast,AT9]
theorem YS(n k:Nat)(w:World)(hn:n<9223372036854775808)(hk:k≤8):
  Calls prog 218 #[I0 n,I0 k] w (R0 w (S0 (be k n))):=by
 have hmk:=AD8 k hk w;go_enter func218,ntmps218
 go_wp2
 generalize hW1:w.alloc (Obj.cells (qV (List.replicate k 0)).toArray 5)=W1;have HR1:Hid (L6 W1 w.heap.size (List.replicate k 0++be 0 n)):=AA (by
  rw[←hW1];show (w.heap.push _)[w.heap.size]?=_;simp[be])
 have hB1:B0 w W1:=by rw[←hW1];exact(Below.refl _ _).alloc (Nat.le_refl _) _
 clear hW1 hmk
 go_loopw [0,6] (fun x i wr=>∃j:Nat,j≤k∧x=I0 (n/256^j:Nat)∧i=I0 ((k:Int)-1-j)∧L6 wr w.heap.size (List.replicate (k-j) 0++be j n)∧B0 w wr) (fun _ i _=>(intOf i+1).toNat)
 case atStart=>exact⟨0,Nat.zero_le _,by simp,by simp,A8 HR1,hB1⟩
 case round=>
  obtain⟨j,hj,rfl,rfl,hr,hB⟩:=hrel;have HR:=AA hr;clear hr HR1 hB1;by_cases hlt:j<k
  ·obtain⟨m,hm⟩:∃m,k-j=m+1:=⟨k-j-1,by omega⟩;have hlen:m<(List.replicate (k-j) (0:UInt8)++be j n).length:=by simp;omega
   have h1:=(A8 HR).cell hlen;have h2:=(A8 HR).soft m;have hmk:(k:Int)-1-j=(m:Int):=by omega
   rw[hmk];have hmlt:m<k:=by omega
   have hq:n/256^j<9223372036854775808:=Nat.lt_of_le_of_lt (Nat.div_le_self _ _) hn;have Hdiv:=AA (BU6 n j);have Hby:=AA (AT8 (n/256^j));have Hfr:=AA (A24 j n);generalize (List.replicate (k-j) (0:UInt8)++be j n)[m]=c0 at h1;obtain⟨x,hx⟩:∃x,n/256^j=x:=⟨_,rfl⟩;rw[hx]at hq Hdiv Hby Hfr⊢;have Hm:=AA hm;have Hmk:=AA hmk;clear hx hm hmk hlen
   go_wp2
   rw[A8 Hby];refine⟨⟨j+1,by omega,C81 (by rw[←A8 Hdiv];omega),C81 (by have:=A8 Hmk;omega),?_,hB.setCell (by show w.heap.size≤w.heap.size;exact Nat.le_refl _) _⟩,by simp only[intOf];omega⟩;have hset:=(A8 HR).set m (UInt8.ofNat x);rw[A8 Hm,BU5,←A8 Hfr]at hset;rw[show k-(j+1)=m from by have:=A8 Hm;omega];exact hset
  ·obtain rfl:j=k:=by omega
   have hlen:(List.replicate (j-j) (0:UInt8)++be j n).length=j:=by simp[BO]
   have htx:=(A8 HR).text j;rw[hlen]at htx;rw[show (j:Int)-1-(j:Int)=-1 from by omega];have Hrep:Hid (List.replicate (j-j) (0:UInt8)++be j n=be j n):=AA (by simp);rw[A8 Hrep]at htx;clear hlen
   go_wp2
   go_ret;exact⟨rfl,hB⟩
theorem AU0{b:Int}(h:a=b):Value.int .u32 a=.int .u32 b:=by rw[h]
theorem AU1{c:Nat}(h:c<4294967296):bits .xor .u32 ((c:Int)/2) (3988292384*bits .and .u32 (c:Int) 1%4294967296)=(C36 c:Nat):=by
 have h2:c%2<2:=Nat.mod_lt _ (by decide);rw[B38 h,show (3988292384*((c%2:Nat):Int)%4294967296)=((3988292384*(c%2):Nat):Int)from by omega];rw[show ((c:Int)/2)=((c/2:Nat):Int)from by omega];exact tZ (by omega) (by omega)
theorem BC6(s:ByteArray)(k:Nat)(h:k<s.size):B36 (s.data.toList.take (k+1))=BK7 8 (B36 (s.data.toList.take k)^^^s[k].toNat):=by
 rw[aY s k h,AI9];rfl
theorem BU7{b:Int}(h:a=b):Ending.returned (I0 a)=.returned (I0 b):=by rw[h]
theorem A25(s:ByteArray)(w:World)(hs:s.size≤140737488355328):
  Calls prog 79 #[.string s] w fun e w'=>e=.returned (I0 (yR s.data.toList:Nat))∧w'=w:=by
 go_enter func79,ntmps79
 go_wp2
 go_loop [3,8] (fun c i=>∃k:Nat,k≤s.size∧i=I0 k∧c=.int .u32 (B36 (s.data.toList.take k):Nat)) (fun _ i=>s.size-(intOf i).toNat)
 case atStart=>exact⟨0,Nat.zero_le _,rfl,rfl⟩
 case round=>
  obtain⟨k,hk,rfl,rfl⟩:=hrel;obtain⟨c,hc⟩:∃c,B36 (s.data.toList.take k)=c:=⟨_,rfl⟩;have hcl:c<4294967296:=hc ▸ AI7 _;have Hc:=AA hc;rw[hc];clear hc;by_cases hlt:k<s.size
  ·have hb:=s[k].toNat_lt;have Hsn:=AA (BC6 s k hlt)
   go_wp2
   rw[tZ hcl (by omega)];obtain⟨x,hx⟩:∃x,c^^^s[k].toNat=x:=⟨_,rfl⟩;have hxl:x<4294967296:=hx ▸ WJ hcl (by omega);have Hx:=AA hx;rw[hx];clear hx hb
   go_loop [3,17] (fun d j=>∃n:Nat,n≤8∧j=I0 n∧d=.int .u32 (BK7 n x:Nat)) (fun _ j=>8-(intOf j).toNat)
   case atStart=>exact⟨0,Nat.zero_le _,rfl,rfl⟩
   case round=>
    obtain⟨n,hn,rfl,rfl⟩:=hrel;have hy:=tY hxl n;have Hs:Hid (BK7 (n+1) x=C36 (BK7 n x)):=AA rfl;by_cases h8:n<8
    ·obtain⟨y,hyy⟩:∃y,BK7 n x=y:=⟨_,rfl⟩;rw[hyy]at hy Hs⊢;clear hyy
     go_wp2
     exact⟨⟨n+1,by omega,by go_num,AU0 (by rw[AU1 hy,A8 Hs])⟩,by simp[intOf];omega⟩
    ·obtain rfl:n=8:=by omega
     go_wp2
     exact⟨⟨k+1,by omega,by go_num,AU0 (by rw[A8 Hsn,A8 Hc,A8 Hx])⟩,by simp[intOf];omega⟩
  ·obtain rfl:k=s.size:=by omega
   go_wp2
   go_ret;refine⟨BU7 ?_,rfl⟩;rw[←WI s,List.take_length]at Hc;rw[show IntKind.u32.max=((4294967295:Nat):Int)from rfl,tZ (by decide) hcl,yR,A8 Hc];have h32:=WJ (show 4294967295<4294967296 by decide) hcl;unfold wrap64;omega
theorem eG(n:Int)(k:Nat)(w:World)(h0:0≤n)(hn:n<9223372036854775808)(hk:k≤8)(d:Nat)(os:Array Obj):
  Calls prog 218 #[I0 n,I0 k] (Sort.grow (redrawn w d) os) fun e w''=>e=.returned (S0 (be k n.toNat))∧∃p:Regrown,w''=Sort.grow (redrawn w p.d) p.os:=by
 have h:=YS n.toNat k (Sort.grow (redrawn w d) os) (by omega) hk;rw[Int.toNat_of_nonneg h0]at h;exact Calls.regrown_of h
theorem BC7(t:AQ)(w:World)(ht:gdE t=0):
  Calls prog 217 #[DX t] w (R0 w (S0 (MO t))):=by
 obtain⟨hz,ho,hs,hv,hu,hp,hd⟩:=SB ht;clear ht;obtain⟨z,o,s,p,d,v,u⟩:=t;unfold DX MO;simp only at hz ho hs hv hu hp hd⊢;have hzp:(ByteArray.mk p.toArray).size=p.length:=Lib.size_eq ⟨p.toArray⟩;have hzd:(ByteArray.mk d.toArray).size=d.length:=Lib.size_eq ⟨d.toArray⟩;go_enter func217,ntmps217;go_wp2_with fail;obtain⟨W,hW⟩:∃W,w.alloc (Obj.cells #[I0 z,I0 o,I0 s,S0 p,S0 d,I0 v,I0 u] 62)=W:=⟨_,rfl⟩;have hB:B0 w W:=by rw[←hW];exact(Below.refl _ _).alloc (Nat.le_refl _) _
 have k0:∀d' os,(Sort.grow (redrawn W d') os).cell? ⟨w.heap.size,0,none⟩=some (I0 z):=fun d' os=>cell_regrown (by rw[←hW];simp) d' os;have k1:∀d' os,(Sort.grow (redrawn W d') os).cell? ⟨w.heap.size,1,none⟩=some (I0 o):=fun d' os=>cell_regrown (by rw[←hW];simp) d' os;have k2:∀d' os,(Sort.grow (redrawn W d') os).cell? ⟨w.heap.size,2,none⟩=some (I0 s):=fun d' os=>cell_regrown (by rw[←hW];simp) d' os;have k3:∀d' os,(Sort.grow (redrawn W d') os).cell? ⟨w.heap.size,3,none⟩=some (S0 p):=fun d' os=>cell_regrown (by rw[←hW];simp) d' os;have k4:∀d' os,(Sort.grow (redrawn W d') os).cell? ⟨w.heap.size,4,none⟩=some (S0 d):=fun d' os=>cell_regrown (by rw[←hW];simp) d' os;have k5:∀d' os,(Sort.grow (redrawn W d') os).cell? ⟨w.heap.size,5,none⟩=some (I0 v):=fun d' os=>cell_regrown (by rw[←hW];simp) d' os;have k6:∀d' os,(Sort.grow (redrawn W d') os).cell? ⟨w.heap.size,6,none⟩=some (I0 u):=fun d' os=>cell_regrown (by rw[←hW];simp) d' os;rw[hW];clear hW;have c0:∀d' os,Calls prog 218 #[I0 z,I0 8] (Sort.grow (redrawn W d') os) fun e w''=>e=.returned (S0 (be 8 z.toNat))∧∃p:Regrown,w''=Sort.grow (redrawn W p.d) p.os:=eG z 8 W (by omega) (by omega) (by omega);have c1:∀d' os,Calls prog 218 #[I0 o,I0 1] (Sort.grow (redrawn W d') os) fun e w''=>e=.returned (S0 (be 1 o.toNat))∧∃p:Regrown,w''=Sort.grow (redrawn W p.d) p.os:=eG o 1 W (by omega) (by omega) (by omega);have c2:∀d' os,Calls prog 218 #[I0 s,I0 4] (Sort.grow (redrawn W d') os) fun e w''=>e=.returned (S0 (be 4 s.toNat))∧∃p:Regrown,w''=Sort.grow (redrawn W p.d) p.os:=eG s 4 W (by omega) (by omega) (by omega);have c3:∀d' os,Calls prog 218 #[I0 v,I0 4] (Sort.grow (redrawn W d') os) fun e w''=>e=.returned (S0 (be 4 v.toNat))∧∃p:Regrown,w''=Sort.grow (redrawn W p.d) p.os:=eG v 4 W (by omega) (by omega) (by omega);have c4:∀d' os,Calls prog 218 #[I0 u,I0 4] (Sort.grow (redrawn W d') os) fun e w''=>e=.returned (S0 (be 4 u.toNat))∧∃p:Regrown,w''=Sort.grow (redrawn W p.d) p.os:=eG u 4 W (by omega) (by omega) (by omega);have c5:∀d' os,Calls prog 218 #[I0 (p.length:Nat),I0 1] (Sort.grow (redrawn W d') os) fun e w''=>e=.returned (S0 (be 1 p.length))∧∃p:Regrown,w''=Sort.grow (redrawn W p.d) p.os:=eG p.length 1 W (by omega) (by omega) (by omega);have c6:∀d' os,Calls prog 218 #[I0 (d.length:Nat),I0 2] (Sort.grow (redrawn W d') os) fun e w''=>e=.returned (S0 (be 2 d.length))∧∃p:Regrown,w''=Sort.grow (redrawn W p.d) p.os:=eG d.length 2 W (by omega) (by omega) (by omega);have l0:=BO 8 z.toNat;have l1:=BO 1 o.toNat;have l2:=BO 4 s.toNat;have l3:=BO 4 v.toNat;have l4:=BO 4 u.toNat;have l5:=BO 1 p.length;have l6:=BO 2 d.length;obtain⟨b0,e0⟩:∃b,be 8 z.toNat=b:=⟨_,rfl⟩;rw[e0]at c0 l0;have E0:=AA e0;clear e0;obtain⟨b1,e1⟩:∃b,be 1 o.toNat=b:=⟨_,rfl⟩;rw[e1]at c1 l1;have E1:=AA e1;clear e1;obtain⟨b2,e2⟩:∃b,be 4 s.toNat=b:=⟨_,rfl⟩;rw[e2]at c2 l2;have E2:=AA e2;clear e2;obtain⟨b3,e3⟩:∃b,be 4 v.toNat=b:=⟨_,rfl⟩;rw[e3]at c3 l3;have E3:=AA e3;clear e3;obtain⟨b4,e4⟩:∃b,be 4 u.toNat=b:=⟨_,rfl⟩;rw[e4]at c4 l4;have E4:=AA e4;clear e4;obtain⟨b5,e5⟩:∃b,be 1 p.length=b:=⟨_,rfl⟩;rw[e5]at c5 l5;have E5:=AA e5;clear e5;obtain⟨b6,e6⟩:∃b,be 2 d.length=b:=⟨_,rfl⟩;rw[e6]at c6 l6;have E6:=AA e6;clear e6;refine wp_region_quiet_below (by kernel_rfl) (by kernel_rfl) ?_
 repeat (first|go_big_quiet_step (first|with_reducible exact c0 _ _|with_reducible exact c1 _ _|with_reducible exact c2 _ _|with_reducible exact c3 _ _|with_reducible exact c4 _ _|with_reducible exact c5 _ _|with_reducible exact c6 _ _)|quiet_step (first|with_reducible exact c0 _ _|with_reducible exact c1 _ _|with_reducible exact c2 _ _|with_reducible exact c3 _ _|with_reducible exact c4 _ _|with_reducible exact c5 _ _|with_reducible exact c6 _ _))
 refine wpQuiet_nil ?_;intro _ hw';obtain⟨⟨dq,osq⟩,hw''⟩:=hw';subst hw'';have hb2:B0 w (Sort.grow (redrawn W dq) osq):=NV hB (below_regrown W dq osq);clear c0 c1 c2 c3 c4 c5 c6 k0 k1 k2 k3 k4 k5 k6;go_wp2_with fail;go_ret;refine⟨BC5 ?_,hb2⟩;rw[KQ,KQ,KQ,KQ,KQ,KQ,KQ,KQ];simp only[List.append_assoc];rw[A8 E0,A8 E1,A8 E2,A8 E3,A8 E4,A8 E5,A8 E6]
theorem BC8{a b:ByteArray}{i j:Int}(h:a=b)(h':i=j):Ending.returned (.tuple #[.string a,I0 i])=.returned (.tuple #[.string b,I0 j]):=by rw[h,h']
theorem YT(t:AQ)(w:World)(h:gdE t=0):
  Calls prog 198 #[DX t] w (R0 w (.tuple #[S0 (MP t),I0 0])):=by
 have H:=AA h;obtain⟨_,_,_,_,_,_,hd⟩:=SB h;have hbl:=YI h;clear h;obtain⟨b,hb⟩:∃b,MO t=b:=⟨_,rfl⟩;have Hb:=AA hb;rw[hb]at hbl;clear hb;have hzb:(ByteArray.mk b.toArray).size=b.length:=Lib.size_eq ⟨b.toArray⟩;obtain⟨z,o,s,p,d,v,u⟩:=t;unfold DX;replace hd:d.length≤256:=hd;go_enter func198,ntmps198;go_wp2_with fail;refine(TJ ⟨z,o,s,p,d,v,u⟩ _ (by show d.length≤_;omega)).mono ?_;rintro e w1 ⟨rfl,hb1⟩;have hbz:=OX hb1;obtain⟨hc,hf⟩:=vZ hb1;have hz1:w.heap.size<w1.heap.size:=by have:=hb1.size;simp at this;omega
 rw[A8 H];go_wp2_with fail;refine(BC7 ⟨z,o,s,p,d,v,u⟩ _ (A8 H)).mono ?_;rintro e w2 ⟨rfl,hb2⟩;replace hb2:=NV hbz hb2;rw[A8 Hb];clear hc hf hb1 hbz hz1;go_wp2_with fail;refine(YS b.length 2 _ (by omega) (by omega)).mono ?_;rintro e w3 ⟨rfl,hb3⟩;replace hb3:=NV hb2 hb3;clear hb2;have l2:=BO 2 b.length;obtain⟨n2,e2⟩:∃n2,be 2 b.length=n2:=⟨_,rfl⟩;rw[e2]at l2⊢;have E2:=AA e2;clear e2;go_wp2_with fail;have hF:(ByteArray.mk #[84]++ByteArray.mk n2.toArray++ByteArray.mk b.toArray)=⟨(IU b).toArray⟩:=by
  rw[show (ByteArray.mk #[84])=⟨[(84:UInt8)].toArray⟩from rfl,KQ,KQ,IU,A8 E2];rfl
 rw[hF];have lF:=QK b;obtain⟨F,eF⟩:∃F,IU b=F:=⟨_,rfl⟩;rw[eF]at lF⊢;have EF:=AA eF;clear eF hF;have hzF:(ByteArray.mk F.toArray).size=F.length:=Lib.size_eq ⟨F.toArray⟩;refine(A25 ⟨F.toArray⟩ _ (by omega)).mono ?_;rintro e w4 ⟨rfl,rfl⟩;rw[show (ByteArray.mk F.toArray).data.toList=F from rfl];have hsl:=AI8 F;obtain⟨X,hX⟩:∃X,yR F=X:=⟨_,rfl⟩;rw[hX]at hsl⊢;have HX:=AA hX;clear hX;go_wp2_with fail;refine(YS X 4 _ (by omega) (by omega)).mono ?_;rintro e w5 ⟨rfl,hb5⟩;replace hb5:=NV hb3 hb5;clear hb3;have l4:=BO 4 X;obtain⟨n4,e4⟩:∃n4,be 4 X=n4:=⟨_,rfl⟩;rw[e4]at l4⊢;have E4:=AA e4;clear e4;go_wp2_with fail
 go_ret2
 refine⟨BC8 ?_ rfl,hb5⟩;rw[KQ,MP,A8 Hb,A8 EF,A8 HX,A8 E4]
def FC(W:World)(g:Nat)(t:AQ):Prop:=W.heap[g]?=some (.cells #[I0 t.z,I0 t.o,I0 t.s,S0 t.p,S0 t.d,I0 t.v,I0 t.w] 62 (0,0))
theorem FC.c0(h:FC W g t):W.cell? ⟨g,0,none⟩=some (I0 t.z):=by unfold FC at h;simp[World.cell?,h]
theorem FC.c1(h:FC W g t):W.cell? ⟨g,1,none⟩=some (I0 t.o):=by unfold FC at h;simp[World.cell?,h]
theorem FC.c2(h:FC W g t):W.cell? ⟨g,2,none⟩=some (I0 t.s):=by unfold FC at h;simp[World.cell?,h]
theorem FC.c3(h:FC W g t):W.cell? ⟨g,3,none⟩=some (S0 t.p):=by unfold FC at h;simp[World.cell?,h]
theorem FC.c4(h:FC W g t):W.cell? ⟨g,4,none⟩=some (S0 t.d):=by unfold FC at h;simp[World.cell?,h]
theorem FC.c5(h:FC W g t):W.cell? ⟨g,5,none⟩=some (I0 t.v):=by unfold FC at h;simp[World.cell?,h]
theorem FC.c6(h:FC W g t):W.cell? ⟨g,6,none⟩=some (I0 t.w):=by unfold FC at h;simp[World.cell?,h]
theorem FC.f(h:FC W g t)(j:Nat):W.frozen? ⟨g,j,none⟩=false:=by unfold FC at h;simp[World.frozen?,h]
theorem FC.kept(h:FC W g t)(hb:Below B W V)(hg:g<B):FC V g t:=(hb.block _ hg).trans h
theorem FC.other{k:Nat}(h:FC W g t)(ho:Only k W V)(hg:g≠k):FC V g t:=(ho.block _ hg).trans h
theorem aO(g:Nat)(w:World)(j:Nat)(v:Value):Only g w (w.setCell ⟨g,j,none⟩ v):=(Only.refl g w).setCell j v
theorem XQ(w:World)(o:Obj):(w.alloc o).heap[w.heap.size]?=some o:=by
 show (w.heap.push o)[w.heap.size]?=_;simp
structure Unf(w W:World)(r:List UInt8)(b:Bool)(t:AQ):Prop where
 res:FC W w.heap.size t0
 cur:Cur W (w.heap.size+1) r b
 txn:FC W (w.heap.size+1+1) t
 size:w.heap.size+3≤W.heap.size
 below:B0 w W
theorem Unf.took{w:World}{r':List UInt8}{b':Bool}(h:Unf w W r b t)(hc:Cur V (w.heap.size+1) r' b')(ho:Only (w.heap.size+1) W V):Unf w V r' b' t:=
 ⟨h.res.other ho (by omega),hc,h.txn.other ho (by omega),by rw[ho.size];exact h.size,ho.below h.below (by omega)⟩
theorem Unf.kept{w:World}(h:Unf w W r b t)(hb:B0 W V):Unf w V r b t:=
 ⟨h.res.kept hb (by have:=h.size;omega),h.cur.kept hb (by have:=h.size;omega),h.txn.kept hb (by have:=h.size;omega),Nat.le_trans h.size hb.size,h.below.trans (hb.mono h.below.size)⟩
theorem Unf.put{w:World}(h:Unf w W r b t)(j:Nat)(v:Value){t':AQ}(ht:FC (W.setCell ⟨w.heap.size+1+1,j,none⟩ v) (w.heap.size+1+1) t'):Unf w (W.setCell ⟨w.heap.size+1+1,j,none⟩ v) r b t':=
 ⟨h.res.other (aO _ _ _ _) (by omega),h.cur.other (aO _ _ _ _) (by omega),ht,by rw[(aO _ W j v).size];exact h.size,(aO _ _ _ _).below h.below (by omega)⟩
theorem Unf.z{w:World}(h:Unf w W r b t)(x:Int):Unf w (W.setCell ⟨w.heap.size+1+1,0,none⟩ (I0 x)) r b {t with z:=x}:=h.put 0 _ (JI _ h.txn)
theorem Unf.o{w:World}(h:Unf w W r b t)(x:Int):Unf w (W.setCell ⟨w.heap.size+1+1,1,none⟩ (I0 x)) r b {t with o:=x}:=h.put 1 _ (JI _ h.txn)
theorem Unf.s{w:World}(h:Unf w W r b t)(x:Int):Unf w (W.setCell ⟨w.heap.size+1+1,2,none⟩ (I0 x)) r b {t with s:=x}:=h.put 2 _ (JI _ h.txn)
theorem Unf.p{w:World}(h:Unf w W r b t)(x:List UInt8):Unf w (W.setCell ⟨w.heap.size+1+1,3,none⟩ (S0 x)) r b {t with p:=x}:=h.put 3 _ (JI _ h.txn)
theorem Unf.d{w:World}(h:Unf w W r b t)(x:List UInt8):Unf w (W.setCell ⟨w.heap.size+1+1,4,none⟩ (S0 x)) r b {t with d:=x}:=h.put 4 _ (JI _ h.txn)
theorem Unf.v{w:World}(h:Unf w W r b t)(x:Int):Unf w (W.setCell ⟨w.heap.size+1+1,5,none⟩ (I0 x)) r b {t with v:=x}:=h.put 5 _ (JI _ h.txn)
theorem Unf.w{w:World}(h:Unf w W r b t)(x:Int):Unf w (W.setCell ⟨w.heap.size+1+1,6,none⟩ (I0 x)) r b {t with w:=x}:=h.put 6 _ (JI _ h.txn)
theorem BV1(h:l.length≤7):wrap64 ((un l:Nat):Int)=(un l:Nat):=by
 have:=A23 h;unfold wrap64;omega
theorem IE(l:List UInt8)(k:Nat)(hk:k≤7):wrap64 ((un (l.take k):Nat):Int)=(un (l.take k):Nat):=BV1 (by rw[List.length_take];omega)
def FZ(W:World)(g:Nat)(t:AQ):World:=
 ((((((W.setCell ⟨g,0,none⟩ (I0 t.z)).setCell ⟨g,1,none⟩ (I0 t.o)).setCell ⟨g,2,none⟩ (I0 t.s)).setCell ⟨g,3,none⟩ (S0 t.p)).setCell ⟨g,4,none⟩ (S0 t.d)).setCell ⟨g,5,none⟩ (I0 t.v)).setCell ⟨g,6,none⟩ (I0 t.w)
theorem FC.s0(h:FC W g t)(x:Int):FC (W.setCell ⟨g,0,none⟩ (I0 x)) g {t with z:=x}:=JI _ h
theorem FC.s1(h:FC W g t)(x:Int):FC (W.setCell ⟨g,1,none⟩ (I0 x)) g {t with o:=x}:=JI _ h
theorem FC.s2(h:FC W g t)(x:Int):FC (W.setCell ⟨g,2,none⟩ (I0 x)) g {t with s:=x}:=JI _ h
theorem FC.s3(h:FC W g t)(x:List UInt8):FC (W.setCell ⟨g,3,none⟩ (S0 x)) g {t with p:=x}:=JI _ h
theorem FC.s4(h:FC W g t)(x:List UInt8):FC (W.setCell ⟨g,4,none⟩ (S0 x)) g {t with d:=x}:=JI _ h
theorem FC.s5(h:FC W g t)(x:Int):FC (W.setCell ⟨g,5,none⟩ (I0 x)) g {t with v:=x}:=JI _ h
theorem FC.s6(h:FC W g t)(x:Int):FC (W.setCell ⟨g,6,none⟩ (I0 x)) g {t with w:=x}:=JI _ h
theorem FC.store(h:FC W g t)(t':AQ):FC (FZ W g t') g t':=
 ((((((h.s0 t'.z).s1 t'.o).s2 t'.s).s3 t'.p).s4 t'.d).s5 t'.v).s6 t'.w
theorem IZ(W:World)(g:Nat)(t:AQ):Only g W (FZ W g t):=
 (((((((Only.refl g W).setCell 0 _).setCell 1 _).setCell 2 _).setCell 3 _).setCell 4 _).setCell 5 _).setCell 6 _
def AU8(b:List UInt8):Bool:=
 false||decide (b.length<8)||decide ((b.drop 8).length<1)||decide ((b.drop 9).length<4)||decide ((b.drop 13).length<4)||decide ((b.drop 17).length<4)||decide ((b.drop 21).length<1)||decide ((b.drop 22).length<UC b)||decide ((b.drop (22+UC b)).length<2)||decide ((b.drop (24+UC b)).length<tH b)
theorem qZ{b:List UInt8}:AU8 b=false↔24+UC b+tH b≤b.length:=by
 simp only[AU8,Bool.or_eq_false_iff,decide_eq_false_iff_not,List.length_drop,true_and];omega
theorem BV2(b:List UInt8):UC b<256:=by
 have h:=B39 ((b.drop 21).take 1);have h2:((b.drop 21).take 1).length≤1:=List.length_take_le _ _;have h3:256^((b.drop 21).take 1).length≤256^1:=Nat.pow_le_pow_right (by decide) h2;unfold UC;omega
theorem BV3(b:List UInt8):tH b<65536:=by
 have h:=B39 ((b.drop (22+UC b)).take 2);have h2:((b.drop (22+UC b)).take 2).length≤2:=List.length_take_le _ _;have h3:256^((b.drop (22+UC b)).take 2).length≤256^2:=Nat.pow_le_pow_right (by decide) h2;unfold tH;omega
def tIn(b:List UInt8):AQ:=
 ⟨wrap64 (un (b.take 8)),un ((b.drop 8).take 1),un ((b.drop 9).take 4),(b.drop 22).take (UC b),(b.drop (24+UC b)).take (tH b),un ((b.drop 13).take 4),un ((b.drop 17).take 4)⟩
theorem BV4{b:List UInt8}(h:B31 b=true):tIn b=tOf b:=by
 obtain⟨h1,h2⟩:=WO.1 h;rw[tIn,tOf,List.take_of_length_le (l:=b.drop (24+UC b)) (by rw[List.length_drop];omega)]
theorem AE5(b:List UInt8)(w:World):
  Calls prog 80 #[S0 b] w (R0 w (.tuple #[DX (AJ0 b),I0 (nT b)])):=by
 have hpl:=BV2 b;have hdl:=BV3 b;go_enter func80,ntmps80;go_wp2_with fail;refine(TQ b _).mono ?_;rintro e wA ⟨rfl,rfl⟩;go_wp2_with fail;generalize hW:((w.alloc _).alloc _).alloc _=W;have H:Hid (Unf w W b false t0):=AA (by
  rw[←hW];refine⟨?_,?_,?_,by simp,(((Below.refl _ _).alloc (Nat.le_refl _) _).alloc (by simp) _).alloc (by simp;omega) _⟩
  ·exact(Below.heap_alloc _ _ _ (by simp;omega)).trans ((Below.heap_alloc _ _ _ (by simp)).trans (XQ _ _))
  ·exact(Below.heap_alloc _ _ _ (by simp)).trans (by have:=XQ (w.alloc (.cells #[I0 0,I0 0,I0 0,.string ⟨#[]⟩,.string ⟨#[]⟩,I0 0,I0 0] 62)) (.cells #[S0 b,.bool false] 167);rwa[World.size_alloc]at this)
  ·have:=XQ ((w.alloc (.cells #[I0 0,I0 0,I0 0,.string ⟨#[]⟩,.string ⟨#[]⟩,I0 0,I0 0] 62)).alloc (.cells #[S0 b,.bool false] 167)) (.cells #[I0 0,I0 0,I0 0,.string ⟨#[]⟩,.string ⟨#[]⟩,I0 0,I0 0] 62);rwa[World.size_alloc,World.size_alloc]at this)
 clear hW;refine(FI (w.heap.size+1) 8 _ _ _ (by decide) (A8 H).cur).mono ?_;rintro e w1 ⟨rfl,hc1,ho1⟩;have H1:=AA ((A8 H).took hc1 ho1);clear hc1 ho1 H W;generalize w1=W at*;obtain⟨x0,h0⟩:∃x,wrap64 (un (b.take 8):Nat)=x:=⟨_,rfl⟩;rw[h0];have E0:=AA h0;clear h0;have q1:=(A8 H1).txn.c0;have q2:=(A8 H1).txn.f 0;go_wp2_with fail;have H:=AA ((A8 H1).z x0);clear q1 q2 H1;generalize W.setCell _ _=W at*;refine(FI (w.heap.size+1) 1 _ _ _ (by decide) (A8 H).cur).mono ?_;rintro e w1 ⟨rfl,hc1,ho1⟩;have H1:=AA ((A8 H).took hc1 ho1);clear hc1 ho1 H W;generalize w1=W at*;simp only[List.drop_drop,Nat.reduceAdd]at H1;rw[IE _ _ (by decide)];obtain⟨x1,h1⟩:∃x,un ((b.drop 8).take 1)=x:=⟨_,rfl⟩;rw[h1];have E1:=AA h1;clear h1;have q1:=(A8 H1).txn.c1;have q2:=(A8 H1).txn.f 1;go_wp2_with fail;have H:=AA ((A8 H1).o x1);clear q1 q2 H1;generalize W.setCell _ _=W at*;refine(FI (w.heap.size+1) 4 _ _ _ (by decide) (A8 H).cur).mono ?_;rintro e w1 ⟨rfl,hc1,ho1⟩;have H1:=AA ((A8 H).took hc1 ho1);clear hc1 ho1 H W;generalize w1=W at*;simp only[List.drop_drop,Nat.reduceAdd]at H1;rw[IE _ _ (by decide)];obtain⟨x2,h2⟩:∃x,un ((b.drop 9).take 4)=x:=⟨_,rfl⟩;rw[h2];have E2:=AA h2;clear h2;have q1:=(A8 H1).txn.c2;have q2:=(A8 H1).txn.f 2;go_wp2_with fail;have H:=AA ((A8 H1).s x2);clear q1 q2 H1;generalize W.setCell _ _=W at*;refine(FI (w.heap.size+1) 4 _ _ _ (by decide) (A8 H).cur).mono ?_;rintro e w1 ⟨rfl,hc1,ho1⟩;have H1:=AA ((A8 H).took hc1 ho1);clear hc1 ho1 H W;generalize w1=W at*;simp only[List.drop_drop,Nat.reduceAdd]at H1;rw[IE _ _ (by decide)];obtain⟨x3,h3⟩:∃x,un ((b.drop 13).take 4)=x:=⟨_,rfl⟩;rw[h3];have E3:=AA h3;clear h3;have q1:=(A8 H1).txn.c5;have q2:=(A8 H1).txn.f 5;go_wp2_with fail;have H:=AA ((A8 H1).v x3);clear q1 q2 H1;generalize W.setCell _ _=W at*;refine(FI (w.heap.size+1) 4 _ _ _ (by decide) (A8 H).cur).mono ?_;rintro e w1 ⟨rfl,hc1,ho1⟩;have H1:=AA ((A8 H).took hc1 ho1);clear hc1 ho1 H W;generalize w1=W at*;simp only[List.drop_drop,Nat.reduceAdd]at H1;rw[IE _ _ (by decide)];obtain⟨x4,h4⟩:∃x,un ((b.drop 17).take 4)=x:=⟨_,rfl⟩;rw[h4];have E4:=AA h4;clear h4;have q1:=(A8 H1).txn.c6;have q2:=(A8 H1).txn.f 6;go_wp2_with fail;have H:=AA ((A8 H1).w x4);clear q1 q2 H1;generalize W.setCell _ _=W at*;refine(FI (w.heap.size+1) 1 _ _ _ (by decide) (A8 H).cur).mono ?_;rintro e w1 ⟨rfl,hc1,ho1⟩;have H1:=AA ((A8 H).took hc1 ho1);clear hc1 ho1 H W;generalize w1=W at*;simp only[List.drop_drop,Nat.reduceAdd]at H1;rw[IE _ _ (by decide)];rw[show un ((b.drop 21).take 1)=UC b from rfl];go_wp2_with fail;refine(NM (w.heap.size+1) (UC b) _ _ _ (by omega) (A8 H1).cur).mono ?_;rintro e w2 ⟨rfl,hc2,ho2⟩;have H2:=AA ((A8 H1).took hc2 ho2);clear hc2 ho2 H1 W;generalize w2=W at*;obtain⟨P,hP⟩:∃x,(b.drop 22).take (UC b)=x:=⟨_,rfl⟩;have lP:P.length≤65536:=by rw[←hP,List.length_take];omega
 rw[hP];have EP:=AA hP;clear hP;go_wp2_with fail;refine(SK ⟨P.toArray⟩ _ (by rw[Lib.size_eq];show P.length≤_;omega)).mono ?_;rintro e w3 ⟨rfl,hb3⟩;have H1:=AA ((A8 H2).kept hb3);clear hb3 H2 W;generalize w3=W at*;simp only[List.drop_drop]at H1;have q1:=(A8 H1).txn.c3;have q2:=(A8 H1).txn.f 3;go_wp2_with fail;have H:=AA ((A8 H1).p P);clear q1 q2 H1;generalize W.setCell _ _=W at*;refine(FI (w.heap.size+1) 2 _ _ _ (by decide) (A8 H).cur).mono ?_;rintro e w1 ⟨rfl,hc1,ho1⟩;have H1:=AA ((A8 H).took hc1 ho1);clear hc1 ho1 H W;generalize w1=W at*;simp only[List.drop_drop]at H1;rw[IE _ _ (by decide)];rw[show un ((b.drop (22+UC b)).take 2)=tH b from rfl];go_wp2_with fail;refine(NM (w.heap.size+1) (tH b) _ _ _ (by omega) (A8 H1).cur).mono ?_;rintro e w2 ⟨rfl,hc2,ho2⟩;have H2:=AA ((A8 H1).took hc2 ho2);clear hc2 ho2 H1 W;generalize w2=W at*;obtain⟨D,hD⟩:∃x,(b.drop (22+UC b+2)).take (tH b)=x:=⟨_,rfl⟩;have lD:D.length≤65536:=by rw[←hD,List.length_take];omega
 rw[hD];have ED:=AA hD;clear hD;go_wp2_with fail;refine(SK ⟨D.toArray⟩ _ (by rw[Lib.size_eq];show D.length≤_;omega)).mono ?_;rintro e w3 ⟨rfl,hb3⟩;have H1:=AA ((A8 H2).kept hb3);clear hb3 H2 W;generalize w3=W at*;simp only[List.drop_drop]at H1;have hT:tIn b=⟨x0,x1,x2,P,D,x3,x4⟩:=by
  rw[tIn,A8 E0,A8 E1,A8 E2,A8 E3,A8 E4,A8 EP,show 24+UC b=22+UC b+2 from by omega,A8 ED]
 have HT:=AA hT;have h24:22+UC b+2=24+UC b:=by omega
 have HL:Hid (Unf w W (b.drop (24+UC b+tH b)) (AU8 b) ⟨x0,x1,x2,P,[],x3,x4⟩):=AA (by
  have h:=A8 H1;rw[h24]at h;exact h)
 clear hT h24 H1 E0 E1 E2 E3 E4 EP ED;have q0:W.cell? ⟨w.heap.size+1+1,0,none⟩=some (I0 x0):=(A8 HL).txn.c0;have q1:W.cell? ⟨w.heap.size+1+1,1,none⟩=some (I0 x1):=(A8 HL).txn.c1;have q2:W.cell? ⟨w.heap.size+1+1,2,none⟩=some (I0 x2):=(A8 HL).txn.c2;have q3:W.cell? ⟨w.heap.size+1+1,3,none⟩=some (S0 P):=(A8 HL).txn.c3;have q4:W.cell? ⟨w.heap.size+1+1,4,none⟩=some (.string ⟨#[]⟩):=(A8 HL).txn.c4;have q5:W.cell? ⟨w.heap.size+1+1,5,none⟩=some (I0 x3):=(A8 HL).txn.c5;have q6:W.cell? ⟨w.heap.size+1+1,6,none⟩=some (I0 x4):=(A8 HL).txn.c6;have qf:=(A8 HL).txn.f 4;have r0:W.cell? ⟨w.heap.size,0,none⟩=some (I0 0):=(A8 HL).res.c0;have r1:W.cell? ⟨w.heap.size,1,none⟩=some (I0 0):=(A8 HL).res.c1;have r2:W.cell? ⟨w.heap.size,2,none⟩=some (I0 0):=(A8 HL).res.c2;have r3:W.cell? ⟨w.heap.size,3,none⟩=some (.string ⟨#[]⟩):=(A8 HL).res.c3;have r4:W.cell? ⟨w.heap.size,4,none⟩=some (.string ⟨#[]⟩):=(A8 HL).res.c4;have r5:W.cell? ⟨w.heap.size,5,none⟩=some (I0 0):=(A8 HL).res.c5;have r6:W.cell? ⟨w.heap.size,6,none⟩=some (I0 0):=(A8 HL).res.c6;have rf:=(A8 HL).res.f;have CSh:=AA (dY _ _ _ _ ((A8 HL).d D).cur);have CLf:=AA (lX _ _ _ _ ((A8 HL).d D).cur)
 cases hfit:B31 b
 ·have HU:=AA (BP0 hfit)
  cases hl:AU8 b
  ·have hR:b.drop (24+UC b+tH b)≠[]:=fun hh=>by
    have h1:=qZ.1 hl;have h2:=congrArg List.length hh;rw[List.length_drop,List.length_nil]at h2;have h3:B31 b=true:=WO.2 ⟨by omega,by omega⟩;rw[hfit]at h3;exact absurd h3 (by decide)
   rw[hl]at CSh;obtain⟨R,hRR⟩:∃R,b.drop (24+UC b+tH b)=R:=⟨_,rfl⟩;rw[hRR]at CLf hR;have hR':(0:Int)<(R.length:Int):=by have:=List.length_pos_iff.2 hR;omega
   obtain⟨m,hm⟩:∃m,R.length=m:=⟨_,rfl⟩;rw[hm]at CLf hR';clear hRR hl hfit hm hR;go_wp2_with fail;refine(A8 CSh).mono ?_;rintro e wS ⟨rfl,rfl⟩;go_wp2_with fail;refine(A8 CLf).mono ?_;rintro e wL ⟨rfl,rfl⟩;clear CSh CLf;go_wp2_with fail;change bodyPost _ _ _ _ _ (FZ (W.setCell ⟨w.heap.size+1+1,4,none⟩ (S0 D)) w.heap.size t0);have HV:=AA ((A8 HL).d D);generalize W.setCell ⟨w.heap.size+1+1,4,none⟩ (S0 D)=V at HV⊢;have HP:=AA ((A8 HV).res.store t0);have hB:B0 w (FZ V w.heap.size t0):=(IZ _ _ _).below (A8 HV).below (Nat.le_refl _);generalize FZ V w.heap.size t0=V2 at HP hB⊢;have s0:=(A8 HP).c0;have s1:=(A8 HP).c1;have s2:=(A8 HP).c2;have s3:=(A8 HP).c3;have s4:=(A8 HP).c4;have s5:=(A8 HP).c5;have s6:=(A8 HP).c6;exact bodyPost_ret (v:=.tuple #[DX t0,I0 2]) (by simp[results,results80,go_sem,s0,s1,s2,s3,s4,s5,s6,DX]) rfl ⟨by rw[(A8 HU).1,(A8 HU).2],hB⟩
  ·rw[hl]at CSh;clear hl hfit CLf;go_wp2_with fail;refine(A8 CSh).mono ?_;rintro e wS ⟨rfl,rfl⟩;clear CSh;go_wp2_with fail;change bodyPost _ _ _ _ _ (FZ (W.setCell ⟨w.heap.size+1+1,4,none⟩ (S0 D)) w.heap.size t0);have HV:=AA ((A8 HL).d D);generalize W.setCell ⟨w.heap.size+1+1,4,none⟩ (S0 D)=V at HV⊢;have HP:=AA ((A8 HV).res.store t0);have hB:B0 w (FZ V w.heap.size t0):=(IZ _ _ _).below (A8 HV).below (Nat.le_refl _);generalize FZ V w.heap.size t0=V2 at HP hB⊢;have s0:=(A8 HP).c0;have s1:=(A8 HP).c1;have s2:=(A8 HP).c2;have s3:=(A8 HP).c3;have s4:=(A8 HP).c4;have s5:=(A8 HP).c5;have s6:=(A8 HP).c6;exact bodyPost_ret (v:=.tuple #[DX t0,I0 2]) (by simp[results,results80,go_sem,s0,s1,s2,s3,s4,s5,s6,DX]) rfl ⟨by rw[(A8 HU).1,(A8 HU).2],hB⟩
 ·have hl:AU8 b=false:=qZ.2 (by have:=WO.1 hfit;omega);have hR:b.drop (24+UC b+tH b)=[]:=List.drop_of_length_le (by have:=WO.1 hfit;omega);rw[hl]at CSh;rw[hR]at CLf;rw[BV4 hfit]at HT;have Hfit:=AA hfit;clear hl hR hfit
  cases hg:(gdE (tOf b)==0)
  ·have hg':gdE (tOf b)≠0:=by simpa using hg
   have HU:=AA (C38 (A8 Hfit) hg');obtain⟨E,hE⟩:∃E,gdE (tOf b)=E:=⟨_,rfl⟩;have hne:(E !=0)=true:=by rw[←hE];simp[bne,hg]
   rw[A8 HT]at hE;rw[A8 HT]at HU;have HE:=AA hE;clear hE hg hg';go_wp2_with fail;refine(A8 CSh).mono ?_;rintro e wS ⟨rfl,rfl⟩;go_wp2_with fail;refine(A8 CLf).mono ?_;rintro e wL ⟨rfl,rfl⟩;clear CSh CLf;go_wp2_with fail;refine(TJ ⟨x0,x1,x2,P,D,x3,x4⟩ _ (by show D.length≤_;omega)).mono ?_;rintro e w4 ⟨rfl,hb4⟩;rw[A8 HE];have HV0:=AA ((A8 HL).d D);have HV:=AA ((A8 HV0).kept hb4);clear hb4 HV0 HL q0 q1 q2 q3 q4 q5 q6 qf r0 r1 r2 r3 r4 r5 r6 rf;generalize w4=V at*;have r0:V.cell? ⟨w.heap.size,0,none⟩=some (I0 0):=(A8 HV).res.c0;have r1:V.cell? ⟨w.heap.size,1,none⟩=some (I0 0):=(A8 HV).res.c1;have r2:V.cell? ⟨w.heap.size,2,none⟩=some (I0 0):=(A8 HV).res.c2;have r3:V.cell? ⟨w.heap.size,3,none⟩=some (.string ⟨#[]⟩):=(A8 HV).res.c3;have r4:V.cell? ⟨w.heap.size,4,none⟩=some (.string ⟨#[]⟩):=(A8 HV).res.c4;have r5:V.cell? ⟨w.heap.size,5,none⟩=some (I0 0):=(A8 HV).res.c5;have r6:V.cell? ⟨w.heap.size,6,none⟩=some (I0 0):=(A8 HV).res.c6;have rf:=(A8 HV).res.f;go_wp2_with fail;change bodyPost _ _ _ _ _ (FZ V w.heap.size t0);have HP:=AA ((A8 HV).res.store t0);have hB:B0 w (FZ V w.heap.size t0):=(IZ _ _ _).below (A8 HV).below (Nat.le_refl _);generalize FZ V w.heap.size t0=V2 at HP hB⊢;have s0:=(A8 HP).c0;have s1:=(A8 HP).c1;have s2:=(A8 HP).c2;have s3:=(A8 HP).c3;have s4:=(A8 HP).c4;have s5:=(A8 HP).c5;have s6:=(A8 HP).c6;exact bodyPost_ret (v:=.tuple #[DX t0,I0 E]) (by simp[results,results80,go_sem,s0,s1,s2,s3,s4,s5,s6,DX]) rfl ⟨by rw[(A8 HU).1,(A8 HU).2,A8 HE],hB⟩
  ·have hg':gdE (tOf b)=0:=by simpa using hg
   have HU:=AA (C39 (A8 Hfit) hg');rw[A8 HT]at hg' HU;have HE:=AA hg';clear hg hg';go_wp2_with fail;refine(A8 CSh).mono ?_;rintro e wS ⟨rfl,rfl⟩;go_wp2_with fail;refine(A8 CLf).mono ?_;rintro e wL ⟨rfl,rfl⟩;clear CSh CLf;go_wp2_with fail;refine(TJ ⟨x0,x1,x2,P,D,x3,x4⟩ _ (by show D.length≤_;omega)).mono ?_;rintro e w4 ⟨rfl,hb4⟩;rw[A8 HE];have HV0:=AA ((A8 HL).d D);have HV:=AA ((A8 HV0).kept hb4);clear hb4 HV0 HL q0 q1 q2 q3 q4 q5 q6 qf r0 r1 r2 r3 r4 r5 r6 rf;generalize w4=V at*;have q0:V.cell? ⟨w.heap.size+1+1,0,none⟩=some (I0 x0):=(A8 HV).txn.c0;have q1:V.cell? ⟨w.heap.size+1+1,1,none⟩=some (I0 x1):=(A8 HV).txn.c1;have q2:V.cell? ⟨w.heap.size+1+1,2,none⟩=some (I0 x2):=(A8 HV).txn.c2;have q3:V.cell? ⟨w.heap.size+1+1,3,none⟩=some (S0 P):=(A8 HV).txn.c3;have q4:V.cell? ⟨w.heap.size+1+1,4,none⟩=some (S0 D):=(A8 HV).txn.c4;have q5:V.cell? ⟨w.heap.size+1+1,5,none⟩=some (I0 x3):=(A8 HV).txn.c5;have q6:V.cell? ⟨w.heap.size+1+1,6,none⟩=some (I0 x4):=(A8 HV).txn.c6;have r0:V.cell? ⟨w.heap.size,0,none⟩=some (I0 0):=(A8 HV).res.c0;have r1:V.cell? ⟨w.heap.size,1,none⟩=some (I0 0):=(A8 HV).res.c1;have r2:V.cell? ⟨w.heap.size,2,none⟩=some (I0 0):=(A8 HV).res.c2;have r3:V.cell? ⟨w.heap.size,3,none⟩=some (.string ⟨#[]⟩):=(A8 HV).res.c3;have r4:V.cell? ⟨w.heap.size,4,none⟩=some (.string ⟨#[]⟩):=(A8 HV).res.c4;have r5:V.cell? ⟨w.heap.size,5,none⟩=some (I0 0):=(A8 HV).res.c5;have r6:V.cell? ⟨w.heap.size,6,none⟩=some (I0 0):=(A8 HV).res.c6;have rf:=(A8 HV).res.f;go_wp2_with fail;change bodyPost _ _ _ _ _ (FZ V w.heap.size ⟨x0,x1,x2,P,D,x3,x4⟩);have HP:=AA ((A8 HV).res.store ⟨x0,x1,x2,P,D,x3,x4⟩);have hB:B0 w (FZ V w.heap.size ⟨x0,x1,x2,P,D,x3,x4⟩):=(IZ _ _ _).below (A8 HV).below (Nat.le_refl _);generalize FZ V w.heap.size ⟨x0,x1,x2,P,D,x3,x4⟩=V2 at HP hB⊢;have s0:=(A8 HP).c0;have s1:=(A8 HP).c1;have s2:=(A8 HP).c2;have s3:=(A8 HP).c3;have s4:=(A8 HP).c4;have s5:=(A8 HP).c5;have s6:=(A8 HP).c6;exact bodyPost_ret (v:=.tuple #[DX ⟨x0,x1,x2,P,D,x3,x4⟩,I0 0]) (by simp[results,results80,go_sem,s0,s1,s2,s3,s4,s5,s6,DX]) rfl ⟨by rw[(A8 HU).1,(A8 HU).2],hB⟩
end Go.Proofs.YtodnhndkghdinaaGreatDoor
