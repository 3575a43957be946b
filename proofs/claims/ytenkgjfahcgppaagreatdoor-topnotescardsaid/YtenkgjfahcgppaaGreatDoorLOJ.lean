/-
  Part.
-/
import Derived.Test.YtenkgjfahcgppaaGreatDoorLOF
import Derived.Test.YtenkgjfahcgppaaGreatDoorLOC
set_option maxRecDepth 20000
set_option maxHeartbeats 8000000
namespace Go.Proofs.YtenkgjfahcgppaaGreatDoor
open Go.RowKit Go.Proofs.Tryz
variable{W V:World}{a:Int}{b:Bool}{t:AQ}{g B:Nat}{r l:List UInt8}
theorem xJ{w1:World}(hb:B0 W w1):(∀b o,b<W.heap.size->w1.cell? ⟨b,o,none⟩=W.cell? ⟨b,o,none⟩)/\(∀b o,b<W.heap.size->w1.frozen? ⟨b,o,none⟩=W.frozen? ⟨b,o,none⟩):=
 ⟨fun b o h=>hb.cell (p:=⟨b,o,none⟩) h,fun b o h=>hb.frozen (p:=⟨b,o,none⟩) h⟩
theorem EU(n k:Int)(w:World):
  Calls prog 81 #[I0 n,I0 k] w fun e w'=>e=.returned (.bool (vJ n k))/\w'=w:=by
 go_enter func81,ntmps81
 go_wp2
 all_goals go_ret
 all_goals exact⟨OO (by rw[Bool.eq_iff_iff,QV];simp;try omega),rfl⟩
theorem PG{w:World}{o:Obj}{w1:World}(h:Below (w.alloc o).heap.size (w.alloc o) w1):B0 w w1:=
 ((Below.refl _ _).alloc (Nat.le_refl _) _).trans (h.mono (by simp))
theorem BC6{o:Int}(h:opB o=true):o=1\/o=2\/o=3\/o=4\/o=5:=by have:=dD.1 h;omega
theorem fm_1(z s:Int)(p d:List UInt8)(v u:Int):fmB ⟨z,1,s,p,d,v,u⟩=(p==[]&&d==[]&&v==0&&u==0):=rfl
theorem fm_2(z s:Int)(p d:List UInt8)(v u:Int):fmB ⟨z,2,s,p,d,v,u⟩=(p==[]&&d==[]&&v==0&&u==0):=rfl
theorem fm_3(z s:Int)(p d:List UInt8)(v u:Int):fmB ⟨z,3,s,p,d,v,u⟩=(DN p&& !(p==[47])&&v==0):=rfl
theorem fm_4(z s:Int)(p d:List UInt8)(v u:Int):fmB ⟨z,4,s,p,d,v,u⟩=(DN p&& !(p==[47])&&d==[]&&v==0&&u==0):=rfl
theorem fm_5(z s:Int)(p d:List UInt8)(v u:Int):fmB ⟨z,5,s,p,d,v,u⟩=(DN p&&u==0):=rfl
theorem BC7(z s:Int)(p d:List UInt8)(v u:Int)(w:World):
  Calls prog 82 #[.agg #[I0 z,I0 1,I0 s,S0 p,S0 d,I0 v,I0 u]] w (R0 w (.bool (fmB ⟨z,1,s,p,d,v,u⟩))):=by
 rw[fm_1]
 cases hg:DN p
 all_goals
  have Hg:=AA hg;clear hg;go_enter func82,ntmps82;go_wp2_with fail;refine(GN _ _).mono ?_;rintro e w1 ⟨rfl,hb1⟩;have hbz:=PG hb1;obtain⟨hc,hf⟩:=xJ hb1;rw[show (ByteArray.mk p.toArray).data.toList=p from rfl,A8 Hg];go_wp2_with fail
  all_goals go_ret
  all_goals (clear hc hf hb1)
  all_goals (refine⟨OO ?_,hbz⟩;clear hbz Hg;simp[*])
theorem BC8(z s:Int)(p d:List UInt8)(v u:Int)(w:World):
  Calls prog 82 #[.agg #[I0 z,I0 2,I0 s,S0 p,S0 d,I0 v,I0 u]] w (R0 w (.bool (fmB ⟨z,2,s,p,d,v,u⟩))):=by
 rw[fm_2]
 cases hg:DN p
 all_goals
  have Hg:=AA hg;clear hg;go_enter func82,ntmps82;go_wp2_with fail;refine(GN _ _).mono ?_;rintro e w1 ⟨rfl,hb1⟩;have hbz:=PG hb1;obtain⟨hc,hf⟩:=xJ hb1;rw[show (ByteArray.mk p.toArray).data.toList=p from rfl,A8 Hg];go_wp2_with fail
  all_goals go_ret
  all_goals (clear hc hf hb1)
  all_goals (refine⟨OO ?_,hbz⟩;clear hbz Hg;simp[*])
theorem BC9(z s:Int)(p d:List UInt8)(v u:Int)(w:World):
  Calls prog 82 #[.agg #[I0 z,I0 3,I0 s,S0 p,S0 d,I0 v,I0 u]] w (R0 w (.bool (fmB ⟨z,3,s,p,d,v,u⟩))):=by
 rw[fm_3]
 cases hg:DN p
 all_goals
  have Hg:=AA hg;clear hg;go_enter func82,ntmps82;go_wp2_with fail;refine(GN _ _).mono ?_;rintro e w1 ⟨rfl,hb1⟩;have hbz:=PG hb1;obtain⟨hc,hf⟩:=xJ hb1;rw[show (ByteArray.mk p.toArray).data.toList=p from rfl,A8 Hg];go_wp2_with fail
  all_goals go_ret
  all_goals (clear hc hf hb1)
  all_goals (refine⟨OO ?_,hbz⟩;clear hbz Hg;simp[*])
theorem BD0(z s:Int)(p d:List UInt8)(v u:Int)(w:World):
  Calls prog 82 #[.agg #[I0 z,I0 4,I0 s,S0 p,S0 d,I0 v,I0 u]] w (R0 w (.bool (fmB ⟨z,4,s,p,d,v,u⟩))):=by
 rw[fm_4]
 cases hg:DN p
 all_goals
  have Hg:=AA hg;clear hg;go_enter func82,ntmps82;go_wp2_with fail;refine(GN _ _).mono ?_;rintro e w1 ⟨rfl,hb1⟩;have hbz:=PG hb1;obtain⟨hc,hf⟩:=xJ hb1;rw[show (ByteArray.mk p.toArray).data.toList=p from rfl,A8 Hg];go_wp2_with fail
  all_goals go_ret
  all_goals (clear hc hf hb1)
  all_goals (refine⟨OO ?_,hbz⟩;clear hbz Hg;simp[*])
theorem BD1(z s:Int)(p d:List UInt8)(v u:Int)(w:World):
  Calls prog 82 #[.agg #[I0 z,I0 5,I0 s,S0 p,S0 d,I0 v,I0 u]] w (R0 w (.bool (fmB ⟨z,5,s,p,d,v,u⟩))):=by
 rw[fm_5]
 cases hg:DN p
 all_goals
  have Hg:=AA hg;clear hg;go_enter func82,ntmps82;go_wp2_with fail;refine(GN _ _).mono ?_;rintro e w1 ⟨rfl,hb1⟩;have hbz:=PG hb1;have hz1:w.heap.size<w1.heap.size:=by have:=hb1.size;simp at this;omega
  obtain⟨hc,hf⟩:=xJ hb1;rw[show (ByteArray.mk p.toArray).data.toList=p from rfl,A8 Hg];go_wp2_with fail
  all_goals
   refine(GN _ _).mono ?_;rintro e w2 ⟨rfl,hb2⟩;have hbz2:=OE hbz hb2;obtain⟨hc2,hf2⟩:=xJ hb2;rw[show (ByteArray.mk p.toArray).data.toList=p from rfl,A8 Hg];go_wp2_with fail
  all_goals go_ret
  all_goals (clear hc hf hb1 hc2 hf2 hb2 hbz)
  all_goals (refine⟨OO ?_,hbz2⟩;clear hbz2 Hg;simp[*])
theorem jT(t:AQ)(w:World)(ht:opB t.o=true):
  Calls prog 82 #[DW t] w (R0 w (.bool (fmB t))):=by
 obtain⟨z,o,s,p,d,v,u⟩:=t;rcases BC6 ht with h|h|h|h|h<;>(replace h:o=_:=h;subst h)
 .exact BC7 z s p d v u w
 .exact BC8 z s p d v u w
 .exact BC9 z s p d v u w
 .exact BD0 z s p d v u w
 .exact BD1 z s p d v u w
theorem CB1{o:Int}(h:opB o=false):o<1\/5<o:=by
 by_cases h1:1<=o/\o<=5
 .rw[dD.2 h1]at h;exact absurd h (by decide)
 .omega
theorem ZW{b:Int}(h:a=b):Ending.returned (I0 a)=.returned (I0 b):=by rw[h]
theorem A37(h:FU t.z=false\/vJ t.s 1=false\/vJ t.v 0=false\/vJ t.w 0=false):B66 t=false:=by
 rcases h with h|h|h|h<;>simp[B66,h]
theorem TP(t:AQ)(w:World)(hd:t.d.length<=140737488355328):
  Calls prog 54 #[DW t] w (R0 w (I0 (gdE t))):=by
 cases ho:opB t.o
 .have H:=AA (B75 ho);have hor:=CB1 ho;clear ho;obtain⟨z,o,s,p,d,v,u⟩:=t;unfold DW;replace hor:o<1\/5<o:=hor;rcases hor with hor|hor
  all_goals
   go_enter func54,ntmps54;go_wp2_with fail;go_ret;exact⟨ZW (A8 H).symm,(Below.refl _ _).alloc (Nat.le_refl _) _⟩
 have hor:=dD.1 ho;have ho1:=hor.1;have ho2:=hor.2;have Ho:=AA ho;clear ho hor
 cases hz:FU t.z
 .have H:=AA (WZ (A8 Ho) (A37 (.inl hz)));have Hz:=AA hz;clear hz
  .obtain⟨z,o,s,p,d,v,u⟩:=t;unfold DW;have hzd:(ByteArray.mk d.toArray).size=d.length:=Lib.size_eq ⟨d.toArray⟩;replace ho1:1<=o:=ho1;replace ho2:o<=5:=ho2;replace hd:d.length<=140737488355328:=hd;go_enter func54,ntmps54;go_wp2_with fail;refine(EN _ _).mono ?_;rintro e w1 ⟨rfl,rfl⟩;rw[A8 Hz];go_wp2_with fail;go_ret;exact⟨ZW (A8 H).symm,(Below.refl _ _).alloc (Nat.le_refl _) _⟩
 cases hs:vJ t.s 1
 .have H:=AA (WZ (A8 Ho) (A37 (.inr (.inl hs))));have Hz:=AA hz;have Hs:=AA hs;clear hz hs
  .obtain⟨z,o,s,p,d,v,u⟩:=t;unfold DW;have hzd:(ByteArray.mk d.toArray).size=d.length:=Lib.size_eq ⟨d.toArray⟩;replace ho1:1<=o:=ho1;replace ho2:o<=5:=ho2;replace hd:d.length<=140737488355328:=hd;go_enter func54,ntmps54;go_wp2_with fail;refine(EN _ _).mono ?_;rintro e w1 ⟨rfl,rfl⟩;rw[A8 Hz];go_wp2_with fail;refine(EU _ _ _).mono ?_;rintro e w1 ⟨rfl,rfl⟩;rw[A8 Hs];go_wp2_with fail;go_ret;exact⟨ZW (A8 H).symm,(Below.refl _ _).alloc (Nat.le_refl _) _⟩
 cases hv:vJ t.v 0
 .have H:=AA (WZ (A8 Ho) (A37 (.inr (.inr (.inl hv)))));have Hz:=AA hz;have Hs:=AA hs;have Hv:=AA hv;clear hz hs hv
  .obtain⟨z,o,s,p,d,v,u⟩:=t;unfold DW;have hzd:(ByteArray.mk d.toArray).size=d.length:=Lib.size_eq ⟨d.toArray⟩;replace ho1:1<=o:=ho1;replace ho2:o<=5:=ho2;replace hd:d.length<=140737488355328:=hd;go_enter func54,ntmps54;go_wp2_with fail;refine(EN _ _).mono ?_;rintro e w1 ⟨rfl,rfl⟩;rw[A8 Hz];go_wp2_with fail;refine(EU _ _ _).mono ?_;rintro e w1 ⟨rfl,rfl⟩;rw[A8 Hs];go_wp2_with fail;refine(EU _ _ _).mono ?_;rintro e w1 ⟨rfl,rfl⟩;rw[A8 Hv];go_wp2_with fail;go_ret;exact⟨ZW (A8 H).symm,(Below.refl _ _).alloc (Nat.le_refl _) _⟩
 cases hu:vJ t.w 0
 .have H:=AA (WZ (A8 Ho) (A37 (.inr (.inr (.inr hu)))));have Hz:=AA hz;have Hs:=AA hs;have Hv:=AA hv;have Hu:=AA hu;clear hz hs hv hu
  .obtain⟨z,o,s,p,d,v,u⟩:=t;unfold DW;have hzd:(ByteArray.mk d.toArray).size=d.length:=Lib.size_eq ⟨d.toArray⟩;replace ho1:1<=o:=ho1;replace ho2:o<=5:=ho2;replace hd:d.length<=140737488355328:=hd;go_enter func54,ntmps54;go_wp2_with fail;refine(EN _ _).mono ?_;rintro e w1 ⟨rfl,rfl⟩;rw[A8 Hz];go_wp2_with fail;refine(EU _ _ _).mono ?_;rintro e w1 ⟨rfl,rfl⟩;rw[A8 Hs];go_wp2_with fail;refine(EU _ _ _).mono ?_;rintro e w1 ⟨rfl,rfl⟩;rw[A8 Hv];go_wp2_with fail;refine(EU _ _ _).mono ?_;rintro e w1 ⟨rfl,rfl⟩;rw[A8 Hu];go_wp2_with fail;go_ret;exact⟨ZW (A8 H).symm,(Below.refl _ _).alloc (Nat.le_refl _) _⟩
 have HN:=AA (lG.2 ⟨hz,hs,hv,hu⟩);have Hz:=AA hz;have Hs:=AA hs;have Hv:=AA hv;have Hu:=AA hu;clear hz hs hv hu;by_cases hl:256<t.d.length
 .have H:=AA (B76 (A8 Ho) (A8 HN) hl)
  .obtain⟨z,o,s,p,d,v,u⟩:=t;unfold DW;replace hl:256<d.length:=hl;have hzd:(ByteArray.mk d.toArray).size=d.length:=Lib.size_eq ⟨d.toArray⟩;replace ho1:1<=o:=ho1;replace ho2:o<=5:=ho2;replace hd:d.length<=140737488355328:=hd;go_enter func54,ntmps54;go_wp2_with fail;refine(EN _ _).mono ?_;rintro e w1 ⟨rfl,rfl⟩;rw[A8 Hz];go_wp2_with fail;refine(EU _ _ _).mono ?_;rintro e w1 ⟨rfl,rfl⟩;rw[A8 Hs];go_wp2_with fail;refine(EU _ _ _).mono ?_;rintro e w1 ⟨rfl,rfl⟩;rw[A8 Hv];go_wp2_with fail;refine(EU _ _ _).mono ?_;rintro e w1 ⟨rfl,rfl⟩;rw[A8 Hu];go_wp2_with fail;go_ret;exact⟨ZW (A8 H).symm,(Below.refl _ _).alloc (Nat.le_refl _) _⟩
 cases hfm:fmB t
 .have H:=AA (B77 (A8 Ho) (A8 HN) (by omega) hfm);have Hf:=AA hfm;clear hfm
  .obtain⟨z,o,s,p,d,v,u⟩:=t;unfold DW;replace hl:¬256<d.length:=hl;have hzd:(ByteArray.mk d.toArray).size=d.length:=Lib.size_eq ⟨d.toArray⟩;replace ho1:1<=o:=ho1;replace ho2:o<=5:=ho2;replace hd:d.length<=140737488355328:=hd;go_enter func54,ntmps54;go_wp2_with fail;refine(EN _ _).mono ?_;rintro e w1 ⟨rfl,rfl⟩;rw[A8 Hz];go_wp2_with fail;refine(EU _ _ _).mono ?_;rintro e w1 ⟨rfl,rfl⟩;rw[A8 Hs];go_wp2_with fail;refine(EU _ _ _).mono ?_;rintro e w1 ⟨rfl,rfl⟩;rw[A8 Hv];go_wp2_with fail;refine(EU _ _ _).mono ?_;rintro e w1 ⟨rfl,rfl⟩;rw[A8 Hu];go_wp2_with fail;refine(jT ⟨z,o,s,p,d,v,u⟩ _ (A8 Ho)).mono ?_;rintro e w2 ⟨rfl,hb2⟩;have hbz:=PG hb2;rw[A8 Hf];go_wp2_with fail;go_ret;exact⟨ZW (A8 H).symm,hbz⟩
 .have H:=AA (C86 (A8 Ho) (A8 HN) (by omega) hfm);have Hf:=AA hfm;clear hfm
  .obtain⟨z,o,s,p,d,v,u⟩:=t;unfold DW;replace hl:¬256<d.length:=hl;have hzd:(ByteArray.mk d.toArray).size=d.length:=Lib.size_eq ⟨d.toArray⟩;replace ho1:1<=o:=ho1;replace ho2:o<=5:=ho2;replace hd:d.length<=140737488355328:=hd;go_enter func54,ntmps54;go_wp2_with fail;refine(EN _ _).mono ?_;rintro e w1 ⟨rfl,rfl⟩;rw[A8 Hz];go_wp2_with fail;refine(EU _ _ _).mono ?_;rintro e w1 ⟨rfl,rfl⟩;rw[A8 Hs];go_wp2_with fail;refine(EU _ _ _).mono ?_;rintro e w1 ⟨rfl,rfl⟩;rw[A8 Hv];go_wp2_with fail;refine(EU _ _ _).mono ?_;rintro e w1 ⟨rfl,rfl⟩;rw[A8 Hu];go_wp2_with fail;refine(jT ⟨z,o,s,p,d,v,u⟩ _ (A8 Ho)).mono ?_;rintro e w2 ⟨rfl,hb2⟩;have hbz:=PG hb2;rw[A8 Hf];go_wp2_with fail;go_ret;exact⟨ZW (A8 H).symm,hbz⟩
structure Only(g:Nat)(w w':World):Prop where
 os:w'.os=w.os
 tape:w'.tape=w.tape
 output:w'.output=w.output
 size:w'.heap.size=w.heap.size
 block:∀k,k≠g->w'.heap[k]?=w.heap[k]?
theorem Only.refl(g:Nat)(w:World):Only g w w:=⟨rfl,rfl,rfl,rfl,fun _ _=>rfl⟩
theorem Only.trans{a b c:World}(h:Only g a b)(k:Only g b c):Only g a c:=
 ⟨k.os.trans h.os,k.tape.trans h.tape,k.output.trans h.output,k.size.trans h.size,fun i hi=>(k.block i hi).trans (h.block i hi)⟩
theorem Only.below{a w w':World}(h:Only g w w')(hb:Below B a w)(hg:B<=g):Below B a w':=
 hb.trans ⟨h.os,h.tape,h.output,Nat.le_of_eq h.size.symm,fun k hk=>h.block k (by omega)⟩
theorem Only.setCell{a w:World}(h:Only g a w)(j:Nat)(v:Value):Only g a (w.setCell ⟨g,j,none⟩ v):=
 h.trans ⟨rfl,rfl,rfl,by simp[World.setCell],fun k hk=>Below.heap_setCell _ _ _ _ hk⟩
def Cur(W:World)(g:Nat)(rest:List UInt8)(short:Bool):Prop:=W.heap[g]?=some (.cells #[S0 rest,.bool short] 281 (0,0))
theorem Cur.c0(h:Cur W g r b):W.cell? ⟨g,0,none⟩=some (S0 r):=by unfold Cur at h;simp[World.cell?,h]
theorem Cur.c1(h:Cur W g r b):W.cell? ⟨g,1,none⟩=some (.bool b):=by unfold Cur at h;simp[World.cell?,h]
theorem Cur.f(h:Cur W g r b)(j:Nat):W.frozen? ⟨g,j,none⟩=false:=by unfold Cur at h;simp[World.frozen?,h]
theorem JM{w:World}{j:Nat}{cur:Array Value}{t:TypeId}{fz:Nat×Nat}(v:Value)(h:w.heap[g]?=some (.cells cur t fz)):
  (w.setCell ⟨g,j,none⟩ v).heap[g]?=some (.cells (cur.setIfInBounds j v) t fz):=by
 obtain⟨hlt,hk⟩:=Array.getElem?_eq_some_iff.1 h;show (w.heap.modify g _)[g]?=_;rw[Array.getElem?_eq_getElem (by rw[Array.size_modify];exact hlt),Array.getElem_modify_self,hk];rfl
theorem Cur.s0(h:Cur W g r b)(r':List UInt8):Cur (W.setCell ⟨g,0,none⟩ (S0 r')) g r' b:=JM _ h
theorem Cur.s1(h:Cur W g r b)(b':Bool):Cur (W.setCell ⟨g,1,none⟩ (.bool b')) g r b':=JM _ h
theorem Cur.kept(h:Cur W g r b)(hb:Below B W V)(hg:g<B):Cur V g r b:=(hb.block _ hg).trans h
theorem Cur.other{k:Nat}(h:Cur W g r b)(ho:Only k W V)(hg:g≠k):Cur V g r b:=(ho.block _ hg).trans h
theorem nC(l:List UInt8)(d:Nat):(ByteArray.mk l.toArray).extract 0 d=⟨(l.take d).toArray⟩:=by
 apply ByteArray.ext
 apply Array.toList_inj.1
 have h:=Lib.extract_toList (ByteArray.mk l.toArray) 0 d;rw[Lib.toList_data]at h;refine h.trans ?_;show (l.drop 0).take (d-0)=_;simp
theorem AW5(l:List UInt8)(d:Nat):(ByteArray.mk l.toArray).extract d l.length=⟨(l.drop d).toArray⟩:=by
 apply ByteArray.ext
 apply Array.toList_inj.1
 have h:=Lib.extract_toList (ByteArray.mk l.toArray) d l.length;rw[Lib.toList_data]at h;refine h.trans ?_;show (l.drop d).take (l.length-d)=l.drop d;exact List.take_of_length_le (by simp)
theorem AW6{a b:ByteArray}(h:a=b):Ending.returned (.string a)=.returned (.string b):=by rw[h]
theorem OD(g n:Nat)(r:List UInt8)(b:Bool)(w:World)(hn:n<=140737488355328)(hc:Cur w g r b):
  Calls prog 175 #[P0 g,I0 n] w fun e w'=>e=.returned (S0 (r.take n))/\Cur w' g (r.drop n) (b||decide (r.length<n))/\Only g w w':=by
 have hz:(ByteArray.mk r.toArray).size=r.length:=Lib.size_eq ⟨r.toArray⟩;have h0:=hc.c0;have h1:=hc.c1;have hf0:=hc.f 0;have hf1:=hc.f 1;have HC:=AA hc;clear hc;by_cases hlt:r.length<n
 .go_enter func175,ntmps175
  go_wp2
  go_ret;refine⟨AW6 ?_,?_,((Only.refl g w).setCell 1 _).setCell 0 _⟩
  .rw[nC,List.take_length,List.take_of_length_le (by omega)]
  .rw[List.drop_of_length_le (by omega),decide_eq_true hlt,Bool.or_true];exact((A8 HC).s1 true).s0 []
 .go_enter func175,ntmps175
  go_wp2
  go_ret;refine⟨AW6 (nC r n),?_,(Only.refl g w).setCell 0 _⟩;rw[AW5,decide_eq_false hlt,Bool.or_false];exact(A8 HC).s0 _
theorem CD1(x y:Int):bits .or .i64 x y=IntKind.i64.wrap ((BitVec.ofInt 64 x|||BitVec.ofInt 64 y).toNat:Int):=rfl
theorem BY1(t b:Nat)(ht:t<72057594037927936)(hb:b<256):bits .or .i64 (wrap64 ((t:Int)*256)) (b:Int)=wrap64 ((t*256+b:Nat):Int):=by
 have e1:BitVec.ofInt 64 (wrap64 ((t:Int)*256))=BitVec.ofNat 64 (t*256):=by
  apply BitVec.eq_of_toNat_eq
  rw[BitVec.toNat_ofInt,BitVec.toNat_ofNat];unfold wrap64;omega
 have e2:(BitVec.ofNat 64 (t*256)|||BitVec.ofInt 64 (b:Int)).toNat=t*256+b:=by
  rw[BitVec.ofInt_natCast,BitVec.toNat_or,BitVec.toNat_ofNat,BitVec.toNat_ofNat,Nat.mod_eq_of_lt (by omega),Nat.mod_eq_of_lt (by omega)];have:=Nat.two_pow_add_eq_or_of_lt (i:=8) (b:=b) (by omega) t;rw[Nat.mul_comm t 256];exact this.symm
 rw[CD1,e1,e2,IntKind.wrap_i64,wrap64]
theorem A49(h:l.length<=7):un l<72057594037927936:=by
 have h1:=B74 l;have h2:256^l.length<=256^7:=Nat.pow_le_pow_right (by decide) h;have h3:(256:Nat)^7=72057594037927936:=by decide
 omega
theorem BY2(l:List UInt8)(k:Nat)(h:k<l.length):un (l.take (k+1))=un (l.take k)*256+l[k].toNat:=by
 rw[List.take_succ_eq_append_getElem h,vI]
theorem CD2{b:Int}(h:a=b):Ending.returned (I0 a)=.returned (I0 b):=by rw[h]
theorem CD3{b:Int}(h:a=b):I0 a=I0 b:=by rw[h]
theorem CD4(l:List UInt8)(k:Nat)(h:k<(ByteArray.mk l.toArray).size):(ByteArray.mk l.toArray)[k]=l[k]'(by rwa[Lib.size_eq]at h):=rfl
theorem FK(g n:Nat)(r:List UInt8)(b:Bool)(w:World)(hn:n<=8)(hc:Cur w g r b):
  Calls prog 176 #[P0 g,I0 n] w fun e w'=>e=.returned (I0 (wrap64 (un (r.take n):Nat)))/\Cur w' g (r.drop n) (b||decide (r.length<n))/\Only g w w':=by
 have HC:=AA hc;clear hc;go_enter func176,ntmps176;go_wp2_with fail;refine(OD g n r b _ (by omega) (A8 HC)).mono ?_;rintro e w1 ⟨rfl,hc1,ho1⟩;have H1:=AA hc1;clear hc1 HC;obtain⟨p,hp⟩:∃p,r.take n=p:=⟨_,rfl⟩;have hpl:p.length<=8:=by rw[<-hp,List.length_take];omega
 rw[hp];have Hp:=AA hp;clear hp;have hz:(ByteArray.mk p.toArray).size=p.length:=Lib.size_eq ⟨p.toArray⟩;go_wp2_with fail
 go_loop [6,13] (fun t i=>∃k:Nat,k<=p.length/\i=I0 k/\t=I0 (wrap64 (un (p.take k):Nat))) (fun _ i=>p.length-(intOf i).toNat)
 case atStart=>exact⟨0,Nat.zero_le _,rfl,CD3 (by simp[un,wrap64])⟩
 case round=>
  obtain⟨k,hk,rfl,rfl⟩:=hrel;by_cases hlt:k<p.length
  .have Hs:=AA (BY2 p k hlt);have hsm:=A49 (l:=p.take k) (by rw[List.length_take];omega);obtain⟨x,hx⟩:∃x,un (p.take k)=x:=⟨_,rfl⟩;rw[hx]at hsm Hs⊢;clear hx;rw[show wrap64 (x:Int)=x from by unfold wrap64;omega];have hb:=p[k].toNat_lt;go_wp2_with fail;refine⟨⟨k+1,by omega,by go_num,CD3 ?_⟩,by simp[intOf];omega⟩;rw[A8 Hs,CD4,show wrap64 ((p[k].toNat:Nat):Int)=(p[k].toNat:Int)from by unfold wrap64;omega];exact BY1 x _ hsm (by omega)
  .obtain rfl:k=p.length:=by omega
   rw[List.take_length];go_wp2_with fail;go_ret;exact⟨CD2 (by rw[A8 Hp]),A8 H1,ho1⟩
theorem TW(s:List UInt8)(w:World):
  Calls prog 174 #[S0 s] w fun e w'=>e=.returned (.pointer (some ⟨w.heap.size,0,none⟩))/\w'=w.alloc (.cells #[S0 s,.bool false] 281):=by
 go_enter func174,ntmps174;go_wp2_with fail;go_ret;exact⟨rfl,rfl⟩
theorem fG(g:Nat)(r:List UInt8)(b:Bool)(w:World)(h:Cur w g r b):
  Calls prog 178 #[P0 g] w fun e w'=>e=.returned (.bool b)/\w'=w:=by
 have c1:=h.c1;go_enter func178,ntmps178;go_wp2_with fail;go_ret;exact⟨rfl,rfl⟩
theorem nD(g:Nat)(r:List UInt8)(b:Bool)(w:World)(h:Cur w g r b):
  Calls prog 177 #[P0 g] w fun e w'=>e=.returned (I0 r.length)/\w'=w:=by
 have c0:=h.c0;have hz:(ByteArray.mk r.toArray).size=r.length:=Lib.size_eq ⟨r.toArray⟩;go_enter func177,ntmps177;go_wp2_with fail;go_ret;exact⟨rfl,rfl⟩
theorem A50:∀j n,be (j+1) n=UInt8.ofNat (n/256^j)::be j n
 |0,n=>by simp[be]
 |j+1,n=>by
  rw[be,A50 j (n/256),be,Nat.div_div_eq_div_mul,Nat.pow_succ,Nat.mul_comm 256];rfl
def rW(l:List UInt8):List Value:=l.map fun b=>.int .u8 (b.toNat:Int)
def LG(W:World)(g:Nat)(l:List UInt8):Prop:=W.heap[g]?=some (.cells (rW l).toArray 5 (0,0))
theorem LG.cell(h:LG W g l){j:Nat}(hj:j<l.length):W.cell? ⟨g,j,none⟩=some (.int .u8 (l[j].toNat:Int)):=by
 unfold LG at h;simp[World.cell?,h,rW,List.getElem?_eq_getElem hj]
theorem LG.soft(h:LG W g l)(j:Nat):W.frozen? ⟨g,j,none⟩=false:=by
 unfold LG at h;simp[World.frozen?,h]
theorem LG.set(h:LG W g l)(j:Nat)(b:UInt8):LG (W.setCell ⟨g,j,none⟩ (.int .u8 (b.toNat:Int))) g (l.set j b):=by
 unfold LG at h⊢;obtain⟨hlt,hk⟩:=Array.getElem?_eq_some_iff.1 h;show (W.heap.modify g _)[g]?=_;rw[Array.getElem?_eq_getElem (by rw[Array.size_modify];exact hlt),Array.getElem_modify_self,hk];simp[rW,List.map_set]
theorem BY6(m:Nat)(b:UInt8)(r:List UInt8):(List.replicate (m+1) 0++r).set m b=List.replicate m 0++b::r:=by
 rw[List.replicate_succ',List.append_assoc,List.set_append_right _ _ (by simp)];simp
theorem LG.text(h:LG W g l)(cap:Nat):
  (convert 205 9 (.slice (some ⟨g,0,none⟩) l.length cap)).run prog W=.ok (S0 l) W:=
 run_convert_bytes_back W 205 9 5 ⟨g,0,none⟩ cap l underlying205 underlying5 underlying9 (fun j hj=>by
  rw[show (⟨g,0,none⟩:Addr).add j=⟨g,j,none⟩from by unfold Addr.add;split<;>simp_all];exact h.cell hj)
theorem AW8(x:Nat):((x:Int)%256)=((UInt8.ofNat x).toNat:Int):=by simp
theorem BY7(n j:Nat):n/256^j/256=n/256^(j+1):=by rw[Nat.div_div_eq_div_mul,Nat.pow_succ]
theorem CD5{b:Int}(h:a=b):I0 a=I0 b:=by rw[h]
theorem BG0{a b:ByteArray}(h:a=b):Ending.returned (.string a)=.returned (.string b):=by rw[h]
theorem AW9(k:Nat):madeCells (Value.int .u8 0).cells k=(rW (List.replicate k 0)).toArray:=by
 apply Array.ext'
 apply List.ext_getElem
 .simp[madeCells,rW]
 .intro j h1 h2;simp[madeCells,rW,Value.cells,Nat.mod_one]
theorem CD6:(prog.info? 5).map (fun i=>(i.zero,i.size,i.bytes))=some (some (.int .u8 0),1,1):=by kernel_rfl
theorem AG2(k:Nat)(hk:k<=8)(w:World):(Instr.makeSlice 205 (I0 k) (I0 k)).run prog w=.ok (.slice (some ⟨w.heap.size,0,none⟩) k k) (w.alloc (.cells (rW (List.replicate k 0)).toArray 5)):=by
 obtain⟨i0,hi,hz0,hz1,hz2⟩:=info_parts CD6;have h:=run_make (P:=prog) w 205 5 i0 (.int .u8 0) underlying205 hi hz0 .i64 .i64 k k (by omega) (by omega) (by rw[hz2];omega) (by omega);rw[h,hz1,Nat.mul_one,Int.toNat_natCast,AW9]
theorem ZA(n k:Nat)(w:World)(hn:n<9223372036854775808)(hk:k<=8):
  Calls prog 246 #[I0 n,I0 k] w (R0 w (S0 (be k n))):=by
 have hmk:=AG2 k hk w;go_enter func246,ntmps246
 go_wp2
 generalize hW1:w.alloc (Obj.cells (rW (List.replicate k 0)).toArray 5)=W1;have HR1:Hid (LG W1 w.heap.size (List.replicate k 0++be 0 n)):=AA (by
  rw[<-hW1];show (w.heap.push _)[w.heap.size]?=_;simp[be])
 have hB1:B0 w W1:=by rw[<-hW1];exact(Below.refl _ _).alloc (Nat.le_refl _) _
 clear hW1 hmk
 go_loopw [0,6] (fun x i wr=>∃j:Nat,j<=k/\x=I0 (n/256^j:Nat)/\i=I0 ((k:Int)-1-j)/\LG wr w.heap.size (List.replicate (k-j) 0++be j n)/\B0 w wr) (fun _ i _=>(intOf i+1).toNat)
 case atStart=>exact⟨0,Nat.zero_le _,by simp,by simp,A8 HR1,hB1⟩
 case round=>
  obtain⟨j,hj,rfl,rfl,hr,hB⟩:=hrel;have HR:=AA hr;clear hr HR1 hB1;by_cases hlt:j<k
  .obtain⟨m,hm⟩:∃m,k-j=m+1:=⟨k-j-1,by omega⟩;have hlen:m<(List.replicate (k-j) (0:UInt8)++be j n).length:=by simp;omega
   have h1:=(A8 HR).cell hlen;have h2:=(A8 HR).soft m;have hmk:(k:Int)-1-j=(m:Int):=by omega
   rw[hmk];have hmlt:m<k:=by omega
   have hq:n/256^j<9223372036854775808:=Nat.lt_of_le_of_lt (Nat.div_le_self _ _) hn;have Hdiv:=AA (BY7 n j);have Hby:=AA (AW8 (n/256^j));have Hfr:=AA (A50 j n);generalize (List.replicate (k-j) (0:UInt8)++be j n)[m]=c0 at h1;obtain⟨x,hx⟩:∃x,n/256^j=x:=⟨_,rfl⟩;rw[hx]at hq Hdiv Hby Hfr⊢;have Hm:=AA hm;have Hmk:=AA hmk;clear hx hm hmk hlen
   go_wp2
   rw[A8 Hby];refine⟨⟨j+1,by omega,CD5 (by rw[<-A8 Hdiv];omega),CD5 (by have:=A8 Hmk;omega),?_,hB.setCell (by show w.heap.size<=w.heap.size;exact Nat.le_refl _) _⟩,by simp only[intOf];omega⟩;have hset:=(A8 HR).set m (UInt8.ofNat x);rw[A8 Hm,BY6,<-A8 Hfr]at hset;rw[show k-(j+1)=m from by have:=A8 Hm;omega];exact hset
  .obtain rfl:j=k:=by omega
   have hlen:(List.replicate (j-j) (0:UInt8)++be j n).length=j:=by simp[BR]
   have htx:=(A8 HR).text j;rw[hlen]at htx;rw[show (j:Int)-1-(j:Int)=-1 from by omega];have Hrep:Hid (List.replicate (j-j) (0:UInt8)++be j n=be j n):=AA (by simp);rw[A8 Hrep]at htx;clear hlen
   go_wp2
   go_ret;exact⟨rfl,hB⟩
theorem AX0{b:Int}(h:a=b):Value.int .u32 a=.int .u32 b:=by rw[h]
theorem AX1{c:Nat}(h:c<4294967296):bits .xor .u32 ((c:Int)/2) (3988292384*bits .and .u32 (c:Int) 1%4294967296)=(C85 c:Nat):=by
 have h2:c%2<2:=Nat.mod_lt _ (by decide);rw[B73 h,show (3988292384*((c%2:Nat):Int)%4294967296)=((3988292384*(c%2):Nat):Int)from by omega];rw[show ((c:Int)/2)=((c/2:Nat):Int)from by omega];exact vH (by omega) (by omega)
theorem BG1(s:ByteArray)(k:Nat)(h:k<s.size):B71 (s.data.toList.take (k+1))=BO7 8 (B71 (s.data.toList.take k)^^^s[k].toNat):=by
 rw[bY s k h,AL5];rfl
theorem BY8{b:Int}(h:a=b):Ending.returned (I0 a)=.returned (I0 b):=by rw[h]
theorem A51(s:ByteArray)(w:World)(hs:s.size<=140737488355328):
  Calls prog 179 #[.string s] w fun e w'=>e=.returned (I0 (zZ s.data.toList:Nat))/\w'=w:=by
 go_enter func179,ntmps179
 go_wp2
 go_loop [3,8] (fun c i=>∃k:Nat,k<=s.size/\i=I0 k/\c=.int .u32 (B71 (s.data.toList.take k):Nat)) (fun _ i=>s.size-(intOf i).toNat)
 case atStart=>exact⟨0,Nat.zero_le _,rfl,rfl⟩
 case round=>
  obtain⟨k,hk,rfl,rfl⟩:=hrel;obtain⟨c,hc⟩:∃c,B71 (s.data.toList.take k)=c:=⟨_,rfl⟩;have hcl:c<4294967296:=hc ▸ AL3 _;have Hc:=AA hc;rw[hc];clear hc;by_cases hlt:k<s.size
  .have hb:=s[k].toNat_lt;have Hsn:=AA (BG1 s k hlt)
   go_wp2
   rw[vH hcl (by omega)];obtain⟨x,hx⟩:∃x,c^^^s[k].toNat=x:=⟨_,rfl⟩;have hxl:x<4294967296:=hx ▸ WY hcl (by omega);have Hx:=AA hx;rw[hx];clear hx hb
   go_loop [3,17] (fun d j=>∃n:Nat,n<=8/\j=I0 n/\d=.int .u32 (BO7 n x:Nat)) (fun _ j=>8-(intOf j).toNat)
   case atStart=>exact⟨0,Nat.zero_le _,rfl,rfl⟩
   case round=>
    obtain⟨n,hn,rfl,rfl⟩:=hrel;have hy:=vG hxl n;have Hs:Hid (BO7 (n+1) x=C85 (BO7 n x)):=AA rfl;by_cases h8:n<8
    .obtain⟨y,hyy⟩:∃y,BO7 n x=y:=⟨_,rfl⟩;rw[hyy]at hy Hs⊢;clear hyy
     go_wp2
     exact⟨⟨n+1,by omega,by go_num,AX0 (by rw[AX1 hy,A8 Hs])⟩,by simp[intOf];omega⟩
    .obtain rfl:n=8:=by omega
     go_wp2
     exact⟨⟨k+1,by omega,by go_num,AX0 (by rw[A8 Hsn,A8 Hc,A8 Hx])⟩,by simp[intOf];omega⟩
  .obtain rfl:k=s.size:=by omega
   go_wp2
   go_ret;refine⟨BY8 ?_,rfl⟩;rw[<-WW s,List.take_length]at Hc;rw[show IntKind.u32.max=((4294967295:Nat):Int)from rfl,vH (by decide) hcl,zZ,A8 Hc];have h32:=WY (show 4294967295<4294967296 by decide) hcl;unfold wrap64;omega
theorem fJ(n:Int)(k:Nat)(w:World)(h0:0<=n)(hn:n<9223372036854775808)(hk:k<=8)(d:Nat)(os:Array Obj):
  Calls prog 246 #[I0 n,I0 k] (Sort.grow (redrawn w d) os) fun e w''=>e=.returned (S0 (be k n.toNat))/\∃p:Regrown,w''=Sort.grow (redrawn w p.d) p.os:=by
 have h:=ZA n.toNat k (Sort.grow (redrawn w d) os) (by omega) hk;rw[Int.toNat_of_nonneg h0]at h;exact Calls.regrown_of h
theorem BG2(t:AQ)(w:World)(ht:gdE t=0):
  Calls prog 245 #[DW t] w (R0 w (S0 (NG t))):=by
 obtain⟨hz,ho,hs,hv,hu,hp,hd⟩:=SQ ht;clear ht;obtain⟨z,o,s,p,d,v,u⟩:=t;unfold DW NG;simp only at hz ho hs hv hu hp hd⊢;have hzp:(ByteArray.mk p.toArray).size=p.length:=Lib.size_eq ⟨p.toArray⟩;have hzd:(ByteArray.mk d.toArray).size=d.length:=Lib.size_eq ⟨d.toArray⟩;go_enter func245,ntmps245;go_wp2_with fail;obtain⟨W,hW⟩:∃W,w.alloc (Obj.cells #[I0 z,I0 o,I0 s,S0 p,S0 d,I0 v,I0 u] 49)=W:=⟨_,rfl⟩;have hB:B0 w W:=by rw[<-hW];exact(Below.refl _ _).alloc (Nat.le_refl _) _
 have k0:∀d' os,(Sort.grow (redrawn W d') os).cell? ⟨w.heap.size,0,none⟩=some (I0 z):=fun d' os=>cell_regrown (by rw[<-hW];simp) d' os;have k1:∀d' os,(Sort.grow (redrawn W d') os).cell? ⟨w.heap.size,1,none⟩=some (I0 o):=fun d' os=>cell_regrown (by rw[<-hW];simp) d' os;have k2:∀d' os,(Sort.grow (redrawn W d') os).cell? ⟨w.heap.size,2,none⟩=some (I0 s):=fun d' os=>cell_regrown (by rw[<-hW];simp) d' os;have k3:∀d' os,(Sort.grow (redrawn W d') os).cell? ⟨w.heap.size,3,none⟩=some (S0 p):=fun d' os=>cell_regrown (by rw[<-hW];simp) d' os;have k4:∀d' os,(Sort.grow (redrawn W d') os).cell? ⟨w.heap.size,4,none⟩=some (S0 d):=fun d' os=>cell_regrown (by rw[<-hW];simp) d' os;have k5:∀d' os,(Sort.grow (redrawn W d') os).cell? ⟨w.heap.size,5,none⟩=some (I0 v):=fun d' os=>cell_regrown (by rw[<-hW];simp) d' os;have k6:∀d' os,(Sort.grow (redrawn W d') os).cell? ⟨w.heap.size,6,none⟩=some (I0 u):=fun d' os=>cell_regrown (by rw[<-hW];simp) d' os;rw[hW];clear hW;have c0:∀d' os,Calls prog 246 #[I0 z,I0 8] (Sort.grow (redrawn W d') os) fun e w''=>e=.returned (S0 (be 8 z.toNat))/\∃p:Regrown,w''=Sort.grow (redrawn W p.d) p.os:=fJ z 8 W (by omega) (by omega) (by omega);have c1:∀d' os,Calls prog 246 #[I0 o,I0 1] (Sort.grow (redrawn W d') os) fun e w''=>e=.returned (S0 (be 1 o.toNat))/\∃p:Regrown,w''=Sort.grow (redrawn W p.d) p.os:=fJ o 1 W (by omega) (by omega) (by omega);have c2:∀d' os,Calls prog 246 #[I0 s,I0 4] (Sort.grow (redrawn W d') os) fun e w''=>e=.returned (S0 (be 4 s.toNat))/\∃p:Regrown,w''=Sort.grow (redrawn W p.d) p.os:=fJ s 4 W (by omega) (by omega) (by omega);have c3:∀d' os,Calls prog 246 #[I0 v,I0 4] (Sort.grow (redrawn W d') os) fun e w''=>e=.returned (S0 (be 4 v.toNat))/\∃p:Regrown,w''=Sort.grow (redrawn W p.d) p.os:=fJ v 4 W (by omega) (by omega) (by omega);have c4:∀d' os,Calls prog 246 #[I0 u,I0 4] (Sort.grow (redrawn W d') os) fun e w''=>e=.returned (S0 (be 4 u.toNat))/\∃p:Regrown,w''=Sort.grow (redrawn W p.d) p.os:=fJ u 4 W (by omega) (by omega) (by omega);have c5:∀d' os,Calls prog 246 #[I0 (p.length:Nat),I0 1] (Sort.grow (redrawn W d') os) fun e w''=>e=.returned (S0 (be 1 p.length))/\∃p:Regrown,w''=Sort.grow (redrawn W p.d) p.os:=fJ p.length 1 W (by omega) (by omega) (by omega);have c6:∀d' os,Calls prog 246 #[I0 (d.length:Nat),I0 2] (Sort.grow (redrawn W d') os) fun e w''=>e=.returned (S0 (be 2 d.length))/\∃p:Regrown,w''=Sort.grow (redrawn W p.d) p.os:=fJ d.length 2 W (by omega) (by omega) (by omega);have l0:=BR 8 z.toNat;have l1:=BR 1 o.toNat;have l2:=BR 4 s.toNat;have l3:=BR 4 v.toNat;have l4:=BR 4 u.toNat;have l5:=BR 1 p.length;have l6:=BR 2 d.length;obtain⟨b0,e0⟩:∃b,be 8 z.toNat=b:=⟨_,rfl⟩;rw[e0]at c0 l0;have E0:=AA e0;clear e0;obtain⟨b1,e1⟩:∃b,be 1 o.toNat=b:=⟨_,rfl⟩;rw[e1]at c1 l1;have E1:=AA e1;clear e1;obtain⟨b2,e2⟩:∃b,be 4 s.toNat=b:=⟨_,rfl⟩;rw[e2]at c2 l2;have E2:=AA e2;clear e2;obtain⟨b3,e3⟩:∃b,be 4 v.toNat=b:=⟨_,rfl⟩;rw[e3]at c3 l3;have E3:=AA e3;clear e3;obtain⟨b4,e4⟩:∃b,be 4 u.toNat=b:=⟨_,rfl⟩;rw[e4]at c4 l4;have E4:=AA e4;clear e4;obtain⟨b5,e5⟩:∃b,be 1 p.length=b:=⟨_,rfl⟩;rw[e5]at c5 l5;have E5:=AA e5;clear e5;obtain⟨b6,e6⟩:∃b,be 2 d.length=b:=⟨_,rfl⟩;rw[e6]at c6 l6;have E6:=AA e6;clear e6;refine wp_region_quiet_below (by kernel_rfl) (by kernel_rfl) ?_
 repeat (first|go_big_quiet_step (first|with_reducible exact c0 _ _|with_reducible exact c1 _ _|with_reducible exact c2 _ _|with_reducible exact c3 _ _|with_reducible exact c4 _ _|with_reducible exact c5 _ _|with_reducible exact c6 _ _)|quiet_step (first|with_reducible exact c0 _ _|with_reducible exact c1 _ _|with_reducible exact c2 _ _|with_reducible exact c3 _ _|with_reducible exact c4 _ _|with_reducible exact c5 _ _|with_reducible exact c6 _ _))
 refine wpQuiet_nil ?_;intro _ hw';obtain⟨⟨dq,osq⟩,hw''⟩:=hw';subst hw'';have hb2:B0 w (Sort.grow (redrawn W dq) osq):=OE hB (below_regrown W dq osq);clear c0 c1 c2 c3 c4 c5 c6 k0 k1 k2 k3 k4 k5 k6;go_wp2_with fail;go_ret;refine⟨BG0 ?_,hb2⟩;rw[L6,L6,L6,L6,L6,L6,L6,L6];simp only[List.append_assoc];rw[A8 E0,A8 E1,A8 E2,A8 E3,A8 E4,A8 E5,A8 E6]
theorem BG3{a b:ByteArray}{i j:Int}(h:a=b)(h':i=j):Ending.returned (.tuple #[.string a,I0 i])=.returned (.tuple #[.string b,I0 j]):=by rw[h,h']
theorem ZB(t:AQ)(w:World)(h:gdE t=0):
  Calls prog 233 #[DW t] w (R0 w (.tuple #[S0 (NH t),I0 0])):=by
 have H:=AA h;obtain⟨_,_,_,_,_,_,hd⟩:=SQ h;have hbl:=YT h;clear h;obtain⟨b,hb⟩:∃b,NG t=b:=⟨_,rfl⟩;have Hb:=AA hb;rw[hb]at hbl;clear hb;have hzb:(ByteArray.mk b.toArray).size=b.length:=Lib.size_eq ⟨b.toArray⟩;obtain⟨z,o,s,p,d,v,u⟩:=t;unfold DW;replace hd:d.length<=256:=hd;go_enter func233,ntmps233;go_wp2_with fail;refine(TP ⟨z,o,s,p,d,v,u⟩ _ (by show d.length<=_;omega)).mono ?_;rintro e w1 ⟨rfl,hb1⟩;have hbz:=PG hb1;obtain⟨hc,hf⟩:=xJ hb1;have hz1:w.heap.size<w1.heap.size:=by have:=hb1.size;simp at this;omega
 rw[A8 H];go_wp2_with fail;refine(BG2 ⟨z,o,s,p,d,v,u⟩ _ (A8 H)).mono ?_;rintro e w2 ⟨rfl,hb2⟩;replace hb2:=OE hbz hb2;rw[A8 Hb];clear hc hf hb1 hbz hz1;go_wp2_with fail;refine(ZA b.length 2 _ (by omega) (by omega)).mono ?_;rintro e w3 ⟨rfl,hb3⟩;replace hb3:=OE hb2 hb3;clear hb2;have l2:=BR 2 b.length;obtain⟨n2,e2⟩:∃n2,be 2 b.length=n2:=⟨_,rfl⟩;rw[e2]at l2⊢;have E2:=AA e2;clear e2;go_wp2_with fail;have hF:(ByteArray.mk #[84]++ByteArray.mk n2.toArray++ByteArray.mk b.toArray)=⟨(IV b).toArray⟩:=by
  rw[show (ByteArray.mk #[84])=⟨[(84:UInt8)].toArray⟩from rfl,L6,L6,IV,A8 E2];rfl
 rw[hF];have lF:=QW b;obtain⟨F,eF⟩:∃F,IV b=F:=⟨_,rfl⟩;rw[eF]at lF⊢;have EF:=AA eF;clear eF hF;have hzF:(ByteArray.mk F.toArray).size=F.length:=Lib.size_eq ⟨F.toArray⟩;refine(A51 ⟨F.toArray⟩ _ (by omega)).mono ?_;rintro e w4 ⟨rfl,rfl⟩;rw[show (ByteArray.mk F.toArray).data.toList=F from rfl];have hsl:=AL4 F;obtain⟨X,hX⟩:∃X,zZ F=X:=⟨_,rfl⟩;rw[hX]at hsl⊢;have HX:=AA hX;clear hX;go_wp2_with fail;refine(ZA X 4 _ (by omega) (by omega)).mono ?_;rintro e w5 ⟨rfl,hb5⟩;replace hb5:=OE hb3 hb5;clear hb3;have l4:=BR 4 X;obtain⟨n4,e4⟩:∃n4,be 4 X=n4:=⟨_,rfl⟩;rw[e4]at l4⊢;have E4:=AA e4;clear e4;go_wp2_with fail
 go_ret2
 refine⟨BG3 ?_ rfl,hb5⟩;rw[L6,NH,A8 Hb,A8 EF,A8 HX,A8 E4]
def FD(W:World)(g:Nat)(t:AQ):Prop:=W.heap[g]?=some (.cells #[I0 t.z,I0 t.o,I0 t.s,S0 t.p,S0 t.d,I0 t.v,I0 t.w] 49 (0,0))
theorem FD.c0(h:FD W g t):W.cell? ⟨g,0,none⟩=some (I0 t.z):=by unfold FD at h;simp[World.cell?,h]
theorem FD.c1(h:FD W g t):W.cell? ⟨g,1,none⟩=some (I0 t.o):=by unfold FD at h;simp[World.cell?,h]
theorem FD.c2(h:FD W g t):W.cell? ⟨g,2,none⟩=some (I0 t.s):=by unfold FD at h;simp[World.cell?,h]
theorem FD.c3(h:FD W g t):W.cell? ⟨g,3,none⟩=some (S0 t.p):=by unfold FD at h;simp[World.cell?,h]
theorem FD.c4(h:FD W g t):W.cell? ⟨g,4,none⟩=some (S0 t.d):=by unfold FD at h;simp[World.cell?,h]
theorem FD.c5(h:FD W g t):W.cell? ⟨g,5,none⟩=some (I0 t.v):=by unfold FD at h;simp[World.cell?,h]
theorem FD.c6(h:FD W g t):W.cell? ⟨g,6,none⟩=some (I0 t.w):=by unfold FD at h;simp[World.cell?,h]
theorem FD.f(h:FD W g t)(j:Nat):W.frozen? ⟨g,j,none⟩=false:=by unfold FD at h;simp[World.frozen?,h]
theorem FD.kept(h:FD W g t)(hb:Below B W V)(hg:g<B):FD V g t:=(hb.block _ hg).trans h
theorem FD.other{k:Nat}(h:FD W g t)(ho:Only k W V)(hg:g≠k):FD V g t:=(ho.block _ hg).trans h
theorem bI(g:Nat)(w:World)(j:Nat)(v:Value):Only g w (w.setCell ⟨g,j,none⟩ v):=(Only.refl g w).setCell j v
theorem Y8(w:World)(o:Obj):(w.alloc o).heap[w.heap.size]?=some o:=by
 show (w.heap.push o)[w.heap.size]?=_;simp
structure Unf(w W:World)(r:List UInt8)(b:Bool)(t:AQ):Prop where
 res:FD W w.heap.size t0
 cur:Cur W (w.heap.size+1) r b
 txn:FD W (w.heap.size+1+1) t
 size:w.heap.size+3<=W.heap.size
 below:B0 w W
theorem Unf.took{w:World}{r':List UInt8}{b':Bool}(h:Unf w W r b t)(hc:Cur V (w.heap.size+1) r' b')(ho:Only (w.heap.size+1) W V):Unf w V r' b' t:=
 ⟨h.res.other ho (by omega),hc,h.txn.other ho (by omega),by rw[ho.size];exact h.size,ho.below h.below (by omega)⟩
theorem Unf.kept{w:World}(h:Unf w W r b t)(hb:B0 W V):Unf w V r b t:=
 ⟨h.res.kept hb (by have:=h.size;omega),h.cur.kept hb (by have:=h.size;omega),h.txn.kept hb (by have:=h.size;omega),Nat.le_trans h.size hb.size,h.below.trans (hb.mono h.below.size)⟩
theorem Unf.put{w:World}(h:Unf w W r b t)(j:Nat)(v:Value){t':AQ}(ht:FD (W.setCell ⟨w.heap.size+1+1,j,none⟩ v) (w.heap.size+1+1) t'):Unf w (W.setCell ⟨w.heap.size+1+1,j,none⟩ v) r b t':=
 ⟨h.res.other (bI _ _ _ _) (by omega),h.cur.other (bI _ _ _ _) (by omega),ht,by rw[(bI _ W j v).size];exact h.size,(bI _ _ _ _).below h.below (by omega)⟩
theorem Unf.z{w:World}(h:Unf w W r b t)(x:Int):Unf w (W.setCell ⟨w.heap.size+1+1,0,none⟩ (I0 x)) r b {t with z:=x}:=h.put 0 _ (JM _ h.txn)
theorem Unf.o{w:World}(h:Unf w W r b t)(x:Int):Unf w (W.setCell ⟨w.heap.size+1+1,1,none⟩ (I0 x)) r b {t with o:=x}:=h.put 1 _ (JM _ h.txn)
theorem Unf.s{w:World}(h:Unf w W r b t)(x:Int):Unf w (W.setCell ⟨w.heap.size+1+1,2,none⟩ (I0 x)) r b {t with s:=x}:=h.put 2 _ (JM _ h.txn)
theorem Unf.p{w:World}(h:Unf w W r b t)(x:List UInt8):Unf w (W.setCell ⟨w.heap.size+1+1,3,none⟩ (S0 x)) r b {t with p:=x}:=h.put 3 _ (JM _ h.txn)
theorem Unf.d{w:World}(h:Unf w W r b t)(x:List UInt8):Unf w (W.setCell ⟨w.heap.size+1+1,4,none⟩ (S0 x)) r b {t with d:=x}:=h.put 4 _ (JM _ h.txn)
theorem Unf.v{w:World}(h:Unf w W r b t)(x:Int):Unf w (W.setCell ⟨w.heap.size+1+1,5,none⟩ (I0 x)) r b {t with v:=x}:=h.put 5 _ (JM _ h.txn)
theorem Unf.w{w:World}(h:Unf w W r b t)(x:Int):Unf w (W.setCell ⟨w.heap.size+1+1,6,none⟩ (I0 x)) r b {t with w:=x}:=h.put 6 _ (JM _ h.txn)
theorem BZ2(h:l.length<=7):wrap64 ((un l:Nat):Int)=(un l:Nat):=by
 have:=A49 h;unfold wrap64;omega
theorem II(l:List UInt8)(k:Nat)(hk:k<=7):wrap64 ((un (l.take k):Nat):Int)=(un (l.take k):Nat):=BZ2 (by rw[List.length_take];omega)
def FZ(W:World)(g:Nat)(t:AQ):World:=
 ((((((W.setCell ⟨g,0,none⟩ (I0 t.z)).setCell ⟨g,1,none⟩ (I0 t.o)).setCell ⟨g,2,none⟩ (I0 t.s)).setCell ⟨g,3,none⟩ (S0 t.p)).setCell ⟨g,4,none⟩ (S0 t.d)).setCell ⟨g,5,none⟩ (I0 t.v)).setCell ⟨g,6,none⟩ (I0 t.w)
theorem FD.s0(h:FD W g t)(x:Int):FD (W.setCell ⟨g,0,none⟩ (I0 x)) g {t with z:=x}:=JM _ h
theorem FD.s1(h:FD W g t)(x:Int):FD (W.setCell ⟨g,1,none⟩ (I0 x)) g {t with o:=x}:=JM _ h
theorem FD.s2(h:FD W g t)(x:Int):FD (W.setCell ⟨g,2,none⟩ (I0 x)) g {t with s:=x}:=JM _ h
theorem FD.s3(h:FD W g t)(x:List UInt8):FD (W.setCell ⟨g,3,none⟩ (S0 x)) g {t with p:=x}:=JM _ h
theorem FD.s4(h:FD W g t)(x:List UInt8):FD (W.setCell ⟨g,4,none⟩ (S0 x)) g {t with d:=x}:=JM _ h
theorem FD.s5(h:FD W g t)(x:Int):FD (W.setCell ⟨g,5,none⟩ (I0 x)) g {t with v:=x}:=JM _ h
theorem FD.s6(h:FD W g t)(x:Int):FD (W.setCell ⟨g,6,none⟩ (I0 x)) g {t with w:=x}:=JM _ h
theorem FD.store(h:FD W g t)(t':AQ):FD (FZ W g t') g t':=
 ((((((h.s0 t'.z).s1 t'.o).s2 t'.s).s3 t'.p).s4 t'.d).s5 t'.v).s6 t'.w
theorem J4(W:World)(g:Nat)(t:AQ):Only g W (FZ W g t):=
 (((((((Only.refl g W).setCell 0 _).setCell 1 _).setCell 2 _).setCell 3 _).setCell 4 _).setCell 5 _).setCell 6 _
def AX8(b:List UInt8):Bool:=
 false||decide (b.length<8)||decide ((b.drop 8).length<1)||decide ((b.drop 9).length<4)||decide ((b.drop 13).length<4)||decide ((b.drop 17).length<4)||decide ((b.drop 21).length<1)||decide ((b.drop 22).length<UJ b)||decide ((b.drop (22+UJ b)).length<2)||decide ((b.drop (24+UJ b)).length<uU b)
theorem sD{b:List UInt8}:AX8 b=false↔24+UJ b+uU b<=b.length:=by
 simp only[AX8,Bool.or_eq_false_iff,decide_eq_false_iff_not,List.length_drop,true_and];omega
theorem BZ3(b:List UInt8):UJ b<256:=by
 have h:=B74 ((b.drop 21).take 1);have h2:((b.drop 21).take 1).length<=1:=List.length_take_le _ _;have h3:256^((b.drop 21).take 1).length<=256^1:=Nat.pow_le_pow_right (by decide) h2;unfold UJ;omega
theorem BZ4(b:List UInt8):uU b<65536:=by
 have h:=B74 ((b.drop (22+UJ b)).take 2);have h2:((b.drop (22+UJ b)).take 2).length<=2:=List.length_take_le _ _;have h3:256^((b.drop (22+UJ b)).take 2).length<=256^2:=Nat.pow_le_pow_right (by decide) h2;unfold uU;omega
def tIn(b:List UInt8):AQ:=
 ⟨wrap64 (un (b.take 8)),un ((b.drop 8).take 1),un ((b.drop 9).take 4),(b.drop 22).take (UJ b),(b.drop (24+UJ b)).take (uU b),un ((b.drop 13).take 4),un ((b.drop 17).take 4)⟩
theorem BZ5{b:List UInt8}(h:B67 b=true):tIn b=tOf b:=by
 obtain⟨h1,h2⟩:=XB.1 h;rw[tIn,tOf,List.take_of_length_le (l:=b.drop (24+UJ b)) (by rw[List.length_drop];omega)]
theorem AG8(b:List UInt8)(w:World):
  Calls prog 180 #[S0 b] w (R0 w (.tuple #[DW (AL6 b),I0 (oO b)])):=by
 have hpl:=BZ3 b;have hdl:=BZ4 b;go_enter func180,ntmps180;go_wp2_with fail;refine(TW b _).mono ?_;rintro e wA ⟨rfl,rfl⟩;go_wp2_with fail;generalize hW:((w.alloc _).alloc _).alloc _=W;have H:Hid (Unf w W b false t0):=AA (by
  rw[<-hW];refine⟨?_,?_,?_,by simp,(((Below.refl _ _).alloc (Nat.le_refl _) _).alloc (by simp) _).alloc (by simp;omega) _⟩
  .exact(Below.heap_alloc _ _ _ (by simp;omega)).trans ((Below.heap_alloc _ _ _ (by simp)).trans (Y8 _ _))
  .exact(Below.heap_alloc _ _ _ (by simp)).trans (by have:=Y8 (w.alloc (.cells #[I0 0,I0 0,I0 0,.string ⟨#[]⟩,.string ⟨#[]⟩,I0 0,I0 0] 49)) (.cells #[S0 b,.bool false] 281);rwa[World.size_alloc]at this)
  .have:=Y8 ((w.alloc (.cells #[I0 0,I0 0,I0 0,.string ⟨#[]⟩,.string ⟨#[]⟩,I0 0,I0 0] 49)).alloc (.cells #[S0 b,.bool false] 281)) (.cells #[I0 0,I0 0,I0 0,.string ⟨#[]⟩,.string ⟨#[]⟩,I0 0,I0 0] 49);rwa[World.size_alloc,World.size_alloc]at this)
 clear hW;refine(FK (w.heap.size+1) 8 _ _ _ (by decide) (A8 H).cur).mono ?_;rintro e w1 ⟨rfl,hc1,ho1⟩;have H1:=AA ((A8 H).took hc1 ho1);clear hc1 ho1 H W;generalize w1=W at*;obtain⟨x0,h0⟩:∃x,wrap64 (un (b.take 8):Nat)=x:=⟨_,rfl⟩;rw[h0];have E0:=AA h0;clear h0;have q1:=(A8 H1).txn.c0;have q2:=(A8 H1).txn.f 0;go_wp2_with fail;have H:=AA ((A8 H1).z x0);clear q1 q2 H1;generalize W.setCell _ _=W at*;refine(FK (w.heap.size+1) 1 _ _ _ (by decide) (A8 H).cur).mono ?_;rintro e w1 ⟨rfl,hc1,ho1⟩;have H1:=AA ((A8 H).took hc1 ho1);clear hc1 ho1 H W;generalize w1=W at*;simp only[List.drop_drop,Nat.reduceAdd]at H1;rw[II _ _ (by decide)];obtain⟨x1,h1⟩:∃x,un ((b.drop 8).take 1)=x:=⟨_,rfl⟩;rw[h1];have E1:=AA h1;clear h1;have q1:=(A8 H1).txn.c1;have q2:=(A8 H1).txn.f 1;go_wp2_with fail;have H:=AA ((A8 H1).o x1);clear q1 q2 H1;generalize W.setCell _ _=W at*;refine(FK (w.heap.size+1) 4 _ _ _ (by decide) (A8 H).cur).mono ?_;rintro e w1 ⟨rfl,hc1,ho1⟩;have H1:=AA ((A8 H).took hc1 ho1);clear hc1 ho1 H W;generalize w1=W at*;simp only[List.drop_drop,Nat.reduceAdd]at H1;rw[II _ _ (by decide)];obtain⟨x2,h2⟩:∃x,un ((b.drop 9).take 4)=x:=⟨_,rfl⟩;rw[h2];have E2:=AA h2;clear h2;have q1:=(A8 H1).txn.c2;have q2:=(A8 H1).txn.f 2;go_wp2_with fail;have H:=AA ((A8 H1).s x2);clear q1 q2 H1;generalize W.setCell _ _=W at*;refine(FK (w.heap.size+1) 4 _ _ _ (by decide) (A8 H).cur).mono ?_;rintro e w1 ⟨rfl,hc1,ho1⟩;have H1:=AA ((A8 H).took hc1 ho1);clear hc1 ho1 H W;generalize w1=W at*;simp only[List.drop_drop,Nat.reduceAdd]at H1;rw[II _ _ (by decide)];obtain⟨x3,h3⟩:∃x,un ((b.drop 13).take 4)=x:=⟨_,rfl⟩;rw[h3];have E3:=AA h3;clear h3;have q1:=(A8 H1).txn.c5;have q2:=(A8 H1).txn.f 5;go_wp2_with fail;have H:=AA ((A8 H1).v x3);clear q1 q2 H1;generalize W.setCell _ _=W at*;refine(FK (w.heap.size+1) 4 _ _ _ (by decide) (A8 H).cur).mono ?_;rintro e w1 ⟨rfl,hc1,ho1⟩;have H1:=AA ((A8 H).took hc1 ho1);clear hc1 ho1 H W;generalize w1=W at*;simp only[List.drop_drop,Nat.reduceAdd]at H1;rw[II _ _ (by decide)];obtain⟨x4,h4⟩:∃x,un ((b.drop 17).take 4)=x:=⟨_,rfl⟩;rw[h4];have E4:=AA h4;clear h4;have q1:=(A8 H1).txn.c6;have q2:=(A8 H1).txn.f 6;go_wp2_with fail;have H:=AA ((A8 H1).w x4);clear q1 q2 H1;generalize W.setCell _ _=W at*;refine(FK (w.heap.size+1) 1 _ _ _ (by decide) (A8 H).cur).mono ?_;rintro e w1 ⟨rfl,hc1,ho1⟩;have H1:=AA ((A8 H).took hc1 ho1);clear hc1 ho1 H W;generalize w1=W at*;simp only[List.drop_drop,Nat.reduceAdd]at H1;rw[II _ _ (by decide)];rw[show un ((b.drop 21).take 1)=UJ b from rfl];go_wp2_with fail;refine(OD (w.heap.size+1) (UJ b) _ _ _ (by omega) (A8 H1).cur).mono ?_;rintro e w2 ⟨rfl,hc2,ho2⟩;have H2:=AA ((A8 H1).took hc2 ho2);clear hc2 ho2 H1 W;generalize w2=W at*;obtain⟨P,hP⟩:∃x,(b.drop 22).take (UJ b)=x:=⟨_,rfl⟩;have lP:P.length<=65536:=by rw[<-hP,List.length_take];omega
 rw[hP];have EP:=AA hP;clear hP;go_wp2_with fail;refine(TA ⟨P.toArray⟩ _ (by rw[Lib.size_eq];show P.length<=_;omega)).mono ?_;rintro e w3 ⟨rfl,hb3⟩;have H1:=AA ((A8 H2).kept hb3);clear hb3 H2 W;generalize w3=W at*;simp only[List.drop_drop]at H1;have q1:=(A8 H1).txn.c3;have q2:=(A8 H1).txn.f 3;go_wp2_with fail;have H:=AA ((A8 H1).p P);clear q1 q2 H1;generalize W.setCell _ _=W at*;refine(FK (w.heap.size+1) 2 _ _ _ (by decide) (A8 H).cur).mono ?_;rintro e w1 ⟨rfl,hc1,ho1⟩;have H1:=AA ((A8 H).took hc1 ho1);clear hc1 ho1 H W;generalize w1=W at*;simp only[List.drop_drop]at H1;rw[II _ _ (by decide)];rw[show un ((b.drop (22+UJ b)).take 2)=uU b from rfl];go_wp2_with fail;refine(OD (w.heap.size+1) (uU b) _ _ _ (by omega) (A8 H1).cur).mono ?_;rintro e w2 ⟨rfl,hc2,ho2⟩;have H2:=AA ((A8 H1).took hc2 ho2);clear hc2 ho2 H1 W;generalize w2=W at*;obtain⟨D,hD⟩:∃x,(b.drop (22+UJ b+2)).take (uU b)=x:=⟨_,rfl⟩;have lD:D.length<=65536:=by rw[<-hD,List.length_take];omega
 rw[hD];have ED:=AA hD;clear hD;go_wp2_with fail;refine(TA ⟨D.toArray⟩ _ (by rw[Lib.size_eq];show D.length<=_;omega)).mono ?_;rintro e w3 ⟨rfl,hb3⟩;have H1:=AA ((A8 H2).kept hb3);clear hb3 H2 W;generalize w3=W at*;simp only[List.drop_drop]at H1;have hT:tIn b=⟨x0,x1,x2,P,D,x3,x4⟩:=by
  rw[tIn,A8 E0,A8 E1,A8 E2,A8 E3,A8 E4,A8 EP,show 24+UJ b=22+UJ b+2 from by omega,A8 ED]
 have HT:=AA hT;have h24:22+UJ b+2=24+UJ b:=by omega
 have HL:Hid (Unf w W (b.drop (24+UJ b+uU b)) (AX8 b) ⟨x0,x1,x2,P,[],x3,x4⟩):=AA (by
  have h:=A8 H1;rw[h24]at h;exact h)
 clear hT h24 H1 E0 E1 E2 E3 E4 EP ED;have q0:W.cell? ⟨w.heap.size+1+1,0,none⟩=some (I0 x0):=(A8 HL).txn.c0;have q1:W.cell? ⟨w.heap.size+1+1,1,none⟩=some (I0 x1):=(A8 HL).txn.c1;have q2:W.cell? ⟨w.heap.size+1+1,2,none⟩=some (I0 x2):=(A8 HL).txn.c2;have q3:W.cell? ⟨w.heap.size+1+1,3,none⟩=some (S0 P):=(A8 HL).txn.c3;have q4:W.cell? ⟨w.heap.size+1+1,4,none⟩=some (.string ⟨#[]⟩):=(A8 HL).txn.c4;have q5:W.cell? ⟨w.heap.size+1+1,5,none⟩=some (I0 x3):=(A8 HL).txn.c5;have q6:W.cell? ⟨w.heap.size+1+1,6,none⟩=some (I0 x4):=(A8 HL).txn.c6;have qf:=(A8 HL).txn.f 4;have r0:W.cell? ⟨w.heap.size,0,none⟩=some (I0 0):=(A8 HL).res.c0;have r1:W.cell? ⟨w.heap.size,1,none⟩=some (I0 0):=(A8 HL).res.c1;have r2:W.cell? ⟨w.heap.size,2,none⟩=some (I0 0):=(A8 HL).res.c2;have r3:W.cell? ⟨w.heap.size,3,none⟩=some (.string ⟨#[]⟩):=(A8 HL).res.c3;have r4:W.cell? ⟨w.heap.size,4,none⟩=some (.string ⟨#[]⟩):=(A8 HL).res.c4;have r5:W.cell? ⟨w.heap.size,5,none⟩=some (I0 0):=(A8 HL).res.c5;have r6:W.cell? ⟨w.heap.size,6,none⟩=some (I0 0):=(A8 HL).res.c6;have rf:=(A8 HL).res.f;have CSh:=AA (fG _ _ _ _ ((A8 HL).d D).cur);have CLf:=AA (nD _ _ _ _ ((A8 HL).d D).cur)
 cases hfit:B67 b
 .have HU:=AA (BT1 hfit)
  cases hl:AX8 b
  .have hR:b.drop (24+UJ b+uU b)≠[]:=fun hh=>by
    have h1:=sD.1 hl;have h2:=congrArg List.length hh;rw[List.length_drop,List.length_nil]at h2;have h3:B67 b=true:=XB.2 ⟨by omega,by omega⟩;rw[hfit]at h3;exact absurd h3 (by decide)
   rw[hl]at CSh;obtain⟨R,hRR⟩:∃R,b.drop (24+UJ b+uU b)=R:=⟨_,rfl⟩;rw[hRR]at CLf hR;have hR':(0:Int)<(R.length:Int):=by have:=List.length_pos_iff.2 hR;omega
   obtain⟨m,hm⟩:∃m,R.length=m:=⟨_,rfl⟩;rw[hm]at CLf hR';clear hRR hl hfit hm hR;go_wp2_with fail;refine(A8 CSh).mono ?_;rintro e wS ⟨rfl,rfl⟩;go_wp2_with fail;refine(A8 CLf).mono ?_;rintro e wL ⟨rfl,rfl⟩;clear CSh CLf;go_wp2_with fail;change bodyPost _ _ _ _ _ (FZ (W.setCell ⟨w.heap.size+1+1,4,none⟩ (S0 D)) w.heap.size t0);have HV:=AA ((A8 HL).d D);generalize W.setCell ⟨w.heap.size+1+1,4,none⟩ (S0 D)=V at HV⊢;have HP:=AA ((A8 HV).res.store t0);have hB:B0 w (FZ V w.heap.size t0):=(J4 _ _ _).below (A8 HV).below (Nat.le_refl _);generalize FZ V w.heap.size t0=V2 at HP hB⊢;have s0:=(A8 HP).c0;have s1:=(A8 HP).c1;have s2:=(A8 HP).c2;have s3:=(A8 HP).c3;have s4:=(A8 HP).c4;have s5:=(A8 HP).c5;have s6:=(A8 HP).c6;exact bodyPost_ret (v:=.tuple #[DW t0,I0 2]) (by simp[results,results180,go_sem,s0,s1,s2,s3,s4,s5,s6,DW]) rfl ⟨by rw[(A8 HU).1,(A8 HU).2],hB⟩
  .rw[hl]at CSh;clear hl hfit CLf;go_wp2_with fail;refine(A8 CSh).mono ?_;rintro e wS ⟨rfl,rfl⟩;clear CSh;go_wp2_with fail;change bodyPost _ _ _ _ _ (FZ (W.setCell ⟨w.heap.size+1+1,4,none⟩ (S0 D)) w.heap.size t0);have HV:=AA ((A8 HL).d D);generalize W.setCell ⟨w.heap.size+1+1,4,none⟩ (S0 D)=V at HV⊢;have HP:=AA ((A8 HV).res.store t0);have hB:B0 w (FZ V w.heap.size t0):=(J4 _ _ _).below (A8 HV).below (Nat.le_refl _);generalize FZ V w.heap.size t0=V2 at HP hB⊢;have s0:=(A8 HP).c0;have s1:=(A8 HP).c1;have s2:=(A8 HP).c2;have s3:=(A8 HP).c3;have s4:=(A8 HP).c4;have s5:=(A8 HP).c5;have s6:=(A8 HP).c6;exact bodyPost_ret (v:=.tuple #[DW t0,I0 2]) (by simp[results,results180,go_sem,s0,s1,s2,s3,s4,s5,s6,DW]) rfl ⟨by rw[(A8 HU).1,(A8 HU).2],hB⟩
 .have hl:AX8 b=false:=sD.2 (by have:=XB.1 hfit;omega);have hR:b.drop (24+UJ b+uU b)=[]:=List.drop_of_length_le (by have:=XB.1 hfit;omega);rw[hl]at CSh;rw[hR]at CLf;rw[BZ5 hfit]at HT;have Hfit:=AA hfit;clear hl hR hfit
  cases hg:(gdE (tOf b)==0)
  .have hg':gdE (tOf b)≠0:=by simpa using hg
   have HU:=AA (C87 (A8 Hfit) hg');obtain⟨E,hE⟩:∃E,gdE (tOf b)=E:=⟨_,rfl⟩;have hne:(E !=0)=true:=by rw[<-hE];simp[bne,hg]
   rw[A8 HT]at hE;rw[A8 HT]at HU;have HE:=AA hE;clear hE hg hg';go_wp2_with fail;refine(A8 CSh).mono ?_;rintro e wS ⟨rfl,rfl⟩;go_wp2_with fail;refine(A8 CLf).mono ?_;rintro e wL ⟨rfl,rfl⟩;clear CSh CLf;go_wp2_with fail;refine(TP ⟨x0,x1,x2,P,D,x3,x4⟩ _ (by show D.length<=_;omega)).mono ?_;rintro e w4 ⟨rfl,hb4⟩;rw[A8 HE];have HV0:=AA ((A8 HL).d D);have HV:=AA ((A8 HV0).kept hb4);clear hb4 HV0 HL q0 q1 q2 q3 q4 q5 q6 qf r0 r1 r2 r3 r4 r5 r6 rf;generalize w4=V at*;have r0:V.cell? ⟨w.heap.size,0,none⟩=some (I0 0):=(A8 HV).res.c0;have r1:V.cell? ⟨w.heap.size,1,none⟩=some (I0 0):=(A8 HV).res.c1;have r2:V.cell? ⟨w.heap.size,2,none⟩=some (I0 0):=(A8 HV).res.c2;have r3:V.cell? ⟨w.heap.size,3,none⟩=some (.string ⟨#[]⟩):=(A8 HV).res.c3;have r4:V.cell? ⟨w.heap.size,4,none⟩=some (.string ⟨#[]⟩):=(A8 HV).res.c4;have r5:V.cell? ⟨w.heap.size,5,none⟩=some (I0 0):=(A8 HV).res.c5;have r6:V.cell? ⟨w.heap.size,6,none⟩=some (I0 0):=(A8 HV).res.c6;have rf:=(A8 HV).res.f;go_wp2_with fail;change bodyPost _ _ _ _ _ (FZ V w.heap.size t0);have HP:=AA ((A8 HV).res.store t0);have hB:B0 w (FZ V w.heap.size t0):=(J4 _ _ _).below (A8 HV).below (Nat.le_refl _);generalize FZ V w.heap.size t0=V2 at HP hB⊢;have s0:=(A8 HP).c0;have s1:=(A8 HP).c1;have s2:=(A8 HP).c2;have s3:=(A8 HP).c3;have s4:=(A8 HP).c4;have s5:=(A8 HP).c5;have s6:=(A8 HP).c6;exact bodyPost_ret (v:=.tuple #[DW t0,I0 E]) (by simp[results,results180,go_sem,s0,s1,s2,s3,s4,s5,s6,DW]) rfl ⟨by rw[(A8 HU).1,(A8 HU).2,A8 HE],hB⟩
  .have hg':gdE (tOf b)=0:=by simpa using hg
   have HU:=AA (C88 (A8 Hfit) hg');rw[A8 HT]at hg' HU;have HE:=AA hg';clear hg hg';go_wp2_with fail;refine(A8 CSh).mono ?_;rintro e wS ⟨rfl,rfl⟩;go_wp2_with fail;refine(A8 CLf).mono ?_;rintro e wL ⟨rfl,rfl⟩;clear CSh CLf;go_wp2_with fail;refine(TP ⟨x0,x1,x2,P,D,x3,x4⟩ _ (by show D.length<=_;omega)).mono ?_;rintro e w4 ⟨rfl,hb4⟩;rw[A8 HE];have HV0:=AA ((A8 HL).d D);have HV:=AA ((A8 HV0).kept hb4);clear hb4 HV0 HL q0 q1 q2 q3 q4 q5 q6 qf r0 r1 r2 r3 r4 r5 r6 rf;generalize w4=V at*;have q0:V.cell? ⟨w.heap.size+1+1,0,none⟩=some (I0 x0):=(A8 HV).txn.c0;have q1:V.cell? ⟨w.heap.size+1+1,1,none⟩=some (I0 x1):=(A8 HV).txn.c1;have q2:V.cell? ⟨w.heap.size+1+1,2,none⟩=some (I0 x2):=(A8 HV).txn.c2;have q3:V.cell? ⟨w.heap.size+1+1,3,none⟩=some (S0 P):=(A8 HV).txn.c3;have q4:V.cell? ⟨w.heap.size+1+1,4,none⟩=some (S0 D):=(A8 HV).txn.c4;have q5:V.cell? ⟨w.heap.size+1+1,5,none⟩=some (I0 x3):=(A8 HV).txn.c5;have q6:V.cell? ⟨w.heap.size+1+1,6,none⟩=some (I0 x4):=(A8 HV).txn.c6;have r0:V.cell? ⟨w.heap.size,0,none⟩=some (I0 0):=(A8 HV).res.c0;have r1:V.cell? ⟨w.heap.size,1,none⟩=some (I0 0):=(A8 HV).res.c1;have r2:V.cell? ⟨w.heap.size,2,none⟩=some (I0 0):=(A8 HV).res.c2;have r3:V.cell? ⟨w.heap.size,3,none⟩=some (.string ⟨#[]⟩):=(A8 HV).res.c3;have r4:V.cell? ⟨w.heap.size,4,none⟩=some (.string ⟨#[]⟩):=(A8 HV).res.c4;have r5:V.cell? ⟨w.heap.size,5,none⟩=some (I0 0):=(A8 HV).res.c5;have r6:V.cell? ⟨w.heap.size,6,none⟩=some (I0 0):=(A8 HV).res.c6;have rf:=(A8 HV).res.f;go_wp2_with fail;change bodyPost _ _ _ _ _ (FZ V w.heap.size ⟨x0,x1,x2,P,D,x3,x4⟩);have HP:=AA ((A8 HV).res.store ⟨x0,x1,x2,P,D,x3,x4⟩);have hB:B0 w (FZ V w.heap.size ⟨x0,x1,x2,P,D,x3,x4⟩):=(J4 _ _ _).below (A8 HV).below (Nat.le_refl _);generalize FZ V w.heap.size ⟨x0,x1,x2,P,D,x3,x4⟩=V2 at HP hB⊢;have s0:=(A8 HP).c0;have s1:=(A8 HP).c1;have s2:=(A8 HP).c2;have s3:=(A8 HP).c3;have s4:=(A8 HP).c4;have s5:=(A8 HP).c5;have s6:=(A8 HP).c6;exact bodyPost_ret (v:=.tuple #[DW ⟨x0,x1,x2,P,D,x3,x4⟩,I0 0]) (by simp[results,results180,go_sem,s0,s1,s2,s3,s4,s5,s6,DW]) rfl ⟨by rw[(A8 HU).1,(A8 HU).2],hB⟩
structure Dec(w W:World)(r:List UInt8)(b:Bool):Prop where
 res:FD W w.heap.size t0
 cur:Cur W (w.heap.size+1) r b
 size:w.heap.size+2<=W.heap.size
 below:B0 w W
theorem Dec.took{w:World}{r':List UInt8}{b':Bool}(h:Dec w W r b)(hc:Cur V (w.heap.size+1) r' b')(ho:Only (w.heap.size+1) W V):Dec w V r' b':=
 ⟨h.res.other ho (by omega),hc,by rw[ho.size];exact h.size,ho.below h.below (by omega)⟩
theorem Dec.kept{w:World}(h:Dec w W r b)(hb:B0 W V):Dec w V r b:=
 ⟨h.res.kept hb (by have:=h.size;omega),h.cur.kept hb (by have:=h.size;omega),Nat.le_trans h.size hb.size,h.below.trans (hb.mono h.below.size)⟩
theorem Dec.new{w:World}{s:List UInt8}:Dec w ((w.alloc (.cells #[I0 0,I0 0,I0 0,.string ⟨#[]⟩,.string ⟨#[]⟩,I0 0,I0 0] 49)).alloc (.cells #[S0 s,.bool false] 281)) s false:=by
 refine⟨?_,?_,by simp,((Below.refl _ _).alloc (Nat.le_refl _) _).alloc (by simp) _⟩
 .exact(Below.heap_alloc _ _ _ (by simp)).trans (Y8 _ _)
 .have:=Y8 (w.alloc (.cells #[I0 0,I0 0,I0 0,.string ⟨#[]⟩,.string ⟨#[]⟩,I0 0,I0 0] 49)) (.cells #[S0 s,.bool false] 281);rwa[World.size_alloc]at this
theorem BG8(s:List UInt8):lenOf s<65536:=by
 have h:=B74 ((s.drop 1).take 2);have h2:((s.drop 1).take 2).length<=2:=List.length_take_le _ _;have h3:256^((s.drop 1).take 2).length<=256^2:=Nat.pow_le_pow_right (by decide) h2;unfold lenOf;omega
def yK(s:List UInt8):Bool:=false||decide (s.length<1)||decide ((s.drop 1).length<2)||decide ((s.drop 3).length<lenOf s)||decide ((s.drop (3+lenOf s)).length<4)
theorem sG{s:List UInt8}:yK s=false↔lenOf s+7<=s.length:=by
 simp only[yK,Bool.or_eq_false_iff,decide_eq_false_iff_not,List.length_drop,true_and];omega
theorem BZ7{a b:Value}{i j k l:Int}(h:a=b)(h1:i=j)(h2:k=l):Ending.returned (.tuple #[a,I0 i,I0 k])=.returned (.tuple #[b,I0 j,I0 l]):=by rw[h,h1,h2]
theorem yL(s:List UInt8)(w:World)(hm:s.take 1≠[84]):
  Calls prog 138 #[S0 s] w (R0 w (.tuple #[DW (jA s),I0 (oP s),I0 (YQ s)])):=by
 have HU:=AA (YR (s:=s) (XA (fun h=>hm h.1)));have hlt:=BG8 s;obtain⟨T,hT⟩:∃T,s.take 1=T:=⟨_,rfl⟩;rw[hT]at hm;have hm':(T==[84])=false:=by simpa using hm
 have ET:=AA hT;clear hT hm;go_enter func138,ntmps138;go_wp2_with fail;refine(TW s _).mono ?_;rintro e wA ⟨rfl,rfl⟩;go_wp2_with fail;have H:=AA (Dec.new (w:=w) (s:=s));generalize (w.alloc _).alloc _=W at H⊢;refine(OD (w.heap.size+1) 1 _ _ _ (by decide) (A8 H).cur).mono ?_;rintro e w1 ⟨rfl,hc1,ho1⟩;replace H:=AA ((A8 H).took hc1 ho1);clear hc1 ho1 W;generalize w1=W at*;rw[A8 ET];go_wp2_with fail;refine(FK (w.heap.size+1) 2 _ _ _ (by decide) (A8 H).cur).mono ?_;rintro e w1 ⟨rfl,hc1,ho1⟩;replace H:=AA ((A8 H).took hc1 ho1);clear hc1 ho1 W;generalize w1=W at*;rw[II _ _ (by decide)];rw[show un ((s.drop 1).take 2)=lenOf s from rfl];simp only[List.drop_drop,Nat.reduceAdd]at H;obtain⟨L,hL⟩:∃L,lenOf s=L:=⟨_,rfl⟩;rw[hL]at hlt⊢;have EL:=AA hL;clear hL;have r0:W.cell? ⟨w.heap.size,0,none⟩=some (I0 0):=(A8 H).res.c0;have r1:W.cell? ⟨w.heap.size,1,none⟩=some (I0 0):=(A8 H).res.c1;have r2:W.cell? ⟨w.heap.size,2,none⟩=some (I0 0):=(A8 H).res.c2;have r3:W.cell? ⟨w.heap.size,3,none⟩=some (.string ⟨#[]⟩):=(A8 H).res.c3;have r4:W.cell? ⟨w.heap.size,4,none⟩=some (.string ⟨#[]⟩):=(A8 H).res.c4;have r5:W.cell? ⟨w.heap.size,5,none⟩=some (I0 0):=(A8 H).res.c5;have r6:W.cell? ⟨w.heap.size,6,none⟩=some (I0 0):=(A8 H).res.c6;have rf:=(A8 H).res.f;go_wp2_with fail;change bodyPost _ _ _ _ _ (FZ W w.heap.size t0);have HP:=AA ((A8 H).res.store t0);have hB:B0 w (FZ W w.heap.size t0):=(J4 _ _ _).below (A8 H).below (Nat.le_refl _);generalize FZ W w.heap.size t0=V2 at HP hB⊢;have s0:=(A8 HP).c0;have s1:=(A8 HP).c1;have s2:=(A8 HP).c2;have s3:=(A8 HP).c3;have s4:=(A8 HP).c4;have s5:=(A8 HP).c5;have s6:=(A8 HP).c6;exact bodyPost_ret (v:=.tuple #[DW t0,I0 0,I0 2]) (by simp[results,results138,go_sem,s0,s1,s2,s3,s4,s5,s6,DW]) rfl ⟨by rw[(A8 HU).1,(A8 HU).2.1,(A8 HU).2.2],hB⟩
theorem yM(s:List UInt8)(w:World)(hm:s.take 1=[84])(hl:1024<lenOf s):
  Calls prog 138 #[S0 s] w (R0 w (.tuple #[DW (jA s),I0 (oP s),I0 (YQ s)])):=by
 have HU:=AA (YR (s:=s) (XA (fun h=>by omega)));have ET:=AA hm;clear hm;go_enter func138,ntmps138;go_wp2_with fail;refine(TW s _).mono ?_;rintro e wA ⟨rfl,rfl⟩;go_wp2_with fail;have H:=AA (Dec.new (w:=w) (s:=s));generalize (w.alloc _).alloc _=W at H⊢;refine(OD (w.heap.size+1) 1 _ _ _ (by decide) (A8 H).cur).mono ?_;rintro e w1 ⟨rfl,hc1,ho1⟩;replace H:=AA ((A8 H).took hc1 ho1);clear hc1 ho1 W;generalize w1=W at*;rw[A8 ET];go_wp2_with fail;refine(FK (w.heap.size+1) 2 _ _ _ (by decide) (A8 H).cur).mono ?_;rintro e w1 ⟨rfl,hc1,ho1⟩;replace H:=AA ((A8 H).took hc1 ho1);clear hc1 ho1 W;generalize w1=W at*;rw[II _ _ (by decide)];rw[show un ((s.drop 1).take 2)=lenOf s from rfl];simp only[List.drop_drop,Nat.reduceAdd]at H;obtain⟨L,hL⟩:∃L,lenOf s=L:=⟨_,rfl⟩;rw[hL]at hl⊢;have EL:=AA hL;clear hL;have r0:W.cell? ⟨w.heap.size,0,none⟩=some (I0 0):=(A8 H).res.c0;have r1:W.cell? ⟨w.heap.size,1,none⟩=some (I0 0):=(A8 H).res.c1;have r2:W.cell? ⟨w.heap.size,2,none⟩=some (I0 0):=(A8 H).res.c2;have r3:W.cell? ⟨w.heap.size,3,none⟩=some (.string ⟨#[]⟩):=(A8 H).res.c3;have r4:W.cell? ⟨w.heap.size,4,none⟩=some (.string ⟨#[]⟩):=(A8 H).res.c4;have r5:W.cell? ⟨w.heap.size,5,none⟩=some (I0 0):=(A8 H).res.c5;have r6:W.cell? ⟨w.heap.size,6,none⟩=some (I0 0):=(A8 H).res.c6;have rf:=(A8 H).res.f;go_wp2_with fail;change bodyPost _ _ _ _ _ (FZ W w.heap.size t0);have HP:=AA ((A8 H).res.store t0);have hB:B0 w (FZ W w.heap.size t0):=(J4 _ _ _).below (A8 H).below (Nat.le_refl _);generalize FZ W w.heap.size t0=V2 at HP hB⊢;have s0:=(A8 HP).c0;have s1:=(A8 HP).c1;have s2:=(A8 HP).c2;have s3:=(A8 HP).c3;have s4:=(A8 HP).c4;have s5:=(A8 HP).c5;have s6:=(A8 HP).c6;exact bodyPost_ret (v:=.tuple #[DW t0,I0 0,I0 2]) (by simp[results,results138,go_sem,s0,s1,s2,s3,s4,s5,s6,DW]) rfl ⟨by rw[(A8 HU).1,(A8 HU).2.1,(A8 HU).2.2],hB⟩
theorem sH(s:List UInt8)(w:World)(hs:s.length<=140737488355328)(hm:s.take 1=[84])(hl:lenOf s<=1024)(hn:s.length<lenOf s+7):
  Calls prog 138 #[S0 s] w (R0 w (.tuple #[DW (jA s),I0 (oP s),I0 (YQ s)])):=by
 have HU:=AA (YR (s:=s) (XA (fun h=>by omega)));have hlk:yK s=true:=by
  cases h:yK s with
  |true=>rfl
  |false=>have:=sG.1 h;omega
 have HK:=AA hlk;have ET:=AA hm;clear hm hlk;go_enter func138,ntmps138;go_wp2_with fail;refine(TW s _).mono ?_;rintro e wA ⟨rfl,rfl⟩;go_wp2_with fail;have H:=AA (Dec.new (w:=w) (s:=s));generalize (w.alloc _).alloc _=W at H⊢;refine(OD (w.heap.size+1) 1 _ _ _ (by decide) (A8 H).cur).mono ?_;rintro e w1 ⟨rfl,hc1,ho1⟩;replace H:=AA ((A8 H).took hc1 ho1);clear hc1 ho1 W;generalize w1=W at*;rw[A8 ET];go_wp2_with fail;refine(FK (w.heap.size+1) 2 _ _ _ (by decide) (A8 H).cur).mono ?_;rintro e w1 ⟨rfl,hc1,ho1⟩;replace H:=AA ((A8 H).took hc1 ho1);clear hc1 ho1 W;generalize w1=W at*;rw[II _ _ (by decide)];rw[show un ((s.drop 1).take 2)=lenOf s from rfl];simp only[List.drop_drop,Nat.reduceAdd]at H;obtain⟨L,hL⟩:∃L,lenOf s=L:=⟨_,rfl⟩;rw[hL]at hl hn⊢;have EL:=AA hL;clear hL;go_wp2_with fail;refine(OD (w.heap.size+1) L _ _ _ (by omega) (A8 H).cur).mono ?_;rintro e w1 ⟨rfl,hc1,ho1⟩;replace H:=AA ((A8 H).took hc1 ho1);clear hc1 ho1 W;generalize w1=W at*;simp only[List.drop_drop]at H;have CL:=AA (nD (w.heap.size+1) _ _ _ (A8 H).cur);rw[List.length_drop]at CL;have hzs:(ByteArray.mk s.toArray).size=s.length:=Lib.size_eq ⟨s.toArray⟩;go_wp2_with fail;refine(A8 CL).mono ?_;rintro e wL ⟨rfl,hwL⟩;rw[hwL];clear hwL;clear CL;go_wp2_with fail;refine(FK (w.heap.size+1) 4 _ _ _ (by decide) (A8 H).cur).mono ?_;rintro e w1 ⟨rfl,hc1,ho1⟩;replace H:=AA ((A8 H).took hc1 ho1);clear hc1 ho1 W;generalize w1=W at*;simp only[List.drop_drop]at H;have cc1:=(A8 H).cur;rw[<-A8 EL]at cc1;have cc2:Cur W (w.heap.size+1) _ (yK s):=cc1;rw[A8 HK]at cc2;have CSh:=AA (fG _ _ _ _ cc2);clear cc1 cc2;go_wp2_with fail;refine(A8 CSh).mono ?_;rintro e wS ⟨rfl,hwS⟩;rw[hwS];clear hwS;clear CSh;have r0:W.cell? ⟨w.heap.size,0,none⟩=some (I0 0):=(A8 H).res.c0;have r1:W.cell? ⟨w.heap.size,1,none⟩=some (I0 0):=(A8 H).res.c1;have r2:W.cell? ⟨w.heap.size,2,none⟩=some (I0 0):=(A8 H).res.c2;have r3:W.cell? ⟨w.heap.size,3,none⟩=some (.string ⟨#[]⟩):=(A8 H).res.c3;have r4:W.cell? ⟨w.heap.size,4,none⟩=some (.string ⟨#[]⟩):=(A8 H).res.c4;have r5:W.cell? ⟨w.heap.size,5,none⟩=some (I0 0):=(A8 H).res.c5;have r6:W.cell? ⟨w.heap.size,6,none⟩=some (I0 0):=(A8 H).res.c6;have rf:=(A8 H).res.f;go_wp2_with fail;change bodyPost _ _ _ _ _ (FZ W w.heap.size t0);have HP:=AA ((A8 H).res.store t0);have hB:B0 w (FZ W w.heap.size t0):=(J4 _ _ _).below (A8 H).below (Nat.le_refl _);generalize FZ W w.heap.size t0=V2 at HP hB⊢;have s0:=(A8 HP).c0;have s1:=(A8 HP).c1;have s2:=(A8 HP).c2;have s3:=(A8 HP).c3;have s4:=(A8 HP).c4;have s5:=(A8 HP).c5;have s6:=(A8 HP).c6;exact bodyPost_ret (v:=.tuple #[DW t0,I0 0,I0 2]) (by simp[results,results138,go_sem,s0,s1,s2,s3,s4,s5,s6,DW]) rfl ⟨by rw[(A8 HU).1,(A8 HU).2.1,(A8 HU).2.2],hB⟩
theorem sJ(s:List UInt8)(w:World)(hm:s.take 1=[84])(hl:lenOf s<=1024)(hn:lenOf s+7<=s.length):
  Calls prog 138 #[S0 s] w (R0 w (.tuple #[DW (jA s),I0 (oP s),I0 (YQ s)])):=by
 have HW:=AA (YS.2 ⟨hm,hl,hn⟩);have hlk:yK s=false:=sG.2 hn;have HK:=AA hlk;have ET:=AA hm;clear hm hlk;go_enter func138,ntmps138;go_wp2_with fail;refine(TW s _).mono ?_;rintro e wA ⟨rfl,rfl⟩;go_wp2_with fail;have H:=AA (Dec.new (w:=w) (s:=s));generalize (w.alloc _).alloc _=W at H⊢;refine(OD (w.heap.size+1) 1 _ _ _ (by decide) (A8 H).cur).mono ?_;rintro e w1 ⟨rfl,hc1,ho1⟩;replace H:=AA ((A8 H).took hc1 ho1);clear hc1 ho1 W;generalize w1=W at*;rw[A8 ET];go_wp2_with fail;refine(FK (w.heap.size+1) 2 _ _ _ (by decide) (A8 H).cur).mono ?_;rintro e w1 ⟨rfl,hc1,ho1⟩;replace H:=AA ((A8 H).took hc1 ho1);clear hc1 ho1 W;generalize w1=W at*;rw[II _ _ (by decide)];rw[show un ((s.drop 1).take 2)=lenOf s from rfl];simp only[List.drop_drop,Nat.reduceAdd]at H;obtain⟨L,hL⟩:∃L,lenOf s=L:=⟨_,rfl⟩;rw[hL]at hl hn⊢;have EL:=AA hL;clear hL;go_wp2_with fail;refine(OD (w.heap.size+1) L _ _ _ (by omega) (A8 H).cur).mono ?_;rintro e w1 ⟨rfl,hc1,ho1⟩;replace H:=AA ((A8 H).took hc1 ho1);clear hc1 ho1 W;generalize w1=W at*;simp only[List.drop_drop]at H;obtain⟨B,hB⟩:∃B,(s.drop 3).take L=B:=⟨_,rfl⟩;rw[hB];have EB:=AA hB;clear hB;have CL:=AA (nD (w.heap.size+1) _ _ _ (A8 H).cur);rw[List.length_drop]at CL;have hzs:(ByteArray.mk s.toArray).size=s.length:=Lib.size_eq ⟨s.toArray⟩;obtain⟨M,hM⟩:∃M,s.length-(3+L)=M:=⟨_,rfl⟩;rw[hM]at CL;have hM2:s.length=M+(L+3):=by omega
 obtain⟨Y,hY⟩:∃Y,s.drop (3+L)=Y:=⟨_,rfl⟩;have EY:=AA hY;have HM:=AA hM2;clear hY hM hM2;go_wp2_with fail;refine(A8 CL).mono ?_;rintro e wL ⟨rfl,hwL⟩;rw[hwL];clear hwL;clear CL;go_wp2_with fail;refine(FK (w.heap.size+1) 4 _ _ _ (by decide) (A8 H).cur).mono ?_;rintro e w1 ⟨rfl,hc1,ho1⟩;replace H:=AA ((A8 H).took hc1 ho1);clear hc1 ho1 W;generalize w1=W at*;simp only[List.drop_drop]at H;have cc1:=(A8 H).cur;rw[<-A8 EL]at cc1;have cc3:Cur W (w.heap.size+1) _ (yK s):=cc1;rw[A8 HK]at cc3;have CSh:=AA (fG _ _ _ _ cc3);have cc2:=cc3.c1;clear cc1 cc3;rw[II _ _ (by decide),show 3+L=L+3 from by omega];obtain⟨Q,hQ⟩:∃Q,un ((s.drop (L+3)).take 4)=Q:=⟨_,rfl⟩;rw[hQ];have EQ:=AA hQ;clear hQ;have hd3:wrap64 ((s.length:Int)-(M:Int))=(L:Int)+3:=by have:=A8 HM;unfold wrap64;omega
 rw[hd3];clear hd3;have c1:(0:Int)<=(L:Int)+3:=by omega
 have c2:(L:Int)+3<=(s.length:Int):=by omega
 go_wp2_with fail;refine(A8 CSh).mono ?_;rintro e wS ⟨rfl,hwS⟩;rw[hwS];clear hwS;clear CSh;go_wp2_with fail;rw[nC];have hzp:(ByteArray.mk (s.take (L+3)).toArray).size=(s.take (L+3)).length:=Lib.size_eq ⟨_⟩;rw[List.length_take]at hzp;refine(A51 ⟨(s.take (L+3)).toArray⟩ _ (by omega)).mono ?_;rintro e w6 ⟨rfl,hw6⟩;rw[hw6];clear hzp hw6;rw[show (ByteArray.mk (s.take (L+3)).toArray).data.toList=s.take (L+3)from rfl];obtain⟨X,hX⟩:∃X,zZ (s.take (L+3))=X:=⟨_,rfl⟩;rw[hX];have EX:=AA hX;clear hX;by_cases hXQ:X=Q
 .subst hXQ;have CM4:Hid (AL7 s=true):=AA (A00.2 (by rw[A8 EL,A8 EQ,A8 EX]));have Hin:Hid (QY s=B):=AA (by rw[QY,A8 EL,A8 EB]);go_wp2_with fail;refine(AG8 B _).mono ?_;rintro e w5 ⟨rfl,hb5⟩;replace H:=AA ((A8 H).kept hb5);clear hb5 cc2 W;generalize w5=W at*;by_cases hE:oO B=0
  .have HU:=AA (BO9 (A8 HW) (A8 CM4) (by rw[A8 Hin];exact hE));have Ht:Hid (AL6 B=tOf B):=AA (by rw[AL6,hE,if_pos rfl]);rw[hE,A8 Ht];rw[A8 Hin,A8 EL]at HU;obtain⟨t,ht⟩:∃t,tOf B=t:=⟨_,rfl⟩;rw[ht]at HU⊢;clear ht hE Ht;obtain⟨z,o,s',p,d,v,u⟩:=t;unfold DW;have r0:W.cell? ⟨w.heap.size,0,none⟩=some (I0 0):=(A8 H).res.c0;have r1:W.cell? ⟨w.heap.size,1,none⟩=some (I0 0):=(A8 H).res.c1;have r2:W.cell? ⟨w.heap.size,2,none⟩=some (I0 0):=(A8 H).res.c2;have r3:W.cell? ⟨w.heap.size,3,none⟩=some (.string ⟨#[]⟩):=(A8 H).res.c3;have r4:W.cell? ⟨w.heap.size,4,none⟩=some (.string ⟨#[]⟩):=(A8 H).res.c4;have r5:W.cell? ⟨w.heap.size,5,none⟩=some (I0 0):=(A8 H).res.c5;have r6:W.cell? ⟨w.heap.size,6,none⟩=some (I0 0):=(A8 H).res.c6;have rf:=(A8 H).res.f;have hlt2:w.heap.size<W.heap.size:=by have:=(A8 H).size;omega
   go_wp2_with fail;change bodyPost _ _ _ _ _ ((FZ W w.heap.size ⟨z,o,s',p,d,v,u⟩).alloc (.cells #[I0 z,I0 o,I0 s',S0 p,S0 d,I0 v,I0 u] 49));have HP:=AA (((A8 H).res.store ⟨z,o,s',p,d,v,u⟩).kept ((Below.refl _ _).alloc (Nat.le_refl _) (.cells #[I0 z,I0 o,I0 s',S0 p,S0 d,I0 v,I0 u] 49)) (by rw[(J4 _ _ _).size];exact hlt2));have hB:B0 w ((FZ W w.heap.size ⟨z,o,s',p,d,v,u⟩).alloc (.cells #[I0 z,I0 o,I0 s',S0 p,S0 d,I0 v,I0 u] 49)):=((J4 _ _ _).below (A8 H).below (Nat.le_refl _)).alloc (by rw[(J4 _ _ _).size];exact Nat.le_of_lt hlt2) _;generalize (FZ W w.heap.size ⟨z,o,s',p,d,v,u⟩).alloc (.cells #[I0 z,I0 o,I0 s',S0 p,S0 d,I0 v,I0 u] 49)=V2 at HP hB⊢;have s0:=(A8 HP).c0;have s1:=(A8 HP).c1;have s2:=(A8 HP).c2;have s3:=(A8 HP).c3;have s4:=(A8 HP).c4;have s5:=(A8 HP).c5;have s6:=(A8 HP).c6;exact bodyPost_ret (v:=.tuple #[DW ⟨z,o,s',p,d,v,u⟩,I0 ((L:Int)+3+4),I0 0]) (by simp[results,results138,go_sem,s0,s1,s2,s3,s4,s5,s6,DW]) rfl ⟨BZ7 (by rw[(A8 HU).2.1]) (by rw[(A8 HU).2.2];omega) (A8 HU).1.symm,hB⟩
  .have HU:=AA (B78 (A8 HW) (A8 CM4) (by rw[A8 Hin]) hE);have Ht:Hid (AL6 B=t0):=AA (by rw[AL6,if_neg hE]);rw[A8 Ht];obtain⟨E,hEE⟩:∃E,oO B=E:=⟨_,rfl⟩;rw[hEE]at HU hE⊢;have hne:(E !=0)=true:=by simpa [bne]using hE
   clear hEE hE Ht;unfold DW t0;have r0:W.cell? ⟨w.heap.size,0,none⟩=some (I0 0):=(A8 H).res.c0;have r1:W.cell? ⟨w.heap.size,1,none⟩=some (I0 0):=(A8 H).res.c1;have r2:W.cell? ⟨w.heap.size,2,none⟩=some (I0 0):=(A8 H).res.c2;have r3:W.cell? ⟨w.heap.size,3,none⟩=some (.string ⟨#[]⟩):=(A8 H).res.c3;have r4:W.cell? ⟨w.heap.size,4,none⟩=some (.string ⟨#[]⟩):=(A8 H).res.c4;have r5:W.cell? ⟨w.heap.size,5,none⟩=some (I0 0):=(A8 H).res.c5;have r6:W.cell? ⟨w.heap.size,6,none⟩=some (I0 0):=(A8 H).res.c6;have rf:=(A8 H).res.f;have hlt2:w.heap.size<W.heap.size:=by have:=(A8 H).size;omega
   go_wp2_with fail;change bodyPost _ _ _ _ _ ((FZ W w.heap.size t0).alloc (.cells #[I0 0,I0 0,I0 0,.string ⟨#[]⟩,.string ⟨#[]⟩,I0 0,I0 0] 49));have HP:=AA (((A8 H).res.store t0).kept ((Below.refl _ _).alloc (Nat.le_refl _) (.cells #[I0 0,I0 0,I0 0,.string ⟨#[]⟩,.string ⟨#[]⟩,I0 0,I0 0] 49)) (by rw[(J4 _ _ _).size];exact hlt2));have hB:B0 w ((FZ W w.heap.size t0).alloc (.cells #[I0 0,I0 0,I0 0,.string ⟨#[]⟩,.string ⟨#[]⟩,I0 0,I0 0] 49)):=((J4 _ _ _).below (A8 H).below (Nat.le_refl _)).alloc (by rw[(J4 _ _ _).size];exact Nat.le_of_lt hlt2) _;generalize (FZ W w.heap.size t0).alloc (.cells #[I0 0,I0 0,I0 0,.string ⟨#[]⟩,.string ⟨#[]⟩,I0 0,I0 0] 49)=V2 at HP hB⊢;have s0:=(A8 HP).c0;have s1:=(A8 HP).c1;have s2:=(A8 HP).c2;have s3:=(A8 HP).c3;have s4:=(A8 HP).c4;have s5:=(A8 HP).c5;have s6:=(A8 HP).c6;exact bodyPost_ret (v:=.tuple #[DW t0,I0 0,I0 E]) (by simp[results,results138,go_sem,s0,s1,s2,s3,s4,s5,s6,DW]) rfl ⟨by rw[(A8 HU).1,(A8 HU).2.1,(A8 HU).2.2],hB⟩
 .have CM4:Hid (AL7 s=false):=AA (by
   cases h:AL7 s with
   |false=>rfl
   |true=>
    have h2:=A00.1 h;rw[A8 EL,A8 EQ,A8 EX]at h2;exact absurd h2.symm hXQ)
  have HU:=AA (BT0 (A8 HW) (A8 CM4));have hne:((X:Int) !=(Q:Int))=true:=by simp[bne];omega
  have r0:W.cell? ⟨w.heap.size,0,none⟩=some (I0 0):=(A8 H).res.c0;have r1:W.cell? ⟨w.heap.size,1,none⟩=some (I0 0):=(A8 H).res.c1;have r2:W.cell? ⟨w.heap.size,2,none⟩=some (I0 0):=(A8 H).res.c2;have r3:W.cell? ⟨w.heap.size,3,none⟩=some (.string ⟨#[]⟩):=(A8 H).res.c3;have r4:W.cell? ⟨w.heap.size,4,none⟩=some (.string ⟨#[]⟩):=(A8 H).res.c4;have r5:W.cell? ⟨w.heap.size,5,none⟩=some (I0 0):=(A8 H).res.c5;have r6:W.cell? ⟨w.heap.size,6,none⟩=some (I0 0):=(A8 H).res.c6;have rf:=(A8 H).res.f;go_wp2_with fail;change bodyPost _ _ _ _ _ (FZ W w.heap.size t0);have HP:=AA ((A8 H).res.store t0);have hB:B0 w (FZ W w.heap.size t0):=(J4 _ _ _).below (A8 H).below (Nat.le_refl _);generalize FZ W w.heap.size t0=V2 at HP hB⊢;have s0:=(A8 HP).c0;have s1:=(A8 HP).c1;have s2:=(A8 HP).c2;have s3:=(A8 HP).c3;have s4:=(A8 HP).c4;have s5:=(A8 HP).c5;have s6:=(A8 HP).c6;exact bodyPost_ret (v:=.tuple #[DW t0,I0 0,I0 5]) (by simp[results,results138,go_sem,s0,s1,s2,s3,s4,s5,s6,DW]) rfl ⟨by rw[(A8 HU).1,(A8 HU).2.1,(A8 HU).2.2],hB⟩
theorem AH0(s:List UInt8)(w:World)(hs:s.length<=140737488355328):
  Calls prog 138 #[S0 s] w (R0 w (.tuple #[DW (jA s),I0 (oP s),I0 (YQ s)])):=by
 by_cases hm:s.take 1=[84]
 .by_cases hl:lenOf s<=1024
  .by_cases hn:lenOf s+7<=s.length
   .exact sJ s w hm hl hn
   .exact sH s w hs hm hl (by omega)
  .exact yM s w hm (by omega)
 .exact yL s w hm
