/-
  Part.
-/
import Derived.Test.YtefephchbjfdfaaGreatDoorLMF
import Derived.Test.YtefephchbjfdfaaGreatDoorLMC
set_option maxRecDepth 20000
set_option maxHeartbeats 8000000
namespace Go.Proofs.YtefephchbjfdfaaGreatDoor
open Go.RowKit Go.Proofs.Tryz
open _root_.Nat renaming le_refl->AA,zero_le->AZ,le_trans->BP,mul_comm->DL
open Go.RowKit.Below renaming refl->AB
open _root_.Array renaming getElem?_eq_some_iff->AL,getElem?_eq_getElem->BU
open _root_.ByteArray renaming mk->AU
open Go.World renaming cell?->AX,frozen?->FC,size_alloc->FU
open _root_.List renaming take_of_length_le->BO,append_assoc->BZ,take_length->DX,length_take->FB,drop_drop->FT
open Go.Lib renaming size_eq->DU
open Go.Ending renaming returned->DY
open Go.Obj renaming cells->FW
open Go renaming World->FX,Value->FZ,Calls->G5
open _root_.Option renaming none->G6,some->G8
variable{W V:FX}{a:Int}{b:Bool}{t:GV}{g B:Nat}{r l:List UInt8}
theorem A17{w1:FX}(hb:B0 W w1):(∀b o,b<W.heap.size->w1.cell? ⟨b,o,G6⟩=W.cell? ⟨b,o,G6⟩)/\(∀b o,b<W.heap.size->w1.frozen? ⟨b,o,G6⟩=W.frozen? ⟨b,o,G6⟩):=
 ⟨fun b o h=>hb.cell (p:=⟨b,o,G6⟩) h,fun b o h=>hb.frozen (p:=⟨b,o,G6⟩) h⟩
theorem JR(n k:Int)(w:FX):
  G5 prog 188 #[I0 n,I0 k] w fun e w'=>e=.returned (.bool (zG n k))/\w'=w:=by
 go_enter func188,ntmps188
 go_wp2
 all_goals go_ret
 all_goals exact⟨TF (by rw[Bool.eq_iff_iff,VB];simp;try omega),rfl⟩
theorem U0{w:FX}{o:Obj}{w1:FX}(h:Below (w.alloc o).heap.size (w.alloc o) w1):B0 w w1:=
 ((AB _ _).alloc (AA _) _).trans (h.mono (by simp))
theorem BJ8{o:Int}(h:opB o=true):o=1\/o=2\/o=3\/o=4\/o=5:=by have:=jC.1 h;omega
theorem fm_1(z s:Int)(p d:List UInt8)(v u:Int):fmB ⟨z,1,s,p,d,v,u⟩=(p==[]&&d==[]&&v==0&&u==0):=rfl
theorem fm_2(z s:Int)(p d:List UInt8)(v u:Int):fmB ⟨z,2,s,p,d,v,u⟩=(p==[]&&d==[]&&v==0&&u==0):=rfl
theorem fm_3(z s:Int)(p d:List UInt8)(v u:Int):fmB ⟨z,3,s,p,d,v,u⟩=(J8 p&& !(p==[47])&&v==0):=rfl
theorem fm_4(z s:Int)(p d:List UInt8)(v u:Int):fmB ⟨z,4,s,p,d,v,u⟩=(J8 p&& !(p==[47])&&d==[]&&v==0&&u==0):=rfl
theorem fm_5(z s:Int)(p d:List UInt8)(v u:Int):fmB ⟨z,5,s,p,d,v,u⟩=(J8 p&&u==0):=rfl
theorem BJ9(z s:Int)(p d:List UInt8)(v u:Int)(w:FX):
  G5 prog 189 #[.agg #[I0 z,I0 1,I0 s,S0 p,S0 d,I0 v,I0 u]] w (R0 w (.bool (fmB ⟨z,1,s,p,d,v,u⟩))):=by
 rw[fm_1]
 cases hg:J8 p
 all_goals
  have Hg:=GH hg;clear hg;go_enter func189,ntmps189;go_wp2_with fail;refine(MB _ _).mono ?_;rintro e w1 ⟨rfl,hb1⟩;have hbz:=U0 hb1;obtain⟨hc,hf⟩:=A17 hb1;rw[show (AU p.toArray).data.toList=p from rfl,G9 Hg];go_wp2_with fail
  all_goals go_ret
  all_goals (clear hc hf hb1)
  all_goals (refine⟨TF ?_,hbz⟩;clear hbz Hg;simp[*])
theorem BK0(z s:Int)(p d:List UInt8)(v u:Int)(w:FX):
  G5 prog 189 #[.agg #[I0 z,I0 2,I0 s,S0 p,S0 d,I0 v,I0 u]] w (R0 w (.bool (fmB ⟨z,2,s,p,d,v,u⟩))):=by
 rw[fm_2]
 cases hg:J8 p
 all_goals
  have Hg:=GH hg;clear hg;go_enter func189,ntmps189;go_wp2_with fail;refine(MB _ _).mono ?_;rintro e w1 ⟨rfl,hb1⟩;have hbz:=U0 hb1;obtain⟨hc,hf⟩:=A17 hb1;rw[show (AU p.toArray).data.toList=p from rfl,G9 Hg];go_wp2_with fail
  all_goals go_ret
  all_goals (clear hc hf hb1)
  all_goals (refine⟨TF ?_,hbz⟩;clear hbz Hg;simp[*])
theorem BK1(z s:Int)(p d:List UInt8)(v u:Int)(w:FX):
  G5 prog 189 #[.agg #[I0 z,I0 3,I0 s,S0 p,S0 d,I0 v,I0 u]] w (R0 w (.bool (fmB ⟨z,3,s,p,d,v,u⟩))):=by
 rw[fm_3]
 cases hg:J8 p
 all_goals
  have Hg:=GH hg;clear hg;go_enter func189,ntmps189;go_wp2_with fail;refine(MB _ _).mono ?_;rintro e w1 ⟨rfl,hb1⟩;have hbz:=U0 hb1;obtain⟨hc,hf⟩:=A17 hb1;rw[show (AU p.toArray).data.toList=p from rfl,G9 Hg];go_wp2_with fail
  all_goals go_ret
  all_goals (clear hc hf hb1)
  all_goals (refine⟨TF ?_,hbz⟩;clear hbz Hg;simp[*])
theorem BK2(z s:Int)(p d:List UInt8)(v u:Int)(w:FX):
  G5 prog 189 #[.agg #[I0 z,I0 4,I0 s,S0 p,S0 d,I0 v,I0 u]] w (R0 w (.bool (fmB ⟨z,4,s,p,d,v,u⟩))):=by
 rw[fm_4]
 cases hg:J8 p
 all_goals
  have Hg:=GH hg;clear hg;go_enter func189,ntmps189;go_wp2_with fail;refine(MB _ _).mono ?_;rintro e w1 ⟨rfl,hb1⟩;have hbz:=U0 hb1;obtain⟨hc,hf⟩:=A17 hb1;rw[show (AU p.toArray).data.toList=p from rfl,G9 Hg];go_wp2_with fail
  all_goals go_ret
  all_goals (clear hc hf hb1)
  all_goals (refine⟨TF ?_,hbz⟩;clear hbz Hg;simp[*])
theorem BK3(z s:Int)(p d:List UInt8)(v u:Int)(w:FX):
  G5 prog 189 #[.agg #[I0 z,I0 5,I0 s,S0 p,S0 d,I0 v,I0 u]] w (R0 w (.bool (fmB ⟨z,5,s,p,d,v,u⟩))):=by
 rw[fm_5]
 cases hg:J8 p
 all_goals
  have Hg:=GH hg;clear hg;go_enter func189,ntmps189;go_wp2_with fail;refine(MB _ _).mono ?_;rintro e w1 ⟨rfl,hb1⟩;have hbz:=U0 hb1;have hz1:w.heap.size<w1.heap.size:=by have:=hb1.size;simp at this;omega
  obtain⟨hc,hf⟩:=A17 hb1;rw[show (AU p.toArray).data.toList=p from rfl,G9 Hg];go_wp2_with fail
  all_goals
   refine(MB _ _).mono ?_;rintro e w2 ⟨rfl,hb2⟩;have hbz2:=SQ hbz hb2;obtain⟨hc2,hf2⟩:=A17 hb2;rw[show (AU p.toArray).data.toList=p from rfl,G9 Hg];go_wp2_with fail
  all_goals go_ret
  all_goals (clear hc hf hb1 hc2 hf2 hb2 hbz)
  all_goals (refine⟨TF ?_,hbz2⟩;clear hbz2 Hg;simp[*])
theorem oD(t:GV)(w:FX)(ht:opB t.o=true):
  G5 prog 189 #[JC t] w (R0 w (.bool (fmB t))):=by
 obtain⟨z,o,s,p,d,v,u⟩:=t;rcases BJ8 ht with h|h|h|h|h<;>(replace h:o=_:=h;subst h)
 .exact BJ9 z s p d v u w
 .exact BK0 z s p d v u w
 .exact BK1 z s p d v u w
 .exact BK2 z s p d v u w
 .exact BK3 z s p d v u w
theorem CI9{o:Int}(h:opB o=false):o<1\/5<o:=by
 by_cases h1:1<=o/\o<=5
 .rw[jC.2 h1]at h;exact absurd h (by decide)
 .omega
theorem fM{b:Int}(h:a=b):DY (I0 a)=.returned (I0 b):=by rw[h]
theorem AA9(h:KP t.z=false\/zG t.s 1=false\/zG t.v 0=false\/zG t.w 0=false):BD9 t=false:=by
 rcases h with h|h|h|h<;>simp[BD9,h]
theorem XH(t:GV)(w:FX)(hd:t.d.length<=140737488355328):
  G5 prog 155 #[JC t] w (R0 w (I0 (gdE t))):=by
 cases ho:opB t.o
 .have H:=GH (BE8 ho);have hor:=CI9 ho;clear ho;obtain⟨z,o,s,p,d,v,u⟩:=t;unfold JC;replace hor:o<1\/5<o:=hor;rcases hor with hor|hor
  all_goals
   go_enter func155,ntmps155;go_wp2_with fail;go_ret;exact⟨fM (G9 H).symm,(AB _ _).alloc (AA _) _⟩
 have hor:=jC.1 ho;have ho1:=hor.1;have ho2:=hor.2;have Ho:=GH ho;clear ho hor
 cases hz:KP t.z
 .have H:=GH (aF (G9 Ho) (AA9 (.inl hz)));have Hz:=GH hz;clear hz
  .obtain⟨z,o,s,p,d,v,u⟩:=t;unfold JC;have hzd:(AU d.toArray).size=d.length:=DU ⟨d.toArray⟩;replace ho1:1<=o:=ho1;replace ho2:o<=5:=ho2;replace hd:d.length<=140737488355328:=hd;go_enter func155,ntmps155;go_wp2_with fail;refine(JM _ _).mono ?_;rintro e w1 ⟨rfl,rfl⟩;rw[G9 Hz];go_wp2_with fail;go_ret;exact⟨fM (G9 H).symm,(AB _ _).alloc (AA _) _⟩
 cases hs:zG t.s 1
 .have H:=GH (aF (G9 Ho) (AA9 (.inr (.inl hs))));have Hz:=GH hz;have Hs:=GH hs;clear hz hs
  .obtain⟨z,o,s,p,d,v,u⟩:=t;unfold JC;have hzd:(AU d.toArray).size=d.length:=DU ⟨d.toArray⟩;replace ho1:1<=o:=ho1;replace ho2:o<=5:=ho2;replace hd:d.length<=140737488355328:=hd;go_enter func155,ntmps155;go_wp2_with fail;refine(JM _ _).mono ?_;rintro e w1 ⟨rfl,rfl⟩;rw[G9 Hz];go_wp2_with fail;refine(JR _ _ _).mono ?_;rintro e w1 ⟨rfl,rfl⟩;rw[G9 Hs];go_wp2_with fail;go_ret;exact⟨fM (G9 H).symm,(AB _ _).alloc (AA _) _⟩
 cases hv:zG t.v 0
 .have H:=GH (aF (G9 Ho) (AA9 (.inr (.inr (.inl hv)))));have Hz:=GH hz;have Hs:=GH hs;have Hv:=GH hv;clear hz hs hv
  .obtain⟨z,o,s,p,d,v,u⟩:=t;unfold JC;have hzd:(AU d.toArray).size=d.length:=DU ⟨d.toArray⟩;replace ho1:1<=o:=ho1;replace ho2:o<=5:=ho2;replace hd:d.length<=140737488355328:=hd;go_enter func155,ntmps155;go_wp2_with fail;refine(JM _ _).mono ?_;rintro e w1 ⟨rfl,rfl⟩;rw[G9 Hz];go_wp2_with fail;refine(JR _ _ _).mono ?_;rintro e w1 ⟨rfl,rfl⟩;rw[G9 Hs];go_wp2_with fail;refine(JR _ _ _).mono ?_;rintro e w1 ⟨rfl,rfl⟩;rw[G9 Hv];go_wp2_with fail;go_ret;exact⟨fM (G9 H).symm,(AB _ _).alloc (AA _) _⟩
 cases hu:zG t.w 0
 .have H:=GH (aF (G9 Ho) (AA9 (.inr (.inr (.inr hu)))));have Hz:=GH hz;have Hs:=GH hs;have Hv:=GH hv;have Hu:=GH hu;clear hz hs hv hu
  .obtain⟨z,o,s,p,d,v,u⟩:=t;unfold JC;have hzd:(AU d.toArray).size=d.length:=DU ⟨d.toArray⟩;replace ho1:1<=o:=ho1;replace ho2:o<=5:=ho2;replace hd:d.length<=140737488355328:=hd;go_enter func155,ntmps155;go_wp2_with fail;refine(JM _ _).mono ?_;rintro e w1 ⟨rfl,rfl⟩;rw[G9 Hz];go_wp2_with fail;refine(JR _ _ _).mono ?_;rintro e w1 ⟨rfl,rfl⟩;rw[G9 Hs];go_wp2_with fail;refine(JR _ _ _).mono ?_;rintro e w1 ⟨rfl,rfl⟩;rw[G9 Hv];go_wp2_with fail;refine(JR _ _ _).mono ?_;rintro e w1 ⟨rfl,rfl⟩;rw[G9 Hu];go_wp2_with fail;go_ret;exact⟨fM (G9 H).symm,(AB _ _).alloc (AA _) _⟩
 have HN:=GH (qE.2 ⟨hz,hs,hv,hu⟩);have Hz:=GH hz;have Hs:=GH hs;have Hv:=GH hv;have Hu:=GH hu;clear hz hs hv hu;by_cases hl:256<t.d.length
 .have H:=GH (BE9 (G9 Ho) (G9 HN) hl)
  .obtain⟨z,o,s,p,d,v,u⟩:=t;unfold JC;replace hl:256<d.length:=hl;have hzd:(AU d.toArray).size=d.length:=DU ⟨d.toArray⟩;replace ho1:1<=o:=ho1;replace ho2:o<=5:=ho2;replace hd:d.length<=140737488355328:=hd;go_enter func155,ntmps155;go_wp2_with fail;refine(JM _ _).mono ?_;rintro e w1 ⟨rfl,rfl⟩;rw[G9 Hz];go_wp2_with fail;refine(JR _ _ _).mono ?_;rintro e w1 ⟨rfl,rfl⟩;rw[G9 Hs];go_wp2_with fail;refine(JR _ _ _).mono ?_;rintro e w1 ⟨rfl,rfl⟩;rw[G9 Hv];go_wp2_with fail;refine(JR _ _ _).mono ?_;rintro e w1 ⟨rfl,rfl⟩;rw[G9 Hu];go_wp2_with fail;go_ret;exact⟨fM (G9 H).symm,(AB _ _).alloc (AA _) _⟩
 cases hfm:fmB t
 .have H:=GH (BF0 (G9 Ho) (G9 HN) (by omega) hfm);have Hf:=GH hfm;clear hfm
  .obtain⟨z,o,s,p,d,v,u⟩:=t;unfold JC;replace hl:¬256<d.length:=hl;have hzd:(AU d.toArray).size=d.length:=DU ⟨d.toArray⟩;replace ho1:1<=o:=ho1;replace ho2:o<=5:=ho2;replace hd:d.length<=140737488355328:=hd;go_enter func155,ntmps155;go_wp2_with fail;refine(JM _ _).mono ?_;rintro e w1 ⟨rfl,rfl⟩;rw[G9 Hz];go_wp2_with fail;refine(JR _ _ _).mono ?_;rintro e w1 ⟨rfl,rfl⟩;rw[G9 Hs];go_wp2_with fail;refine(JR _ _ _).mono ?_;rintro e w1 ⟨rfl,rfl⟩;rw[G9 Hv];go_wp2_with fail;refine(JR _ _ _).mono ?_;rintro e w1 ⟨rfl,rfl⟩;rw[G9 Hu];go_wp2_with fail;refine(oD ⟨z,o,s,p,d,v,u⟩ _ (G9 Ho)).mono ?_;rintro e w2 ⟨rfl,hb2⟩;have hbz:=U0 hb2;rw[G9 Hf];go_wp2_with fail;go_ret;exact⟨fM (G9 H).symm,hbz⟩
 .have H:=GH (CG1 (G9 Ho) (G9 HN) (by omega) hfm);have Hf:=GH hfm;clear hfm
  .obtain⟨z,o,s,p,d,v,u⟩:=t;unfold JC;replace hl:¬256<d.length:=hl;have hzd:(AU d.toArray).size=d.length:=DU ⟨d.toArray⟩;replace ho1:1<=o:=ho1;replace ho2:o<=5:=ho2;replace hd:d.length<=140737488355328:=hd;go_enter func155,ntmps155;go_wp2_with fail;refine(JM _ _).mono ?_;rintro e w1 ⟨rfl,rfl⟩;rw[G9 Hz];go_wp2_with fail;refine(JR _ _ _).mono ?_;rintro e w1 ⟨rfl,rfl⟩;rw[G9 Hs];go_wp2_with fail;refine(JR _ _ _).mono ?_;rintro e w1 ⟨rfl,rfl⟩;rw[G9 Hv];go_wp2_with fail;refine(JR _ _ _).mono ?_;rintro e w1 ⟨rfl,rfl⟩;rw[G9 Hu];go_wp2_with fail;refine(oD ⟨z,o,s,p,d,v,u⟩ _ (G9 Ho)).mono ?_;rintro e w2 ⟨rfl,hb2⟩;have hbz:=U0 hb2;rw[G9 Hf];go_wp2_with fail;go_ret;exact⟨fM (G9 H).symm,hbz⟩
structure Only(g:Nat)(w w':FX):Prop where
 os:w'.os=w.os
 tape:w'.tape=w.tape
 output:w'.output=w.output
 size:w'.heap.size=w.heap.size
 block:∀k,k≠g->w'.heap[k]?=w.heap[k]?
theorem Only.refl(g:Nat)(w:FX):Only g w w:=⟨rfl,rfl,rfl,rfl,fun _ _=>rfl⟩
theorem Only.trans{a b c:FX}(h:Only g a b)(k:Only g b c):Only g a c:=
 ⟨k.os.trans h.os,k.tape.trans h.tape,k.output.trans h.output,k.size.trans h.size,fun i hi=>(k.block i hi).trans (h.block i hi)⟩
theorem Only.below{a w w':FX}(h:Only g w w')(hb:Below B a w)(hg:B<=g):Below B a w':=
 hb.trans ⟨h.os,h.tape,h.output,Nat.le_of_eq h.size.symm,fun k hk=>h.block k (by omega)⟩
theorem Only.setCell{a w:FX}(h:Only g a w)(j:Nat)(v:FZ):Only g a (w.setCell ⟨g,j,G6⟩ v):=
 h.trans ⟨rfl,rfl,rfl,by simp[World.setCell],fun k hk=>Below.heap_setCell _ _ _ _ hk⟩
def Cur(W:FX)(g:Nat)(rest:List UInt8)(short:Bool):Prop:=W.heap[g]?=G8 (FW #[S0 rest,.bool short] 231 (0,0))
theorem Cur.c0(h:Cur W g r b):W.cell? ⟨g,0,G6⟩=G8 (S0 r):=by unfold Cur at h;simp[AX,h]
theorem Cur.c1(h:Cur W g r b):W.cell? ⟨g,1,G6⟩=G8 (.bool b):=by unfold Cur at h;simp[AX,h]
theorem Cur.f(h:Cur W g r b)(j:Nat):W.frozen? ⟨g,j,G6⟩=false:=by unfold Cur at h;simp[FC,h]
theorem OH{w:FX}{j:Nat}{cur:Array FZ}{t:TypeId}{fz:Nat×Nat}(v:FZ)(h:w.heap[g]?=G8 (FW cur t fz)):
  (w.setCell ⟨g,j,G6⟩ v).heap[g]?=G8 (FW (cur.setIfInBounds j v) t fz):=by
 obtain⟨hlt,hk⟩:=AL.1 h;show (w.heap.modify g _)[g]?=_;rw[BU (by rw[Array.size_modify];exact hlt),Array.getElem_modify_self,hk];rfl
theorem Cur.s0(h:Cur W g r b)(r':List UInt8):Cur (W.setCell ⟨g,0,G6⟩ (S0 r')) g r' b:=OH _ h
theorem Cur.s1(h:Cur W g r b)(b':Bool):Cur (W.setCell ⟨g,1,G6⟩ (.bool b')) g r b':=OH _ h
theorem Cur.kept(h:Cur W g r b)(hb:Below B W V)(hg:g<B):Cur V g r b:=(hb.block _ hg).trans h
theorem Cur.other{k:Nat}(h:Cur W g r b)(ho:Only k W V)(hg:g≠k):Cur V g r b:=(ho.block _ hg).trans h
theorem rO(l:List UInt8)(d:Nat):(AU l.toArray).extract 0 d=⟨(l.take d).toArray⟩:=by
 apply ByteArray.ext
 apply Array.toList_inj.1
 have h:=Lib.extract_toList (AU l.toArray) 0 d;rw[Lib.toList_data]at h;refine h.trans ?_;show (l.drop 0).take (d-0)=_;simp
theorem B42(l:List UInt8)(d:Nat):(AU l.toArray).extract d l.length=⟨(l.drop d).toArray⟩:=by
 apply ByteArray.ext
 apply Array.toList_inj.1
 have h:=Lib.extract_toList (AU l.toArray) d l.length;rw[Lib.toList_data]at h;refine h.trans ?_;show (l.drop d).take (l.length-d)=l.drop d;exact BO (by simp)
theorem B43{a b:ByteArray}(h:a=b):DY (.string a)=.returned (.string b):=by rw[h]
theorem SI(g n:Nat)(r:List UInt8)(b:Bool)(w:FX)(hn:n<=140737488355328)(hc:Cur w g r b):
  G5 prog 111 #[P0 g,I0 n] w fun e w'=>e=.returned (S0 (r.take n))/\Cur w' g (r.drop n) (b||decide (r.length<n))/\Only g w w':=by
 have hz:(AU r.toArray).size=r.length:=DU ⟨r.toArray⟩;have h0:=hc.c0;have h1:=hc.c1;have hf0:=hc.f 0;have hf1:=hc.f 1;have HC:=GH hc;clear hc;by_cases hlt:r.length<n
 .go_enter func111,ntmps111
  go_wp2
  go_ret;refine⟨B43 ?_,?_,((Only.refl g w).setCell 1 _).setCell 0 _⟩
  .rw[rO,DX,BO (by omega)]
  .rw[List.drop_of_length_le (by omega),decide_eq_true hlt,Bool.or_true];exact((G9 HC).s1 true).s0 []
 .go_enter func111,ntmps111
  go_wp2
  go_ret;refine⟨B43 (rO r n),?_,(Only.refl g w).setCell 0 _⟩;rw[B42,decide_eq_false hlt,Bool.or_false];exact(G9 HC).s0 _
theorem CK6(x y:Int):bits .or .i64 x y=IntKind.i64.wrap ((BitVec.ofInt 64 x|||BitVec.ofInt 64 y).toNat:Int):=rfl
theorem C51(t b:Nat)(ht:t<72057594037927936)(hb:b<256):bits .or .i64 (wrap64 ((t:Int)*256)) (b:Int)=wrap64 ((t*256+b:Nat):Int):=by
 have e1:BitVec.ofInt 64 (wrap64 ((t:Int)*256))=BitVec.ofNat 64 (t*256):=by
  apply BitVec.eq_of_toNat_eq
  rw[BitVec.toNat_ofInt,BitVec.toNat_ofNat];unfold wrap64;omega
 have e2:(BitVec.ofNat 64 (t*256)|||BitVec.ofInt 64 (b:Int)).toNat=t*256+b:=by
  rw[BitVec.ofInt_natCast,BitVec.toNat_or,BitVec.toNat_ofNat,BitVec.toNat_ofNat,Nat.mod_eq_of_lt (by omega),Nat.mod_eq_of_lt (by omega)];have:=Nat.two_pow_add_eq_or_of_lt (i:=8) (b:=b) (by omega) t;rw[DL t 256];exact this.symm
 rw[CK6,e1,e2,IntKind.wrap_i64,wrap64]
theorem AC2(h:l.length<=7):un l<72057594037927936:=by
 have h1:=BE7 l;have h2:256^l.length<=256^7:=Nat.pow_le_pow_right (by decide) h;have h3:(256:Nat)^7=72057594037927936:=by decide
 omega
theorem C52(l:List UInt8)(k:Nat)(h:k<l.length):un (l.take (k+1))=un (l.take k)*256+l[k].toNat:=by
 rw[List.take_succ_eq_append_getElem h,zF]
theorem CK7{b:Int}(h:a=b):DY (I0 a)=.returned (I0 b):=by rw[h]
theorem CK8{b:Int}(h:a=b):I0 a=I0 b:=by rw[h]
theorem CK9(l:List UInt8)(k:Nat)(h:k<(AU l.toArray).size):(AU l.toArray)[k]=l[k]'(by rwa[DU]at h):=rfl
theorem KG(g n:Nat)(r:List UInt8)(b:Bool)(w:FX)(hn:n<=8)(hc:Cur w g r b):
  G5 prog 112 #[P0 g,I0 n] w fun e w'=>e=.returned (I0 (wrap64 (un (r.take n):Nat)))/\Cur w' g (r.drop n) (b||decide (r.length<n))/\Only g w w':=by
 have HC:=GH hc;clear hc;go_enter func112,ntmps112;go_wp2_with fail;refine(SI g n r b _ (by omega) (G9 HC)).mono ?_;rintro e w1 ⟨rfl,hc1,ho1⟩;have H1:=GH hc1;clear hc1 HC;obtain⟨p,hp⟩:∃p,r.take n=p:=⟨_,rfl⟩;have hpl:p.length<=8:=by rw[<-hp,FB];omega
 rw[hp];have Hp:=GH hp;clear hp;have hz:(AU p.toArray).size=p.length:=DU ⟨p.toArray⟩;go_wp2_with fail
 go_loop [6,13] (fun t i=>∃k:Nat,k<=p.length/\i=I0 k/\t=I0 (wrap64 (un (p.take k):Nat))) (fun _ i=>p.length-(intOf i).toNat)
 case atStart=>exact⟨0,AZ _,rfl,CK8 (by simp[un,wrap64])⟩
 case round=>
  obtain⟨k,hk,rfl,rfl⟩:=hrel;by_cases hlt:k<p.length
  .have Hs:=GH (C52 p k hlt);have hsm:=AC2 (l:=p.take k) (by rw[FB];omega);obtain⟨x,hx⟩:∃x,un (p.take k)=x:=⟨_,rfl⟩;rw[hx]at hsm Hs⊢;clear hx;rw[show wrap64 (x:Int)=x from by unfold wrap64;omega];have hb:=p[k].toNat_lt;go_wp2_with fail;refine⟨⟨k+1,by omega,by go_num,CK8 ?_⟩,by simp[intOf];omega⟩;rw[G9 Hs,CK9,show wrap64 ((p[k].toNat:Nat):Int)=(p[k].toNat:Int)from by unfold wrap64;omega];exact C51 x _ hsm (by omega)
  .obtain rfl:k=p.length:=by omega
   rw[DX];go_wp2_with fail;go_ret;exact⟨CK7 (by rw[G9 Hp]),G9 H1,ho1⟩
theorem XL(s:List UInt8)(w:FX):
  G5 prog 110 #[S0 s] w fun e w'=>e=.returned (.pointer (G8 ⟨w.heap.size,0,G6⟩))/\w'=w.alloc (FW #[S0 s,.bool false] 231):=by
 go_enter func110,ntmps110;go_wp2_with fail;go_ret;exact⟨rfl,rfl⟩
theorem kM(g:Nat)(r:List UInt8)(b:Bool)(w:FX)(h:Cur w g r b):
  G5 prog 114 #[P0 g] w fun e w'=>e=.returned (.bool b)/\w'=w:=by
 have c1:=h.c1;go_enter func114,ntmps114;go_wp2_with fail;go_ret;exact⟨rfl,rfl⟩
theorem rP(g:Nat)(r:List UInt8)(b:Bool)(w:FX)(h:Cur w g r b):
  G5 prog 113 #[P0 g] w fun e w'=>e=.returned (I0 r.length)/\w'=w:=by
 have c0:=h.c0;have hz:(AU r.toArray).size=r.length:=DU ⟨r.toArray⟩;go_enter func113,ntmps113;go_wp2_with fail;go_ret;exact⟨rfl,rfl⟩
theorem AC3:∀j n,be (j+1) n=UInt8.ofNat (n/256^j)::be j n
 |0,n=>by simp[be]
 |j+1,n=>by
  rw[be,AC3 j (n/256),be,Nat.div_div_eq_div_mul,Nat.pow_succ,DL 256];rfl
def xE(l:List UInt8):List FZ:=l.map fun b=>.int .u8 (b.toNat:Int)
def PW(W:FX)(g:Nat)(l:List UInt8):Prop:=W.heap[g]?=G8 (FW (xE l).toArray 5 (0,0))
theorem PW.cell(h:PW W g l){j:Nat}(hj:j<l.length):W.cell? ⟨g,j,G6⟩=G8 (.int .u8 (l[j].toNat:Int)):=by
 unfold PW at h;simp[AX,h,xE,List.getElem?_eq_getElem hj]
theorem PW.soft(h:PW W g l)(j:Nat):W.frozen? ⟨g,j,G6⟩=false:=by
 unfold PW at h;simp[FC,h]
theorem PW.set(h:PW W g l)(j:Nat)(b:UInt8):PW (W.setCell ⟨g,j,G6⟩ (.int .u8 (b.toNat:Int))) g (l.set j b):=by
 unfold PW at h⊢;obtain⟨hlt,hk⟩:=AL.1 h;show (W.heap.modify g _)[g]?=_;rw[BU (by rw[Array.size_modify];exact hlt),Array.getElem_modify_self,hk];simp[xE,List.map_set]
theorem C56(m:Nat)(b:UInt8)(r:List UInt8):(List.replicate (m+1) 0++r).set m b=List.replicate m 0++b::r:=by
 rw[List.replicate_succ',BZ,List.set_append_right _ _ (by simp)];simp
theorem PW.text(h:PW W g l)(cap:Nat):
  (convert 228 9 (.slice (G8 ⟨g,0,G6⟩) l.length cap)).run prog W=.ok (S0 l) W:=
 run_convert_bytes_back W 228 9 5 ⟨g,0,G6⟩ cap l underlying228 underlying5 underlying9 (fun j hj=>by
  rw[show (⟨g,0,G6⟩:Addr).add j=⟨g,j,G6⟩from by unfold Addr.add;split<;>simp_all];exact h.cell hj)
theorem B45(x:Nat):((x:Int)%256)=((UInt8.ofNat x).toNat:Int):=by simp
theorem C57(n j:Nat):n/256^j/256=n/256^(j+1):=by rw[Nat.div_div_eq_div_mul,Nat.pow_succ]
theorem CL0{b:Int}(h:a=b):I0 a=I0 b:=by rw[h]
theorem BN2{a b:ByteArray}(h:a=b):DY (.string a)=.returned (.string b):=by rw[h]
theorem B46(k:Nat):madeCells (Value.int .u8 0).cells k=(xE (List.replicate k 0)).toArray:=by
 apply Array.ext'
 apply List.ext_getElem
 .simp[madeCells,xE]
 .intro j h1 h2;simp[madeCells,xE,Value.cells,Nat.mod_one]
theorem CL1:(prog.info? 5).map (fun i=>(i.zero,i.size,i.bytes))=G8 (G8 (.int .u8 0),1,1):=by kernel_rfl
theorem AN6(k:Nat)(hk:k<=8)(w:FX):(Instr.makeSlice 228 (I0 k) (I0 k)).run prog w=.ok (.slice (G8 ⟨w.heap.size,0,G6⟩) k k) (w.alloc (FW (xE (List.replicate k 0)).toArray 5)):=by
 obtain⟨i0,hi,hz0,hz1,hz2⟩:=info_parts CL1;have h:=run_make (P:=prog) w 228 5 i0 (.int .u8 0) underlying228 hi hz0 .i64 .i64 k k (by omega) (by omega) (by rw[hz2];omega) (by omega);rw[h,hz1,Nat.mul_one,Int.toNat_natCast,B46]
theorem eH(n k:Nat)(w:FX)(hn:n<9223372036854775808)(hk:k<=8):
  G5 prog 213 #[I0 n,I0 k] w (R0 w (S0 (be k n))):=by
 have hmk:=AN6 k hk w;go_enter func213,ntmps213
 go_wp2
 generalize hW1:w.alloc (Obj.cells (xE (List.replicate k 0)).toArray 5)=W1;have HR1:Hid (PW W1 w.heap.size (List.replicate k 0++be 0 n)):=GH (by
  rw[<-hW1];show (w.heap.push _)[w.heap.size]?=_;simp[be])
 have hB1:B0 w W1:=by rw[<-hW1];exact(AB _ _).alloc (AA _) _
 clear hW1 hmk
 go_loopw [0,6] (fun x i wr=>∃j:Nat,j<=k/\x=I0 (n/256^j:Nat)/\i=I0 ((k:Int)-1-j)/\PW wr w.heap.size (List.replicate (k-j) 0++be j n)/\B0 w wr) (fun _ i _=>(intOf i+1).toNat)
 case atStart=>exact⟨0,AZ _,by simp,by simp,G9 HR1,hB1⟩
 case round=>
  obtain⟨j,hj,rfl,rfl,hr,hB⟩:=hrel;have HR:=GH hr;clear hr HR1 hB1;by_cases hlt:j<k
  .obtain⟨m,hm⟩:∃m,k-j=m+1:=⟨k-j-1,by omega⟩;have hlen:m<(List.replicate (k-j) (0:UInt8)++be j n).length:=by simp;omega
   have h1:=(G9 HR).cell hlen;have h2:=(G9 HR).soft m;have hmk:(k:Int)-1-j=(m:Int):=by omega
   rw[hmk];have hmlt:m<k:=by omega
   have hq:n/256^j<9223372036854775808:=Nat.lt_of_le_of_lt (Nat.div_le_self _ _) hn;have Hdiv:=GH (C57 n j);have Hby:=GH (B45 (n/256^j));have Hfr:=GH (AC3 j n);generalize (List.replicate (k-j) (0:UInt8)++be j n)[m]=c0 at h1;obtain⟨x,hx⟩:∃x,n/256^j=x:=⟨_,rfl⟩;rw[hx]at hq Hdiv Hby Hfr⊢;have Hm:=GH hm;have Hmk:=GH hmk;clear hx hm hmk hlen
   go_wp2
   rw[G9 Hby];refine⟨⟨j+1,by omega,CL0 (by rw[<-G9 Hdiv];omega),CL0 (by have:=G9 Hmk;omega),?_,hB.setCell (by show w.heap.size<=w.heap.size;exact AA _) _⟩,by simp only[intOf];omega⟩;have hset:=(G9 HR).set m (UInt8.ofNat x);rw[G9 Hm,C56,<-G9 Hfr]at hset;rw[show k-(j+1)=m from by have:=G9 Hm;omega];exact hset
  .obtain rfl:j=k:=by omega
   have hlen:(List.replicate (j-j) (0:UInt8)++be j n).length=j:=by simp[IK]
   have htx:=(G9 HR).text j;rw[hlen]at htx;rw[show (j:Int)-1-(j:Int)=-1 from by omega];have Hrep:Hid (List.replicate (j-j) (0:UInt8)++be j n=be j n):=GH (by simp);rw[G9 Hrep]at htx;clear hlen
   go_wp2
   go_ret;exact⟨rfl,hB⟩
theorem B47{b:Int}(h:a=b):Value.int .u32 a=.int .u32 b:=by rw[h]
theorem B48{c:Nat}(h:c<4294967296):bits .xor .u32 ((c:Int)/2) (3988292384*bits .and .u32 (c:Int) 1%4294967296)=(CF9 c:Nat):=by
 have h2:c%2<2:=Nat.mod_lt _ (by decide);rw[BE6 h,show (3988292384*((c%2:Nat):Int)%4294967296)=((3988292384*(c%2):Nat):Int)from by omega];rw[show ((c:Int)/2)=((c/2:Nat):Int)from by omega];exact zC (by omega) (by omega)
theorem BN3(s:ByteArray)(k:Nat)(h:k<s.size):BE4 (s.data.toList.take (k+1))=BV9 8 (BE4 (s.data.toList.take k)^^^s[k].toNat):=by
 rw[iV s k h,AT1];rfl
theorem C58{b:Int}(h:a=b):DY (I0 a)=.returned (I0 b):=by rw[h]
theorem AC4(s:ByteArray)(w:FX)(hs:s.size<=140737488355328):
  G5 prog 115 #[.string s] w fun e w'=>e=.returned (I0 (A70 s.data.toList:Nat))/\w'=w:=by
 go_enter func115,ntmps115
 go_wp2
 go_loop [3,8] (fun c i=>∃k:Nat,k<=s.size/\i=I0 k/\c=.int .u32 (BE4 (s.data.toList.take k):Nat)) (fun _ i=>s.size-(intOf i).toNat)
 case atStart=>exact⟨0,AZ _,rfl,rfl⟩
 case round=>
  obtain⟨k,hk,rfl,rfl⟩:=hrel;obtain⟨c,hc⟩:∃c,BE4 (s.data.toList.take k)=c:=⟨_,rfl⟩;have hcl:c<4294967296:=hc ▸ AS9 _;have Hc:=GH hc;rw[hc];clear hc;by_cases hlt:k<s.size
  .have hb:=s[k].toNat_lt;have Hsn:=GH (BN3 s k hlt)
   go_wp2
   rw[zC hcl (by omega)];obtain⟨x,hx⟩:∃x,c^^^s[k].toNat=x:=⟨_,rfl⟩;have hxl:x<4294967296:=hx ▸ aC hcl (by omega);have Hx:=GH hx;rw[hx];clear hx hb
   go_loop [3,17] (fun d j=>∃n:Nat,n<=8/\j=I0 n/\d=.int .u32 (BV9 n x:Nat)) (fun _ j=>8-(intOf j).toNat)
   case atStart=>exact⟨0,AZ _,rfl,rfl⟩
   case round=>
    obtain⟨n,hn,rfl,rfl⟩:=hrel;have hy:=zA hxl n;have Hs:Hid (BV9 (n+1) x=CF9 (BV9 n x)):=GH rfl;by_cases h8:n<8
    .obtain⟨y,hyy⟩:∃y,BV9 n x=y:=⟨_,rfl⟩;rw[hyy]at hy Hs⊢;clear hyy
     go_wp2
     exact⟨⟨n+1,by omega,by go_num,B47 (by rw[B48 hy,G9 Hs])⟩,by simp[intOf];omega⟩
    .obtain rfl:n=8:=by omega
     go_wp2
     exact⟨⟨k+1,by omega,by go_num,B47 (by rw[G9 Hsn,G9 Hc,G9 Hx])⟩,by simp[intOf];omega⟩
  .obtain rfl:k=s.size:=by omega
   go_wp2
   go_ret;refine⟨C58 ?_,rfl⟩;rw[<-aB s,DX]at Hc;rw[show IntKind.u32.max=((4294967295:Nat):Int)from rfl,zC (by decide) hcl,A70,G9 Hc];have h32:=aC (show 4294967295<4294967296 by decide) hcl;unfold wrap64;omega
theorem kP(n:Int)(k:Nat)(w:FX)(h0:0<=n)(hn:n<9223372036854775808)(hk:k<=8)(d:Nat)(os:Array Obj):
  G5 prog 213 #[I0 n,I0 k] (Sort.grow (redrawn w d) os) fun e w''=>e=.returned (S0 (be k n.toNat))/\∃p:Regrown,w''=Sort.grow (redrawn w p.d) p.os:=by
 have h:=eH n.toNat k (Sort.grow (redrawn w d) os) (by omega) hk;rw[Int.toNat_of_nonneg h0]at h;exact Calls.regrown_of h
theorem BN4(t:GV)(w:FX)(ht:gdE t=0):
  G5 prog 212 #[JC t] w (R0 w (S0 (RH t))):=by
 obtain⟨hz,ho,hs,hv,hu,hp,hd⟩:=WQ ht;clear ht;obtain⟨z,o,s,p,d,v,u⟩:=t;unfold JC RH;simp only at hz ho hs hv hu hp hd⊢;have hzp:(AU p.toArray).size=p.length:=DU ⟨p.toArray⟩;have hzd:(AU d.toArray).size=d.length:=DU ⟨d.toArray⟩;go_enter func212,ntmps212;go_wp2_with fail;obtain⟨W,hW⟩:∃W,w.alloc (Obj.cells #[I0 z,I0 o,I0 s,S0 p,S0 d,I0 v,I0 u] 59)=W:=⟨_,rfl⟩;have hB:B0 w W:=by rw[<-hW];exact(AB _ _).alloc (AA _) _
 have k0:∀d' os,(Sort.grow (redrawn W d') os).cell? ⟨w.heap.size,0,G6⟩=G8 (I0 z):=fun d' os=>cell_regrown (by rw[<-hW];simp) d' os;have k1:∀d' os,(Sort.grow (redrawn W d') os).cell? ⟨w.heap.size,1,G6⟩=G8 (I0 o):=fun d' os=>cell_regrown (by rw[<-hW];simp) d' os;have k2:∀d' os,(Sort.grow (redrawn W d') os).cell? ⟨w.heap.size,2,G6⟩=G8 (I0 s):=fun d' os=>cell_regrown (by rw[<-hW];simp) d' os;have k3:∀d' os,(Sort.grow (redrawn W d') os).cell? ⟨w.heap.size,3,G6⟩=G8 (S0 p):=fun d' os=>cell_regrown (by rw[<-hW];simp) d' os;have k4:∀d' os,(Sort.grow (redrawn W d') os).cell? ⟨w.heap.size,4,G6⟩=G8 (S0 d):=fun d' os=>cell_regrown (by rw[<-hW];simp) d' os;have k5:∀d' os,(Sort.grow (redrawn W d') os).cell? ⟨w.heap.size,5,G6⟩=G8 (I0 v):=fun d' os=>cell_regrown (by rw[<-hW];simp) d' os;have k6:∀d' os,(Sort.grow (redrawn W d') os).cell? ⟨w.heap.size,6,G6⟩=G8 (I0 u):=fun d' os=>cell_regrown (by rw[<-hW];simp) d' os;rw[hW];clear hW;have c0:∀d' os,G5 prog 213 #[I0 z,I0 8] (Sort.grow (redrawn W d') os) fun e w''=>e=.returned (S0 (be 8 z.toNat))/\∃p:Regrown,w''=Sort.grow (redrawn W p.d) p.os:=kP z 8 W (by omega) (by omega) (by omega);have c1:∀d' os,G5 prog 213 #[I0 o,I0 1] (Sort.grow (redrawn W d') os) fun e w''=>e=.returned (S0 (be 1 o.toNat))/\∃p:Regrown,w''=Sort.grow (redrawn W p.d) p.os:=kP o 1 W (by omega) (by omega) (by omega);have c2:∀d' os,G5 prog 213 #[I0 s,I0 4] (Sort.grow (redrawn W d') os) fun e w''=>e=.returned (S0 (be 4 s.toNat))/\∃p:Regrown,w''=Sort.grow (redrawn W p.d) p.os:=kP s 4 W (by omega) (by omega) (by omega);have c3:∀d' os,G5 prog 213 #[I0 v,I0 4] (Sort.grow (redrawn W d') os) fun e w''=>e=.returned (S0 (be 4 v.toNat))/\∃p:Regrown,w''=Sort.grow (redrawn W p.d) p.os:=kP v 4 W (by omega) (by omega) (by omega);have c4:∀d' os,G5 prog 213 #[I0 u,I0 4] (Sort.grow (redrawn W d') os) fun e w''=>e=.returned (S0 (be 4 u.toNat))/\∃p:Regrown,w''=Sort.grow (redrawn W p.d) p.os:=kP u 4 W (by omega) (by omega) (by omega);have c5:∀d' os,G5 prog 213 #[I0 (p.length:Nat),I0 1] (Sort.grow (redrawn W d') os) fun e w''=>e=.returned (S0 (be 1 p.length))/\∃p:Regrown,w''=Sort.grow (redrawn W p.d) p.os:=kP p.length 1 W (by omega) (by omega) (by omega);have c6:∀d' os,G5 prog 213 #[I0 (d.length:Nat),I0 2] (Sort.grow (redrawn W d') os) fun e w''=>e=.returned (S0 (be 2 d.length))/\∃p:Regrown,w''=Sort.grow (redrawn W p.d) p.os:=kP d.length 2 W (by omega) (by omega) (by omega);have l0:=IK 8 z.toNat;have l1:=IK 1 o.toNat;have l2:=IK 4 s.toNat;have l3:=IK 4 v.toNat;have l4:=IK 4 u.toNat;have l5:=IK 1 p.length;have l6:=IK 2 d.length;obtain⟨b0,e0⟩:∃b,be 8 z.toNat=b:=⟨_,rfl⟩;rw[e0]at c0 l0;have E0:=GH e0;clear e0;obtain⟨b1,e1⟩:∃b,be 1 o.toNat=b:=⟨_,rfl⟩;rw[e1]at c1 l1;have E1:=GH e1;clear e1;obtain⟨b2,e2⟩:∃b,be 4 s.toNat=b:=⟨_,rfl⟩;rw[e2]at c2 l2;have E2:=GH e2;clear e2;obtain⟨b3,e3⟩:∃b,be 4 v.toNat=b:=⟨_,rfl⟩;rw[e3]at c3 l3;have E3:=GH e3;clear e3;obtain⟨b4,e4⟩:∃b,be 4 u.toNat=b:=⟨_,rfl⟩;rw[e4]at c4 l4;have E4:=GH e4;clear e4;obtain⟨b5,e5⟩:∃b,be 1 p.length=b:=⟨_,rfl⟩;rw[e5]at c5 l5;have E5:=GH e5;clear e5;obtain⟨b6,e6⟩:∃b,be 2 d.length=b:=⟨_,rfl⟩;rw[e6]at c6 l6;have E6:=GH e6;clear e6;refine wp_region_quiet_below (by kernel_rfl) (by kernel_rfl) ?_
 repeat (first|go_big_quiet_step (first|with_reducible exact c0 _ _|with_reducible exact c1 _ _|with_reducible exact c2 _ _|with_reducible exact c3 _ _|with_reducible exact c4 _ _|with_reducible exact c5 _ _|with_reducible exact c6 _ _)|quiet_step (first|with_reducible exact c0 _ _|with_reducible exact c1 _ _|with_reducible exact c2 _ _|with_reducible exact c3 _ _|with_reducible exact c4 _ _|with_reducible exact c5 _ _|with_reducible exact c6 _ _))
 refine wpQuiet_nil ?_;intro _ hw';obtain⟨⟨dq,osq⟩,hw''⟩:=hw';subst hw'';have hb2:B0 w (Sort.grow (redrawn W dq) osq):=SQ hB (below_regrown W dq osq);clear c0 c1 c2 c3 c4 c5 c6 k0 k1 k2 k3 k4 k5 k6;go_wp2_with fail;go_ret;refine⟨BN2 ?_,hb2⟩;rw[PU,PU,PU,PU,PU,PU,PU,PU];simp only[BZ];rw[G9 E0,G9 E1,G9 E2,G9 E3,G9 E4,G9 E5,G9 E6]
theorem BN5{a b:ByteArray}{i j:Int}(h:a=b)(h':i=j):DY (.tuple #[.string a,I0 i])=.returned (.tuple #[.string b,I0 j]):=by rw[h,h']
theorem eP(t:GV)(w:FX)(h:gdE t=0):
  G5 prog 183 #[JC t] w (R0 w (.tuple #[S0 (RI t),I0 0])):=by
 have H:=GH h;obtain⟨_,_,_,_,_,_,hd⟩:=WQ h;have hbl:=dQ h;clear h;obtain⟨b,hb⟩:∃b,RH t=b:=⟨_,rfl⟩;have Hb:=GH hb;rw[hb]at hbl;clear hb;have hzb:(AU b.toArray).size=b.length:=DU ⟨b.toArray⟩;obtain⟨z,o,s,p,d,v,u⟩:=t;unfold JC;replace hd:d.length<=256:=hd;go_enter func183,ntmps183;go_wp2_with fail;refine(XH ⟨z,o,s,p,d,v,u⟩ _ (by show d.length<=_;omega)).mono ?_;rintro e w1 ⟨rfl,hb1⟩;have hbz:=U0 hb1;obtain⟨hc,hf⟩:=A17 hb1;have hz1:w.heap.size<w1.heap.size:=by have:=hb1.size;simp at this;omega
 rw[G9 H];go_wp2_with fail;refine(BN4 ⟨z,o,s,p,d,v,u⟩ _ (G9 H)).mono ?_;rintro e w2 ⟨rfl,hb2⟩;replace hb2:=SQ hbz hb2;rw[G9 Hb];clear hc hf hb1 hbz hz1;go_wp2_with fail;refine(eH b.length 2 _ (by omega) (by omega)).mono ?_;rintro e w3 ⟨rfl,hb3⟩;replace hb3:=SQ hb2 hb3;clear hb2;have l2:=IK 2 b.length;obtain⟨n2,e2⟩:∃n2,be 2 b.length=n2:=⟨_,rfl⟩;rw[e2]at l2⊢;have E2:=GH e2;clear e2;go_wp2_with fail;have hF:(AU #[84]++AU n2.toArray++AU b.toArray)=⟨(MW b).toArray⟩:=by
  rw[show (AU #[84])=⟨[(84:UInt8)].toArray⟩from rfl,PU,PU,MW,G9 E2];rfl
 rw[hF];have lF:=VD b;obtain⟨F,eF⟩:∃F,MW b=F:=⟨_,rfl⟩;rw[eF]at lF⊢;have EF:=GH eF;clear eF hF;have hzF:(AU F.toArray).size=F.length:=DU ⟨F.toArray⟩;refine(AC4 ⟨F.toArray⟩ _ (by omega)).mono ?_;rintro e w4 ⟨rfl,rfl⟩;rw[show (AU F.toArray).data.toList=F from rfl];have hsl:=AT0 F;obtain⟨X,hX⟩:∃X,A70 F=X:=⟨_,rfl⟩;rw[hX]at hsl⊢;have HX:=GH hX;clear hX;go_wp2_with fail;refine(eH X 4 _ (by omega) (by omega)).mono ?_;rintro e w5 ⟨rfl,hb5⟩;replace hb5:=SQ hb3 hb5;clear hb3;have l4:=IK 4 X;obtain⟨n4,e4⟩:∃n4,be 4 X=n4:=⟨_,rfl⟩;rw[e4]at l4⊢;have E4:=GH e4;clear e4;go_wp2_with fail
 go_ret2
 refine⟨BN5 ?_ rfl,hb5⟩;rw[PU,RI,G9 Hb,G9 EF,G9 HX,G9 E4]
def KC(W:FX)(g:Nat)(t:GV):Prop:=W.heap[g]?=G8 (FW #[I0 t.z,I0 t.o,I0 t.s,S0 t.p,S0 t.d,I0 t.v,I0 t.w] 59 (0,0))
theorem KC.c0(h:KC W g t):W.cell? ⟨g,0,G6⟩=G8 (I0 t.z):=by unfold KC at h;simp[AX,h]
theorem KC.c1(h:KC W g t):W.cell? ⟨g,1,G6⟩=G8 (I0 t.o):=by unfold KC at h;simp[AX,h]
theorem KC.c2(h:KC W g t):W.cell? ⟨g,2,G6⟩=G8 (I0 t.s):=by unfold KC at h;simp[AX,h]
theorem KC.c3(h:KC W g t):W.cell? ⟨g,3,G6⟩=G8 (S0 t.p):=by unfold KC at h;simp[AX,h]
theorem KC.c4(h:KC W g t):W.cell? ⟨g,4,G6⟩=G8 (S0 t.d):=by unfold KC at h;simp[AX,h]
theorem KC.c5(h:KC W g t):W.cell? ⟨g,5,G6⟩=G8 (I0 t.v):=by unfold KC at h;simp[AX,h]
theorem KC.c6(h:KC W g t):W.cell? ⟨g,6,G6⟩=G8 (I0 t.w):=by unfold KC at h;simp[AX,h]
theorem KC.f(h:KC W g t)(j:Nat):W.frozen? ⟨g,j,G6⟩=false:=by unfold KC at h;simp[FC,h]
theorem KC.kept(h:KC W g t)(hb:Below B W V)(hg:g<B):KC V g t:=(hb.block _ hg).trans h
theorem KC.other{k:Nat}(h:KC W g t)(ho:Only k W V)(hg:g≠k):KC V g t:=(ho.block _ hg).trans h
theorem iJ(g:Nat)(w:FX)(j:Nat)(v:FZ):Only g w (w.setCell ⟨g,j,G6⟩ v):=(Only.refl g w).setCell j v
theorem bU(w:FX)(o:Obj):(w.alloc o).heap[w.heap.size]?=G8 o:=by
 show (w.heap.push o)[w.heap.size]?=_;simp
structure Unf(w W:FX)(r:List UInt8)(b:Bool)(t:GV):Prop where
 res:KC W w.heap.size t0
 cur:Cur W (w.heap.size+1) r b
 txn:KC W (w.heap.size+1+1) t
 size:w.heap.size+3<=W.heap.size
 below:B0 w W
theorem Unf.took{w:FX}{r':List UInt8}{b':Bool}(h:Unf w W r b t)(hc:Cur V (w.heap.size+1) r' b')(ho:Only (w.heap.size+1) W V):Unf w V r' b' t:=
 ⟨h.res.other ho (by omega),hc,h.txn.other ho (by omega),by rw[ho.size];exact h.size,ho.below h.below (by omega)⟩
theorem Unf.kept{w:FX}(h:Unf w W r b t)(hb:B0 W V):Unf w V r b t:=
 ⟨h.res.kept hb (by have:=h.size;omega),h.cur.kept hb (by have:=h.size;omega),h.txn.kept hb (by have:=h.size;omega),BP h.size hb.size,h.below.trans (hb.mono h.below.size)⟩
theorem Unf.put{w:FX}(h:Unf w W r b t)(j:Nat)(v:FZ){t':GV}(ht:KC (W.setCell ⟨w.heap.size+1+1,j,G6⟩ v) (w.heap.size+1+1) t'):Unf w (W.setCell ⟨w.heap.size+1+1,j,G6⟩ v) r b t':=
 ⟨h.res.other (iJ _ _ _ _) (by omega),h.cur.other (iJ _ _ _ _) (by omega),ht,by rw[(iJ _ W j v).size];exact h.size,(iJ _ _ _ _).below h.below (by omega)⟩
theorem Unf.z{w:FX}(h:Unf w W r b t)(x:Int):Unf w (W.setCell ⟨w.heap.size+1+1,0,G6⟩ (I0 x)) r b {t with z:=x}:=h.put 0 _ (OH _ h.txn)
theorem Unf.o{w:FX}(h:Unf w W r b t)(x:Int):Unf w (W.setCell ⟨w.heap.size+1+1,1,G6⟩ (I0 x)) r b {t with o:=x}:=h.put 1 _ (OH _ h.txn)
theorem Unf.s{w:FX}(h:Unf w W r b t)(x:Int):Unf w (W.setCell ⟨w.heap.size+1+1,2,G6⟩ (I0 x)) r b {t with s:=x}:=h.put 2 _ (OH _ h.txn)
theorem Unf.p{w:FX}(h:Unf w W r b t)(x:List UInt8):Unf w (W.setCell ⟨w.heap.size+1+1,3,G6⟩ (S0 x)) r b {t with p:=x}:=h.put 3 _ (OH _ h.txn)
theorem Unf.d{w:FX}(h:Unf w W r b t)(x:List UInt8):Unf w (W.setCell ⟨w.heap.size+1+1,4,G6⟩ (S0 x)) r b {t with d:=x}:=h.put 4 _ (OH _ h.txn)
theorem Unf.v{w:FX}(h:Unf w W r b t)(x:Int):Unf w (W.setCell ⟨w.heap.size+1+1,5,G6⟩ (I0 x)) r b {t with v:=x}:=h.put 5 _ (OH _ h.txn)
theorem Unf.w{w:FX}(h:Unf w W r b t)(x:Int):Unf w (W.setCell ⟨w.heap.size+1+1,6,G6⟩ (I0 x)) r b {t with w:=x}:=h.put 6 _ (OH _ h.txn)
theorem C62(h:l.length<=7):wrap64 ((un l:Nat):Int)=(un l:Nat):=by
 have:=AC2 h;unfold wrap64;omega
theorem ML(l:List UInt8)(k:Nat)(hk:k<=7):wrap64 ((un (l.take k):Nat):Int)=(un (l.take k):Nat):=C62 (by rw[FB];omega)
def KW(W:FX)(g:Nat)(t:GV):FX:=
 ((((((W.setCell ⟨g,0,G6⟩ (I0 t.z)).setCell ⟨g,1,G6⟩ (I0 t.o)).setCell ⟨g,2,G6⟩ (I0 t.s)).setCell ⟨g,3,G6⟩ (S0 t.p)).setCell ⟨g,4,G6⟩ (S0 t.d)).setCell ⟨g,5,G6⟩ (I0 t.v)).setCell ⟨g,6,G6⟩ (I0 t.w)
theorem KC.s0(h:KC W g t)(x:Int):KC (W.setCell ⟨g,0,G6⟩ (I0 x)) g {t with z:=x}:=OH _ h
theorem KC.s1(h:KC W g t)(x:Int):KC (W.setCell ⟨g,1,G6⟩ (I0 x)) g {t with o:=x}:=OH _ h
theorem KC.s2(h:KC W g t)(x:Int):KC (W.setCell ⟨g,2,G6⟩ (I0 x)) g {t with s:=x}:=OH _ h
theorem KC.s3(h:KC W g t)(x:List UInt8):KC (W.setCell ⟨g,3,G6⟩ (S0 x)) g {t with p:=x}:=OH _ h
theorem KC.s4(h:KC W g t)(x:List UInt8):KC (W.setCell ⟨g,4,G6⟩ (S0 x)) g {t with d:=x}:=OH _ h
theorem KC.s5(h:KC W g t)(x:Int):KC (W.setCell ⟨g,5,G6⟩ (I0 x)) g {t with v:=x}:=OH _ h
theorem KC.s6(h:KC W g t)(x:Int):KC (W.setCell ⟨g,6,G6⟩ (I0 x)) g {t with w:=x}:=OH _ h
theorem KC.store(h:KC W g t)(t':GV):KC (KW W g t') g t':=
 ((((((h.s0 t'.z).s1 t'.o).s2 t'.s).s3 t'.p).s4 t'.d).s5 t'.v).s6 t'.w
theorem NG(W:FX)(g:Nat)(t:GV):Only g W (KW W g t):=
 (((((((Only.refl g W).setCell 0 _).setCell 1 _).setCell 2 _).setCell 3 _).setCell 4 _).setCell 5 _).setCell 6 _
def B55(b:List UInt8):Bool:=
 false||decide (b.length<8)||decide ((b.drop 8).length<1)||decide ((b.drop 9).length<4)||decide ((b.drop 13).length<4)||decide ((b.drop 17).length<4)||decide ((b.drop 21).length<1)||decide ((b.drop 22).length<YD b)||decide ((b.drop (22+YD b)).length<2)||decide ((b.drop (24+YD b)).length<yT b)
theorem xJ{b:List UInt8}:B55 b=false↔24+YD b+yT b<=b.length:=by
 simp only[B55,Bool.or_eq_false_iff,decide_eq_false_iff_not,List.length_drop,true_and];omega
theorem C63(b:List UInt8):YD b<256:=by
 have h:=BE7 ((b.drop 21).take 1);have h2:((b.drop 21).take 1).length<=1:=List.length_take_le _ _;have h3:256^((b.drop 21).take 1).length<=256^1:=Nat.pow_le_pow_right (by decide) h2;unfold YD;omega
theorem C64(b:List UInt8):yT b<65536:=by
 have h:=BE7 ((b.drop (22+YD b)).take 2);have h2:((b.drop (22+YD b)).take 2).length<=2:=List.length_take_le _ _;have h3:256^((b.drop (22+YD b)).take 2).length<=256^2:=Nat.pow_le_pow_right (by decide) h2;unfold yT;omega
def tIn(b:List UInt8):GV:=
 ⟨wrap64 (un (b.take 8)),un ((b.drop 8).take 1),un ((b.drop 9).take 4),(b.drop 22).take (YD b),(b.drop (24+YD b)).take (yT b),un ((b.drop 13).take 4),un ((b.drop 17).take 4)⟩
theorem C66{b:List UInt8}(h:BE0 b=true):tIn b=tOf b:=by
 obtain⟨h1,h2⟩:=aH.1 h;rw[tIn,tOf,BO (l:=b.drop (24+YD b)) (by rw[List.length_drop];omega)]
theorem AO3(b:List UInt8)(w:FX):
  G5 prog 116 #[S0 b] w (R0 w (.tuple #[JC (AT2 b),I0 (tY b)])):=by
 have hpl:=C63 b;have hdl:=C64 b;go_enter func116,ntmps116;go_wp2_with fail;refine(XL b _).mono ?_;rintro e wA ⟨rfl,rfl⟩;go_wp2_with fail;generalize hW:((w.alloc _).alloc _).alloc _=W;have H:Hid (Unf w W b false t0):=GH (by
  rw[<-hW];refine⟨?_,?_,?_,by simp,(((AB _ _).alloc (AA _) _).alloc (by simp) _).alloc (by simp;omega) _⟩
  .exact(Below.heap_alloc _ _ _ (by simp;omega)).trans ((Below.heap_alloc _ _ _ (by simp)).trans (bU _ _))
  .exact(Below.heap_alloc _ _ _ (by simp)).trans (by have:=bU (w.alloc (FW #[I0 0,I0 0,I0 0,.string ⟨#[]⟩,.string ⟨#[]⟩,I0 0,I0 0] 59)) (FW #[S0 b,.bool false] 231);rwa[FU]at this)
  .have:=bU ((w.alloc (FW #[I0 0,I0 0,I0 0,.string ⟨#[]⟩,.string ⟨#[]⟩,I0 0,I0 0] 59)).alloc (FW #[S0 b,.bool false] 231)) (FW #[I0 0,I0 0,I0 0,.string ⟨#[]⟩,.string ⟨#[]⟩,I0 0,I0 0] 59);rwa[FU,FU]at this)
 clear hW;refine(KG (w.heap.size+1) 8 _ _ _ (by decide) (G9 H).cur).mono ?_;rintro e w1 ⟨rfl,hc1,ho1⟩;have H1:=GH ((G9 H).took hc1 ho1);clear hc1 ho1 H W;generalize w1=W at*;obtain⟨x0,h0⟩:∃x,wrap64 (un (b.take 8):Nat)=x:=⟨_,rfl⟩;rw[h0];have E0:=GH h0;clear h0;have q1:=(G9 H1).txn.c0;have q2:=(G9 H1).txn.f 0;go_wp2_with fail;have H:=GH ((G9 H1).z x0);clear q1 q2 H1;generalize W.setCell _ _=W at*;refine(KG (w.heap.size+1) 1 _ _ _ (by decide) (G9 H).cur).mono ?_;rintro e w1 ⟨rfl,hc1,ho1⟩;have H1:=GH ((G9 H).took hc1 ho1);clear hc1 ho1 H W;generalize w1=W at*;simp only[FT,Nat.reduceAdd]at H1;rw[ML _ _ (by decide)];obtain⟨x1,h1⟩:∃x,un ((b.drop 8).take 1)=x:=⟨_,rfl⟩;rw[h1];have E1:=GH h1;clear h1;have q1:=(G9 H1).txn.c1;have q2:=(G9 H1).txn.f 1;go_wp2_with fail;have H:=GH ((G9 H1).o x1);clear q1 q2 H1;generalize W.setCell _ _=W at*;refine(KG (w.heap.size+1) 4 _ _ _ (by decide) (G9 H).cur).mono ?_;rintro e w1 ⟨rfl,hc1,ho1⟩;have H1:=GH ((G9 H).took hc1 ho1);clear hc1 ho1 H W;generalize w1=W at*;simp only[FT,Nat.reduceAdd]at H1;rw[ML _ _ (by decide)];obtain⟨x2,h2⟩:∃x,un ((b.drop 9).take 4)=x:=⟨_,rfl⟩;rw[h2];have E2:=GH h2;clear h2;have q1:=(G9 H1).txn.c2;have q2:=(G9 H1).txn.f 2;go_wp2_with fail;have H:=GH ((G9 H1).s x2);clear q1 q2 H1;generalize W.setCell _ _=W at*;refine(KG (w.heap.size+1) 4 _ _ _ (by decide) (G9 H).cur).mono ?_;rintro e w1 ⟨rfl,hc1,ho1⟩;have H1:=GH ((G9 H).took hc1 ho1);clear hc1 ho1 H W;generalize w1=W at*;simp only[FT,Nat.reduceAdd]at H1;rw[ML _ _ (by decide)];obtain⟨x3,h3⟩:∃x,un ((b.drop 13).take 4)=x:=⟨_,rfl⟩;rw[h3];have E3:=GH h3;clear h3;have q1:=(G9 H1).txn.c5;have q2:=(G9 H1).txn.f 5;go_wp2_with fail;have H:=GH ((G9 H1).v x3);clear q1 q2 H1;generalize W.setCell _ _=W at*;refine(KG (w.heap.size+1) 4 _ _ _ (by decide) (G9 H).cur).mono ?_;rintro e w1 ⟨rfl,hc1,ho1⟩;have H1:=GH ((G9 H).took hc1 ho1);clear hc1 ho1 H W;generalize w1=W at*;simp only[FT,Nat.reduceAdd]at H1;rw[ML _ _ (by decide)];obtain⟨x4,h4⟩:∃x,un ((b.drop 17).take 4)=x:=⟨_,rfl⟩;rw[h4];have E4:=GH h4;clear h4;have q1:=(G9 H1).txn.c6;have q2:=(G9 H1).txn.f 6;go_wp2_with fail;have H:=GH ((G9 H1).w x4);clear q1 q2 H1;generalize W.setCell _ _=W at*;refine(KG (w.heap.size+1) 1 _ _ _ (by decide) (G9 H).cur).mono ?_;rintro e w1 ⟨rfl,hc1,ho1⟩;have H1:=GH ((G9 H).took hc1 ho1);clear hc1 ho1 H W;generalize w1=W at*;simp only[FT,Nat.reduceAdd]at H1;rw[ML _ _ (by decide)];rw[show un ((b.drop 21).take 1)=YD b from rfl];go_wp2_with fail;refine(SI (w.heap.size+1) (YD b) _ _ _ (by omega) (G9 H1).cur).mono ?_;rintro e w2 ⟨rfl,hc2,ho2⟩;have H2:=GH ((G9 H1).took hc2 ho2);clear hc2 ho2 H1 W;generalize w2=W at*;obtain⟨P,hP⟩:∃x,(b.drop 22).take (YD b)=x:=⟨_,rfl⟩;have lP:P.length<=65536:=by rw[<-hP,FB];omega
 rw[hP];have EP:=GH hP;clear hP;go_wp2_with fail;refine(WV ⟨P.toArray⟩ _ (by rw[DU];show P.length<=_;omega)).mono ?_;rintro e w3 ⟨rfl,hb3⟩;have H1:=GH ((G9 H2).kept hb3);clear hb3 H2 W;generalize w3=W at*;simp only[FT]at H1;have q1:=(G9 H1).txn.c3;have q2:=(G9 H1).txn.f 3;go_wp2_with fail;have H:=GH ((G9 H1).p P);clear q1 q2 H1;generalize W.setCell _ _=W at*;refine(KG (w.heap.size+1) 2 _ _ _ (by decide) (G9 H).cur).mono ?_;rintro e w1 ⟨rfl,hc1,ho1⟩;have H1:=GH ((G9 H).took hc1 ho1);clear hc1 ho1 H W;generalize w1=W at*;simp only[FT]at H1;rw[ML _ _ (by decide)];rw[show un ((b.drop (22+YD b)).take 2)=yT b from rfl];go_wp2_with fail;refine(SI (w.heap.size+1) (yT b) _ _ _ (by omega) (G9 H1).cur).mono ?_;rintro e w2 ⟨rfl,hc2,ho2⟩;have H2:=GH ((G9 H1).took hc2 ho2);clear hc2 ho2 H1 W;generalize w2=W at*;obtain⟨D,hD⟩:∃x,(b.drop (22+YD b+2)).take (yT b)=x:=⟨_,rfl⟩;have lD:D.length<=65536:=by rw[<-hD,FB];omega
 rw[hD];have ED:=GH hD;clear hD;go_wp2_with fail;refine(WV ⟨D.toArray⟩ _ (by rw[DU];show D.length<=_;omega)).mono ?_;rintro e w3 ⟨rfl,hb3⟩;have H1:=GH ((G9 H2).kept hb3);clear hb3 H2 W;generalize w3=W at*;simp only[FT]at H1;have hT:tIn b=⟨x0,x1,x2,P,D,x3,x4⟩:=by
  rw[tIn,G9 E0,G9 E1,G9 E2,G9 E3,G9 E4,G9 EP,show 24+YD b=22+YD b+2 from by omega,G9 ED]
 have HT:=GH hT;have h24:22+YD b+2=24+YD b:=by omega
 have HL:Hid (Unf w W (b.drop (24+YD b+yT b)) (B55 b) ⟨x0,x1,x2,P,[],x3,x4⟩):=GH (by
  have h:=G9 H1;rw[h24]at h;exact h)
 clear hT h24 H1 E0 E1 E2 E3 E4 EP ED;have q0:W.cell? ⟨w.heap.size+1+1,0,G6⟩=G8 (I0 x0):=(G9 HL).txn.c0;have q1:W.cell? ⟨w.heap.size+1+1,1,G6⟩=G8 (I0 x1):=(G9 HL).txn.c1;have q2:W.cell? ⟨w.heap.size+1+1,2,G6⟩=G8 (I0 x2):=(G9 HL).txn.c2;have q3:W.cell? ⟨w.heap.size+1+1,3,G6⟩=G8 (S0 P):=(G9 HL).txn.c3;have q4:W.cell? ⟨w.heap.size+1+1,4,G6⟩=G8 (.string ⟨#[]⟩):=(G9 HL).txn.c4;have q5:W.cell? ⟨w.heap.size+1+1,5,G6⟩=G8 (I0 x3):=(G9 HL).txn.c5;have q6:W.cell? ⟨w.heap.size+1+1,6,G6⟩=G8 (I0 x4):=(G9 HL).txn.c6;have qf:=(G9 HL).txn.f 4;have r0:W.cell? ⟨w.heap.size,0,G6⟩=G8 (I0 0):=(G9 HL).res.c0;have r1:W.cell? ⟨w.heap.size,1,G6⟩=G8 (I0 0):=(G9 HL).res.c1;have r2:W.cell? ⟨w.heap.size,2,G6⟩=G8 (I0 0):=(G9 HL).res.c2;have r3:W.cell? ⟨w.heap.size,3,G6⟩=G8 (.string ⟨#[]⟩):=(G9 HL).res.c3;have r4:W.cell? ⟨w.heap.size,4,G6⟩=G8 (.string ⟨#[]⟩):=(G9 HL).res.c4;have r5:W.cell? ⟨w.heap.size,5,G6⟩=G8 (I0 0):=(G9 HL).res.c5;have r6:W.cell? ⟨w.heap.size,6,G6⟩=G8 (I0 0):=(G9 HL).res.c6;have rf:=(G9 HL).res.f;have CSh:=GH (kM _ _ _ _ ((G9 HL).d D).cur);have CLf:=GH (rP _ _ _ _ ((G9 HL).d D).cur)
 cases hfit:BE0 b
 .have HU:=GH (BZ9 hfit)
  cases hl:B55 b
  .have hR:b.drop (24+YD b+yT b)≠[]:=fun hh=>by
    have h1:=xJ.1 hl;have h2:=congrArg List.length hh;rw[List.length_drop,List.length_nil]at h2;have h3:BE0 b=true:=aH.2 ⟨by omega,by omega⟩;rw[hfit]at h3;exact absurd h3 (by decide)
   rw[hl]at CSh;obtain⟨R,hRR⟩:∃R,b.drop (24+YD b+yT b)=R:=⟨_,rfl⟩;rw[hRR]at CLf hR;have hR':(0:Int)<(R.length:Int):=by have:=List.length_pos_iff.2 hR;omega
   obtain⟨m,hm⟩:∃m,R.length=m:=⟨_,rfl⟩;rw[hm]at CLf hR';clear hRR hl hfit hm hR;go_wp2_with fail;refine(G9 CSh).mono ?_;rintro e wS ⟨rfl,rfl⟩;go_wp2_with fail;refine(G9 CLf).mono ?_;rintro e wL ⟨rfl,rfl⟩;clear CSh CLf;go_wp2_with fail;change bodyPost _ _ _ _ _ (KW (W.setCell ⟨w.heap.size+1+1,4,G6⟩ (S0 D)) w.heap.size t0);have HV:=GH ((G9 HL).d D);generalize W.setCell ⟨w.heap.size+1+1,4,G6⟩ (S0 D)=V at HV⊢;have HP:=GH ((G9 HV).res.store t0);have hB:B0 w (KW V w.heap.size t0):=(NG _ _ _).below (G9 HV).below (AA _);generalize KW V w.heap.size t0=V2 at HP hB⊢;have s0:=(G9 HP).c0;have s1:=(G9 HP).c1;have s2:=(G9 HP).c2;have s3:=(G9 HP).c3;have s4:=(G9 HP).c4;have s5:=(G9 HP).c5;have s6:=(G9 HP).c6;exact bodyPost_ret (v:=.tuple #[JC t0,I0 2]) (by simp[results,results116,go_sem,s0,s1,s2,s3,s4,s5,s6,JC]) rfl ⟨by rw[(G9 HU).1,(G9 HU).2],hB⟩
  .rw[hl]at CSh;clear hl hfit CLf;go_wp2_with fail;refine(G9 CSh).mono ?_;rintro e wS ⟨rfl,rfl⟩;clear CSh;go_wp2_with fail;change bodyPost _ _ _ _ _ (KW (W.setCell ⟨w.heap.size+1+1,4,G6⟩ (S0 D)) w.heap.size t0);have HV:=GH ((G9 HL).d D);generalize W.setCell ⟨w.heap.size+1+1,4,G6⟩ (S0 D)=V at HV⊢;have HP:=GH ((G9 HV).res.store t0);have hB:B0 w (KW V w.heap.size t0):=(NG _ _ _).below (G9 HV).below (AA _);generalize KW V w.heap.size t0=V2 at HP hB⊢;have s0:=(G9 HP).c0;have s1:=(G9 HP).c1;have s2:=(G9 HP).c2;have s3:=(G9 HP).c3;have s4:=(G9 HP).c4;have s5:=(G9 HP).c5;have s6:=(G9 HP).c6;exact bodyPost_ret (v:=.tuple #[JC t0,I0 2]) (by simp[results,results116,go_sem,s0,s1,s2,s3,s4,s5,s6,JC]) rfl ⟨by rw[(G9 HU).1,(G9 HU).2],hB⟩
 .have hl:B55 b=false:=xJ.2 (by have:=aH.1 hfit;omega);have hR:b.drop (24+YD b+yT b)=[]:=List.drop_of_length_le (by have:=aH.1 hfit;omega);rw[hl]at CSh;rw[hR]at CLf;rw[C66 hfit]at HT;have Hfit:=GH hfit;clear hl hR hfit
  cases hg:(gdE (tOf b)==0)
  .have hg':gdE (tOf b)≠0:=by simpa using hg
   have HU:=GH (CG2 (G9 Hfit) hg');obtain⟨E,hE⟩:∃E,gdE (tOf b)=E:=⟨_,rfl⟩;have hne:(E !=0)=true:=by rw[<-hE];simp[bne,hg]
   rw[G9 HT]at hE;rw[G9 HT]at HU;have HE:=GH hE;clear hE hg hg';go_wp2_with fail;refine(G9 CSh).mono ?_;rintro e wS ⟨rfl,rfl⟩;go_wp2_with fail;refine(G9 CLf).mono ?_;rintro e wL ⟨rfl,rfl⟩;clear CSh CLf;go_wp2_with fail;refine(XH ⟨x0,x1,x2,P,D,x3,x4⟩ _ (by show D.length<=_;omega)).mono ?_;rintro e w4 ⟨rfl,hb4⟩;rw[G9 HE];have HV0:=GH ((G9 HL).d D);have HV:=GH ((G9 HV0).kept hb4);clear hb4 HV0 HL q0 q1 q2 q3 q4 q5 q6 qf r0 r1 r2 r3 r4 r5 r6 rf;generalize w4=V at*;have r0:V.cell? ⟨w.heap.size,0,G6⟩=G8 (I0 0):=(G9 HV).res.c0;have r1:V.cell? ⟨w.heap.size,1,G6⟩=G8 (I0 0):=(G9 HV).res.c1;have r2:V.cell? ⟨w.heap.size,2,G6⟩=G8 (I0 0):=(G9 HV).res.c2;have r3:V.cell? ⟨w.heap.size,3,G6⟩=G8 (.string ⟨#[]⟩):=(G9 HV).res.c3;have r4:V.cell? ⟨w.heap.size,4,G6⟩=G8 (.string ⟨#[]⟩):=(G9 HV).res.c4;have r5:V.cell? ⟨w.heap.size,5,G6⟩=G8 (I0 0):=(G9 HV).res.c5;have r6:V.cell? ⟨w.heap.size,6,G6⟩=G8 (I0 0):=(G9 HV).res.c6;have rf:=(G9 HV).res.f;go_wp2_with fail;change bodyPost _ _ _ _ _ (KW V w.heap.size t0);have HP:=GH ((G9 HV).res.store t0);have hB:B0 w (KW V w.heap.size t0):=(NG _ _ _).below (G9 HV).below (AA _);generalize KW V w.heap.size t0=V2 at HP hB⊢;have s0:=(G9 HP).c0;have s1:=(G9 HP).c1;have s2:=(G9 HP).c2;have s3:=(G9 HP).c3;have s4:=(G9 HP).c4;have s5:=(G9 HP).c5;have s6:=(G9 HP).c6;exact bodyPost_ret (v:=.tuple #[JC t0,I0 E]) (by simp[results,results116,go_sem,s0,s1,s2,s3,s4,s5,s6,JC]) rfl ⟨by rw[(G9 HU).1,(G9 HU).2,G9 HE],hB⟩
  .have hg':gdE (tOf b)=0:=by simpa using hg
   have HU:=GH (CG3 (G9 Hfit) hg');rw[G9 HT]at hg' HU;have HE:=GH hg';clear hg hg';go_wp2_with fail;refine(G9 CSh).mono ?_;rintro e wS ⟨rfl,rfl⟩;go_wp2_with fail;refine(G9 CLf).mono ?_;rintro e wL ⟨rfl,rfl⟩;clear CSh CLf;go_wp2_with fail;refine(XH ⟨x0,x1,x2,P,D,x3,x4⟩ _ (by show D.length<=_;omega)).mono ?_;rintro e w4 ⟨rfl,hb4⟩;rw[G9 HE];have HV0:=GH ((G9 HL).d D);have HV:=GH ((G9 HV0).kept hb4);clear hb4 HV0 HL q0 q1 q2 q3 q4 q5 q6 qf r0 r1 r2 r3 r4 r5 r6 rf;generalize w4=V at*;have q0:V.cell? ⟨w.heap.size+1+1,0,G6⟩=G8 (I0 x0):=(G9 HV).txn.c0;have q1:V.cell? ⟨w.heap.size+1+1,1,G6⟩=G8 (I0 x1):=(G9 HV).txn.c1;have q2:V.cell? ⟨w.heap.size+1+1,2,G6⟩=G8 (I0 x2):=(G9 HV).txn.c2;have q3:V.cell? ⟨w.heap.size+1+1,3,G6⟩=G8 (S0 P):=(G9 HV).txn.c3;have q4:V.cell? ⟨w.heap.size+1+1,4,G6⟩=G8 (S0 D):=(G9 HV).txn.c4;have q5:V.cell? ⟨w.heap.size+1+1,5,G6⟩=G8 (I0 x3):=(G9 HV).txn.c5;have q6:V.cell? ⟨w.heap.size+1+1,6,G6⟩=G8 (I0 x4):=(G9 HV).txn.c6;have r0:V.cell? ⟨w.heap.size,0,G6⟩=G8 (I0 0):=(G9 HV).res.c0;have r1:V.cell? ⟨w.heap.size,1,G6⟩=G8 (I0 0):=(G9 HV).res.c1;have r2:V.cell? ⟨w.heap.size,2,G6⟩=G8 (I0 0):=(G9 HV).res.c2;have r3:V.cell? ⟨w.heap.size,3,G6⟩=G8 (.string ⟨#[]⟩):=(G9 HV).res.c3;have r4:V.cell? ⟨w.heap.size,4,G6⟩=G8 (.string ⟨#[]⟩):=(G9 HV).res.c4;have r5:V.cell? ⟨w.heap.size,5,G6⟩=G8 (I0 0):=(G9 HV).res.c5;have r6:V.cell? ⟨w.heap.size,6,G6⟩=G8 (I0 0):=(G9 HV).res.c6;have rf:=(G9 HV).res.f;go_wp2_with fail;change bodyPost _ _ _ _ _ (KW V w.heap.size ⟨x0,x1,x2,P,D,x3,x4⟩);have HP:=GH ((G9 HV).res.store ⟨x0,x1,x2,P,D,x3,x4⟩);have hB:B0 w (KW V w.heap.size ⟨x0,x1,x2,P,D,x3,x4⟩):=(NG _ _ _).below (G9 HV).below (AA _);generalize KW V w.heap.size ⟨x0,x1,x2,P,D,x3,x4⟩=V2 at HP hB⊢;have s0:=(G9 HP).c0;have s1:=(G9 HP).c1;have s2:=(G9 HP).c2;have s3:=(G9 HP).c3;have s4:=(G9 HP).c4;have s5:=(G9 HP).c5;have s6:=(G9 HP).c6;exact bodyPost_ret (v:=.tuple #[JC ⟨x0,x1,x2,P,D,x3,x4⟩,I0 0]) (by simp[results,results116,go_sem,s0,s1,s2,s3,s4,s5,s6,JC]) rfl ⟨by rw[(G9 HU).1,(G9 HU).2],hB⟩
structure Dec(w W:FX)(r:List UInt8)(b:Bool):Prop where
 res:KC W w.heap.size t0
 cur:Cur W (w.heap.size+1) r b
 size:w.heap.size+2<=W.heap.size
 below:B0 w W
theorem Dec.took{w:FX}{r':List UInt8}{b':Bool}(h:Dec w W r b)(hc:Cur V (w.heap.size+1) r' b')(ho:Only (w.heap.size+1) W V):Dec w V r' b':=
 ⟨h.res.other ho (by omega),hc,by rw[ho.size];exact h.size,ho.below h.below (by omega)⟩
theorem Dec.kept{w:FX}(h:Dec w W r b)(hb:B0 W V):Dec w V r b:=
 ⟨h.res.kept hb (by have:=h.size;omega),h.cur.kept hb (by have:=h.size;omega),BP h.size hb.size,h.below.trans (hb.mono h.below.size)⟩
theorem Dec.new{w:FX}{s:List UInt8}:Dec w ((w.alloc (FW #[I0 0,I0 0,I0 0,.string ⟨#[]⟩,.string ⟨#[]⟩,I0 0,I0 0] 59)).alloc (FW #[S0 s,.bool false] 231)) s false:=by
 refine⟨?_,?_,by simp,((AB _ _).alloc (AA _) _).alloc (by simp) _⟩
 .exact(Below.heap_alloc _ _ _ (by simp)).trans (bU _ _)
 .have:=bU (w.alloc (FW #[I0 0,I0 0,I0 0,.string ⟨#[]⟩,.string ⟨#[]⟩,I0 0,I0 0] 59)) (FW #[S0 s,.bool false] 231);rwa[FU]at this
theorem BO0(s:List UInt8):lenOf s<65536:=by
 have h:=BE7 ((s.drop 1).take 2);have h2:((s.drop 1).take 2).length<=2:=List.length_take_le _ _;have h3:256^((s.drop 1).take 2).length<=256^2:=Nat.pow_le_pow_right (by decide) h2;unfold lenOf;omega
def A38(s:List UInt8):Bool:=false||decide (s.length<1)||decide ((s.drop 1).length<2)||decide ((s.drop 3).length<lenOf s)||decide ((s.drop (3+lenOf s)).length<4)
theorem xM{s:List UInt8}:A38 s=false↔lenOf s+7<=s.length:=by
 simp only[A38,Bool.or_eq_false_iff,decide_eq_false_iff_not,List.length_drop,true_and];omega
theorem C68{a b:FZ}{i j k l:Int}(h:a=b)(h1:i=j)(h2:k=l):DY (.tuple #[a,I0 i,I0 k])=.returned (.tuple #[b,I0 j,I0 l]):=by rw[h,h1,h2]
theorem A39(s:List UInt8)(w:FX)(hm:s.take 1≠[84]):
  G5 prog 71 #[S0 s] w (R0 w (.tuple #[JC (nD s),I0 (tZ s),I0 (dM s)])):=by
 have HU:=GH (dO (s:=s) (aG (fun h=>hm h.1)));have hlt:=BO0 s;obtain⟨T,hT⟩:∃T,s.take 1=T:=⟨_,rfl⟩;rw[hT]at hm;have hm':(T==[84])=false:=by simpa using hm
 have ET:=GH hT;clear hT hm;go_enter func71,ntmps71;go_wp2_with fail;refine(XL s _).mono ?_;rintro e wA ⟨rfl,rfl⟩;go_wp2_with fail;have H:=GH (Dec.new (w:=w) (s:=s));generalize (w.alloc _).alloc _=W at H⊢;refine(SI (w.heap.size+1) 1 _ _ _ (by decide) (G9 H).cur).mono ?_;rintro e w1 ⟨rfl,hc1,ho1⟩;replace H:=GH ((G9 H).took hc1 ho1);clear hc1 ho1 W;generalize w1=W at*;rw[G9 ET];go_wp2_with fail;refine(KG (w.heap.size+1) 2 _ _ _ (by decide) (G9 H).cur).mono ?_;rintro e w1 ⟨rfl,hc1,ho1⟩;replace H:=GH ((G9 H).took hc1 ho1);clear hc1 ho1 W;generalize w1=W at*;rw[ML _ _ (by decide)];rw[show un ((s.drop 1).take 2)=lenOf s from rfl];simp only[FT,Nat.reduceAdd]at H;obtain⟨L,hL⟩:∃L,lenOf s=L:=⟨_,rfl⟩;rw[hL]at hlt⊢;have EL:=GH hL;clear hL;have r0:W.cell? ⟨w.heap.size,0,G6⟩=G8 (I0 0):=(G9 H).res.c0;have r1:W.cell? ⟨w.heap.size,1,G6⟩=G8 (I0 0):=(G9 H).res.c1;have r2:W.cell? ⟨w.heap.size,2,G6⟩=G8 (I0 0):=(G9 H).res.c2;have r3:W.cell? ⟨w.heap.size,3,G6⟩=G8 (.string ⟨#[]⟩):=(G9 H).res.c3;have r4:W.cell? ⟨w.heap.size,4,G6⟩=G8 (.string ⟨#[]⟩):=(G9 H).res.c4;have r5:W.cell? ⟨w.heap.size,5,G6⟩=G8 (I0 0):=(G9 H).res.c5;have r6:W.cell? ⟨w.heap.size,6,G6⟩=G8 (I0 0):=(G9 H).res.c6;have rf:=(G9 H).res.f;go_wp2_with fail;change bodyPost _ _ _ _ _ (KW W w.heap.size t0);have HP:=GH ((G9 H).res.store t0);have hB:B0 w (KW W w.heap.size t0):=(NG _ _ _).below (G9 H).below (AA _);generalize KW W w.heap.size t0=V2 at HP hB⊢;have s0:=(G9 HP).c0;have s1:=(G9 HP).c1;have s2:=(G9 HP).c2;have s3:=(G9 HP).c3;have s4:=(G9 HP).c4;have s5:=(G9 HP).c5;have s6:=(G9 HP).c6;exact bodyPost_ret (v:=.tuple #[JC t0,I0 0,I0 2]) (by simp[results,results71,go_sem,s0,s1,s2,s3,s4,s5,s6,JC]) rfl ⟨by rw[(G9 HU).1,(G9 HU).2.1,(G9 HU).2.2],hB⟩
theorem A40(s:List UInt8)(w:FX)(hm:s.take 1=[84])(hl:1024<lenOf s):
  G5 prog 71 #[S0 s] w (R0 w (.tuple #[JC (nD s),I0 (tZ s),I0 (dM s)])):=by
 have HU:=GH (dO (s:=s) (aG (fun h=>by omega)));have ET:=GH hm;clear hm;go_enter func71,ntmps71;go_wp2_with fail;refine(XL s _).mono ?_;rintro e wA ⟨rfl,rfl⟩;go_wp2_with fail;have H:=GH (Dec.new (w:=w) (s:=s));generalize (w.alloc _).alloc _=W at H⊢;refine(SI (w.heap.size+1) 1 _ _ _ (by decide) (G9 H).cur).mono ?_;rintro e w1 ⟨rfl,hc1,ho1⟩;replace H:=GH ((G9 H).took hc1 ho1);clear hc1 ho1 W;generalize w1=W at*;rw[G9 ET];go_wp2_with fail;refine(KG (w.heap.size+1) 2 _ _ _ (by decide) (G9 H).cur).mono ?_;rintro e w1 ⟨rfl,hc1,ho1⟩;replace H:=GH ((G9 H).took hc1 ho1);clear hc1 ho1 W;generalize w1=W at*;rw[ML _ _ (by decide)];rw[show un ((s.drop 1).take 2)=lenOf s from rfl];simp only[FT,Nat.reduceAdd]at H;obtain⟨L,hL⟩:∃L,lenOf s=L:=⟨_,rfl⟩;rw[hL]at hl⊢;have EL:=GH hL;clear hL;have r0:W.cell? ⟨w.heap.size,0,G6⟩=G8 (I0 0):=(G9 H).res.c0;have r1:W.cell? ⟨w.heap.size,1,G6⟩=G8 (I0 0):=(G9 H).res.c1;have r2:W.cell? ⟨w.heap.size,2,G6⟩=G8 (I0 0):=(G9 H).res.c2;have r3:W.cell? ⟨w.heap.size,3,G6⟩=G8 (.string ⟨#[]⟩):=(G9 H).res.c3;have r4:W.cell? ⟨w.heap.size,4,G6⟩=G8 (.string ⟨#[]⟩):=(G9 H).res.c4;have r5:W.cell? ⟨w.heap.size,5,G6⟩=G8 (I0 0):=(G9 H).res.c5;have r6:W.cell? ⟨w.heap.size,6,G6⟩=G8 (I0 0):=(G9 H).res.c6;have rf:=(G9 H).res.f;go_wp2_with fail;change bodyPost _ _ _ _ _ (KW W w.heap.size t0);have HP:=GH ((G9 H).res.store t0);have hB:B0 w (KW W w.heap.size t0):=(NG _ _ _).below (G9 H).below (AA _);generalize KW W w.heap.size t0=V2 at HP hB⊢;have s0:=(G9 HP).c0;have s1:=(G9 HP).c1;have s2:=(G9 HP).c2;have s3:=(G9 HP).c3;have s4:=(G9 HP).c4;have s5:=(G9 HP).c5;have s6:=(G9 HP).c6;exact bodyPost_ret (v:=.tuple #[JC t0,I0 0,I0 2]) (by simp[results,results71,go_sem,s0,s1,s2,s3,s4,s5,s6,JC]) rfl ⟨by rw[(G9 HU).1,(G9 HU).2.1,(G9 HU).2.2],hB⟩
theorem xO(s:List UInt8)(w:FX)(hs:s.length<=140737488355328)(hm:s.take 1=[84])(hl:lenOf s<=1024)(hn:s.length<lenOf s+7):
  G5 prog 71 #[S0 s] w (R0 w (.tuple #[JC (nD s),I0 (tZ s),I0 (dM s)])):=by
 have HU:=GH (dO (s:=s) (aG (fun h=>by omega)));have hlk:A38 s=true:=by
  cases h:A38 s with
  |true=>rfl
  |false=>have:=xM.1 h;omega
 have HK:=GH hlk;have ET:=GH hm;clear hm hlk;go_enter func71,ntmps71;go_wp2_with fail;refine(XL s _).mono ?_;rintro e wA ⟨rfl,rfl⟩;go_wp2_with fail;have H:=GH (Dec.new (w:=w) (s:=s));generalize (w.alloc _).alloc _=W at H⊢;refine(SI (w.heap.size+1) 1 _ _ _ (by decide) (G9 H).cur).mono ?_;rintro e w1 ⟨rfl,hc1,ho1⟩;replace H:=GH ((G9 H).took hc1 ho1);clear hc1 ho1 W;generalize w1=W at*;rw[G9 ET];go_wp2_with fail;refine(KG (w.heap.size+1) 2 _ _ _ (by decide) (G9 H).cur).mono ?_;rintro e w1 ⟨rfl,hc1,ho1⟩;replace H:=GH ((G9 H).took hc1 ho1);clear hc1 ho1 W;generalize w1=W at*;rw[ML _ _ (by decide)];rw[show un ((s.drop 1).take 2)=lenOf s from rfl];simp only[FT,Nat.reduceAdd]at H;obtain⟨L,hL⟩:∃L,lenOf s=L:=⟨_,rfl⟩;rw[hL]at hl hn⊢;have EL:=GH hL;clear hL;go_wp2_with fail;refine(SI (w.heap.size+1) L _ _ _ (by omega) (G9 H).cur).mono ?_;rintro e w1 ⟨rfl,hc1,ho1⟩;replace H:=GH ((G9 H).took hc1 ho1);clear hc1 ho1 W;generalize w1=W at*;simp only[FT]at H;have CL:=GH (rP (w.heap.size+1) _ _ _ (G9 H).cur);rw[List.length_drop]at CL;have hzs:(AU s.toArray).size=s.length:=DU ⟨s.toArray⟩;go_wp2_with fail;refine(G9 CL).mono ?_;rintro e wL ⟨rfl,hwL⟩;rw[hwL];clear hwL;clear CL;go_wp2_with fail;refine(KG (w.heap.size+1) 4 _ _ _ (by decide) (G9 H).cur).mono ?_;rintro e w1 ⟨rfl,hc1,ho1⟩;replace H:=GH ((G9 H).took hc1 ho1);clear hc1 ho1 W;generalize w1=W at*;simp only[FT]at H;have cc1:=(G9 H).cur;rw[<-G9 EL]at cc1;have cc2:Cur W (w.heap.size+1) _ (A38 s):=cc1;rw[G9 HK]at cc2;have CSh:=GH (kM _ _ _ _ cc2);clear cc1 cc2;go_wp2_with fail;refine(G9 CSh).mono ?_;rintro e wS ⟨rfl,hwS⟩;rw[hwS];clear hwS;clear CSh;have r0:W.cell? ⟨w.heap.size,0,G6⟩=G8 (I0 0):=(G9 H).res.c0;have r1:W.cell? ⟨w.heap.size,1,G6⟩=G8 (I0 0):=(G9 H).res.c1;have r2:W.cell? ⟨w.heap.size,2,G6⟩=G8 (I0 0):=(G9 H).res.c2;have r3:W.cell? ⟨w.heap.size,3,G6⟩=G8 (.string ⟨#[]⟩):=(G9 H).res.c3;have r4:W.cell? ⟨w.heap.size,4,G6⟩=G8 (.string ⟨#[]⟩):=(G9 H).res.c4;have r5:W.cell? ⟨w.heap.size,5,G6⟩=G8 (I0 0):=(G9 H).res.c5;have r6:W.cell? ⟨w.heap.size,6,G6⟩=G8 (I0 0):=(G9 H).res.c6;have rf:=(G9 H).res.f;go_wp2_with fail;change bodyPost _ _ _ _ _ (KW W w.heap.size t0);have HP:=GH ((G9 H).res.store t0);have hB:B0 w (KW W w.heap.size t0):=(NG _ _ _).below (G9 H).below (AA _);generalize KW W w.heap.size t0=V2 at HP hB⊢;have s0:=(G9 HP).c0;have s1:=(G9 HP).c1;have s2:=(G9 HP).c2;have s3:=(G9 HP).c3;have s4:=(G9 HP).c4;have s5:=(G9 HP).c5;have s6:=(G9 HP).c6;exact bodyPost_ret (v:=.tuple #[JC t0,I0 0,I0 2]) (by simp[results,results71,go_sem,s0,s1,s2,s3,s4,s5,s6,JC]) rfl ⟨by rw[(G9 HU).1,(G9 HU).2.1,(G9 HU).2.2],hB⟩
theorem xP(s:List UInt8)(w:FX)(hm:s.take 1=[84])(hl:lenOf s<=1024)(hn:lenOf s+7<=s.length):
  G5 prog 71 #[S0 s] w (R0 w (.tuple #[JC (nD s),I0 (tZ s),I0 (dM s)])):=by
 have HW:=GH (dP.2 ⟨hm,hl,hn⟩);have hlk:A38 s=false:=xM.2 hn;have HK:=GH hlk;have ET:=GH hm;clear hm hlk;go_enter func71,ntmps71;go_wp2_with fail;refine(XL s _).mono ?_;rintro e wA ⟨rfl,rfl⟩;go_wp2_with fail;have H:=GH (Dec.new (w:=w) (s:=s));generalize (w.alloc _).alloc _=W at H⊢;refine(SI (w.heap.size+1) 1 _ _ _ (by decide) (G9 H).cur).mono ?_;rintro e w1 ⟨rfl,hc1,ho1⟩;replace H:=GH ((G9 H).took hc1 ho1);clear hc1 ho1 W;generalize w1=W at*;rw[G9 ET];go_wp2_with fail;refine(KG (w.heap.size+1) 2 _ _ _ (by decide) (G9 H).cur).mono ?_;rintro e w1 ⟨rfl,hc1,ho1⟩;replace H:=GH ((G9 H).took hc1 ho1);clear hc1 ho1 W;generalize w1=W at*;rw[ML _ _ (by decide)];rw[show un ((s.drop 1).take 2)=lenOf s from rfl];simp only[FT,Nat.reduceAdd]at H;obtain⟨L,hL⟩:∃L,lenOf s=L:=⟨_,rfl⟩;rw[hL]at hl hn⊢;have EL:=GH hL;clear hL;go_wp2_with fail;refine(SI (w.heap.size+1) L _ _ _ (by omega) (G9 H).cur).mono ?_;rintro e w1 ⟨rfl,hc1,ho1⟩;replace H:=GH ((G9 H).took hc1 ho1);clear hc1 ho1 W;generalize w1=W at*;simp only[FT]at H;obtain⟨B,hB⟩:∃B,(s.drop 3).take L=B:=⟨_,rfl⟩;rw[hB];have EB:=GH hB;clear hB;have CL:=GH (rP (w.heap.size+1) _ _ _ (G9 H).cur);rw[List.length_drop]at CL;have hzs:(AU s.toArray).size=s.length:=DU ⟨s.toArray⟩;obtain⟨M,hM⟩:∃M,s.length-(3+L)=M:=⟨_,rfl⟩;rw[hM]at CL;have hM2:s.length=M+(L+3):=by omega
 obtain⟨Y,hY⟩:∃Y,s.drop (3+L)=Y:=⟨_,rfl⟩;have EY:=GH hY;have HM:=GH hM2;clear hY hM hM2;go_wp2_with fail;refine(G9 CL).mono ?_;rintro e wL ⟨rfl,hwL⟩;rw[hwL];clear hwL;clear CL;go_wp2_with fail;refine(KG (w.heap.size+1) 4 _ _ _ (by decide) (G9 H).cur).mono ?_;rintro e w1 ⟨rfl,hc1,ho1⟩;replace H:=GH ((G9 H).took hc1 ho1);clear hc1 ho1 W;generalize w1=W at*;simp only[FT]at H;have cc1:=(G9 H).cur;rw[<-G9 EL]at cc1;have cc3:Cur W (w.heap.size+1) _ (A38 s):=cc1;rw[G9 HK]at cc3;have CSh:=GH (kM _ _ _ _ cc3);have cc2:=cc3.c1;clear cc1 cc3;rw[ML _ _ (by decide),show 3+L=L+3 from by omega];obtain⟨Q,hQ⟩:∃Q,un ((s.drop (L+3)).take 4)=Q:=⟨_,rfl⟩;rw[hQ];have EQ:=GH hQ;clear hQ;have hd3:wrap64 ((s.length:Int)-(M:Int))=(L:Int)+3:=by have:=G9 HM;unfold wrap64;omega
 rw[hd3];clear hd3;have c1:(0:Int)<=(L:Int)+3:=by omega
 have c2:(L:Int)+3<=(s.length:Int):=by omega
 go_wp2_with fail;refine(G9 CSh).mono ?_;rintro e wS ⟨rfl,hwS⟩;rw[hwS];clear hwS;clear CSh;go_wp2_with fail;rw[rO];have hzp:(AU (s.take (L+3)).toArray).size=(s.take (L+3)).length:=DU ⟨_⟩;rw[FB]at hzp;refine(AC4 ⟨(s.take (L+3)).toArray⟩ _ (by omega)).mono ?_;rintro e w6 ⟨rfl,hw6⟩;rw[hw6];clear hzp hw6;rw[show (AU (s.take (L+3)).toArray).data.toList=s.take (L+3)from rfl];obtain⟨X,hX⟩:∃X,A70 (s.take (L+3))=X:=⟨_,rfl⟩;rw[hX];have EX:=GH hX;clear hX;by_cases hXQ:X=Q
 .subst hXQ;have CT1:Hid (AT3 s=true):=GH (A71.2 (by rw[G9 EL,G9 EQ,G9 EX]));have Hin:Hid (VF s=B):=GH (by rw[VF,G9 EL,G9 EB]);go_wp2_with fail;refine(AO3 B _).mono ?_;rintro e w5 ⟨rfl,hb5⟩;replace H:=GH ((G9 H).kept hb5);clear hb5 cc2 W;generalize w5=W at*;by_cases hE:tY B=0
  .have HU:=GH (BW1 (G9 HW) (G9 CT1) (by rw[G9 Hin];exact hE));have Ht:Hid (AT2 B=tOf B):=GH (by rw[AT2,hE,if_pos rfl]);rw[hE,G9 Ht];rw[G9 Hin,G9 EL]at HU;obtain⟨t,ht⟩:∃t,tOf B=t:=⟨_,rfl⟩;rw[ht]at HU⊢;clear ht hE Ht;obtain⟨z,o,s',p,d,v,u⟩:=t;unfold JC;have r0:W.cell? ⟨w.heap.size,0,G6⟩=G8 (I0 0):=(G9 H).res.c0;have r1:W.cell? ⟨w.heap.size,1,G6⟩=G8 (I0 0):=(G9 H).res.c1;have r2:W.cell? ⟨w.heap.size,2,G6⟩=G8 (I0 0):=(G9 H).res.c2;have r3:W.cell? ⟨w.heap.size,3,G6⟩=G8 (.string ⟨#[]⟩):=(G9 H).res.c3;have r4:W.cell? ⟨w.heap.size,4,G6⟩=G8 (.string ⟨#[]⟩):=(G9 H).res.c4;have r5:W.cell? ⟨w.heap.size,5,G6⟩=G8 (I0 0):=(G9 H).res.c5;have r6:W.cell? ⟨w.heap.size,6,G6⟩=G8 (I0 0):=(G9 H).res.c6;have rf:=(G9 H).res.f;have hlt2:w.heap.size<W.heap.size:=by have:=(G9 H).size;omega
   go_wp2_with fail;change bodyPost _ _ _ _ _ ((KW W w.heap.size ⟨z,o,s',p,d,v,u⟩).alloc (FW #[I0 z,I0 o,I0 s',S0 p,S0 d,I0 v,I0 u] 59));have HP:=GH (((G9 H).res.store ⟨z,o,s',p,d,v,u⟩).kept ((AB _ _).alloc (AA _) (FW #[I0 z,I0 o,I0 s',S0 p,S0 d,I0 v,I0 u] 59)) (by rw[(NG _ _ _).size];exact hlt2));have hB:B0 w ((KW W w.heap.size ⟨z,o,s',p,d,v,u⟩).alloc (FW #[I0 z,I0 o,I0 s',S0 p,S0 d,I0 v,I0 u] 59)):=((NG _ _ _).below (G9 H).below (AA _)).alloc (by rw[(NG _ _ _).size];exact Nat.le_of_lt hlt2) _;generalize (KW W w.heap.size ⟨z,o,s',p,d,v,u⟩).alloc (FW #[I0 z,I0 o,I0 s',S0 p,S0 d,I0 v,I0 u] 59)=V2 at HP hB⊢;have s0:=(G9 HP).c0;have s1:=(G9 HP).c1;have s2:=(G9 HP).c2;have s3:=(G9 HP).c3;have s4:=(G9 HP).c4;have s5:=(G9 HP).c5;have s6:=(G9 HP).c6;exact bodyPost_ret (v:=.tuple #[JC ⟨z,o,s',p,d,v,u⟩,I0 ((L:Int)+3+4),I0 0]) (by simp[results,results71,go_sem,s0,s1,s2,s3,s4,s5,s6,JC]) rfl ⟨C68 (by rw[(G9 HU).2.1]) (by rw[(G9 HU).2.2];omega) (G9 HU).1.symm,hB⟩
  .have HU:=GH (BF1 (G9 HW) (G9 CT1) (by rw[G9 Hin]) hE);have Ht:Hid (AT2 B=t0):=GH (by rw[AT2,if_neg hE]);rw[G9 Ht];obtain⟨E,hEE⟩:∃E,tY B=E:=⟨_,rfl⟩;rw[hEE]at HU hE⊢;have hne:(E !=0)=true:=by simpa [bne]using hE
   clear hEE hE Ht;unfold JC t0;have r0:W.cell? ⟨w.heap.size,0,G6⟩=G8 (I0 0):=(G9 H).res.c0;have r1:W.cell? ⟨w.heap.size,1,G6⟩=G8 (I0 0):=(G9 H).res.c1;have r2:W.cell? ⟨w.heap.size,2,G6⟩=G8 (I0 0):=(G9 H).res.c2;have r3:W.cell? ⟨w.heap.size,3,G6⟩=G8 (.string ⟨#[]⟩):=(G9 H).res.c3;have r4:W.cell? ⟨w.heap.size,4,G6⟩=G8 (.string ⟨#[]⟩):=(G9 H).res.c4;have r5:W.cell? ⟨w.heap.size,5,G6⟩=G8 (I0 0):=(G9 H).res.c5;have r6:W.cell? ⟨w.heap.size,6,G6⟩=G8 (I0 0):=(G9 H).res.c6;have rf:=(G9 H).res.f;have hlt2:w.heap.size<W.heap.size:=by have:=(G9 H).size;omega
   go_wp2_with fail;change bodyPost _ _ _ _ _ ((KW W w.heap.size t0).alloc (FW #[I0 0,I0 0,I0 0,.string ⟨#[]⟩,.string ⟨#[]⟩,I0 0,I0 0] 59));have HP:=GH (((G9 H).res.store t0).kept ((AB _ _).alloc (AA _) (FW #[I0 0,I0 0,I0 0,.string ⟨#[]⟩,.string ⟨#[]⟩,I0 0,I0 0] 59)) (by rw[(NG _ _ _).size];exact hlt2));have hB:B0 w ((KW W w.heap.size t0).alloc (FW #[I0 0,I0 0,I0 0,.string ⟨#[]⟩,.string ⟨#[]⟩,I0 0,I0 0] 59)):=((NG _ _ _).below (G9 H).below (AA _)).alloc (by rw[(NG _ _ _).size];exact Nat.le_of_lt hlt2) _;generalize (KW W w.heap.size t0).alloc (FW #[I0 0,I0 0,I0 0,.string ⟨#[]⟩,.string ⟨#[]⟩,I0 0,I0 0] 59)=V2 at HP hB⊢;have s0:=(G9 HP).c0;have s1:=(G9 HP).c1;have s2:=(G9 HP).c2;have s3:=(G9 HP).c3;have s4:=(G9 HP).c4;have s5:=(G9 HP).c5;have s6:=(G9 HP).c6;exact bodyPost_ret (v:=.tuple #[JC t0,I0 0,I0 E]) (by simp[results,results71,go_sem,s0,s1,s2,s3,s4,s5,s6,JC]) rfl ⟨by rw[(G9 HU).1,(G9 HU).2.1,(G9 HU).2.2],hB⟩
 .have CT1:Hid (AT3 s=false):=GH (by
   cases h:AT3 s with
   |false=>rfl
   |true=>
    have h2:=A71.1 h;rw[G9 EL,G9 EQ,G9 EX]at h2;exact absurd h2.symm hXQ)
  have HU:=GH (BZ8 (G9 HW) (G9 CT1));have hne:((X:Int) !=(Q:Int))=true:=by simp[bne];omega
  have r0:W.cell? ⟨w.heap.size,0,G6⟩=G8 (I0 0):=(G9 H).res.c0;have r1:W.cell? ⟨w.heap.size,1,G6⟩=G8 (I0 0):=(G9 H).res.c1;have r2:W.cell? ⟨w.heap.size,2,G6⟩=G8 (I0 0):=(G9 H).res.c2;have r3:W.cell? ⟨w.heap.size,3,G6⟩=G8 (.string ⟨#[]⟩):=(G9 H).res.c3;have r4:W.cell? ⟨w.heap.size,4,G6⟩=G8 (.string ⟨#[]⟩):=(G9 H).res.c4;have r5:W.cell? ⟨w.heap.size,5,G6⟩=G8 (I0 0):=(G9 H).res.c5;have r6:W.cell? ⟨w.heap.size,6,G6⟩=G8 (I0 0):=(G9 H).res.c6;have rf:=(G9 H).res.f;go_wp2_with fail;change bodyPost _ _ _ _ _ (KW W w.heap.size t0);have HP:=GH ((G9 H).res.store t0);have hB:B0 w (KW W w.heap.size t0):=(NG _ _ _).below (G9 H).below (AA _);generalize KW W w.heap.size t0=V2 at HP hB⊢;have s0:=(G9 HP).c0;have s1:=(G9 HP).c1;have s2:=(G9 HP).c2;have s3:=(G9 HP).c3;have s4:=(G9 HP).c4;have s5:=(G9 HP).c5;have s6:=(G9 HP).c6;exact bodyPost_ret (v:=.tuple #[JC t0,I0 0,I0 5]) (by simp[results,results71,go_sem,s0,s1,s2,s3,s4,s5,s6,JC]) rfl ⟨by rw[(G9 HU).1,(G9 HU).2.1,(G9 HU).2.2],hB⟩
theorem AO5(s:List UInt8)(w:FX)(hs:s.length<=140737488355328):
  G5 prog 71 #[S0 s] w (R0 w (.tuple #[JC (nD s),I0 (tZ s),I0 (dM s)])):=by
 by_cases hm:s.take 1=[84]
 .by_cases hl:lenOf s<=1024
  .by_cases hn:lenOf s+7<=s.length
   .exact xP s w hm hl hn
   .exact xO s w hs hm hl (by omega)
  .exact A40 s w hm (by omega)
 .exact A39 s w hm
