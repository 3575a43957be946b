/-
  Part.
-/
import Derived.Test.YthcncjimjclfpaaGreatDoorLSE
import Derived.Test.YthcncjimjclfpaaGreatDoorLSB
set_option maxRecDepth 20000
set_option maxHeartbeats 8000000
namespace Go.Proofs.YthcncjimjclfpaaGreatDoor
open Go.RowKit Go.Proofs.Tryz
open _root_.Nat renaming le_refl->A8,zero_le->AY,le_trans->BM,mul_comm->DC
open Go.RowKit.Below renaming refl->AA
open _root_.Array renaming getElem?_eq_some_iff->AB,getElem?_eq_getElem->BP
open _root_.ByteArray renaming mk->AQ
open Go.World renaming cell?->AV,frozen?->F7,size_alloc->FP
open _root_.List renaming take_of_length_le->BL,append_assoc->BQ,take_length->DU,length_take->F6,drop_drop->FM
open Go.Lib renaming size_eq->DK
open Go.Ending renaming returned->DV
open Go.Obj renaming cells->FT
open Go renaming World->FU,Value->FV,Calls->FW
open _root_.Option renaming none->FX,some->FZ
variable{W V:FU}{a:Int}{b:Bool}{t:GI}{g B:Nat}{r l:List UInt8}
theorem A29{w1:FU}(hb:B0 W w1):(∀b o,b<W.heap.size->w1.cell? ⟨b,o,FX⟩=W.cell? ⟨b,o,FX⟩)/\(∀b o,b<W.heap.size->w1.frozen? ⟨b,o,FX⟩=W.frozen? ⟨b,o,FX⟩):=
 ⟨fun b o h=>hb.cell (p:=⟨b,o,FX⟩) h,fun b o h=>hb.frozen (p:=⟨b,o,FX⟩) h⟩
theorem JK(n k:Int)(w:FU):
  FW prog 189 #[I0 n,I0 k] w fun e w'=>e=.returned (.bool (mP n k))/\w'=w:=by
 go_enter func189,ntmps189
 go_wp2
 all_goals go_ret
 all_goals exact⟨SQ (by rw[Bool.eq_iff_iff,TK];simp;try omega),rfl⟩
theorem TN{w:FU}{o:Obj}{w1:FU}(h:Below (w.alloc o).heap.size (w.alloc o) w1):B0 w w1:=
 ((AA _ _).alloc (A8 _) _).trans (h.mono (by simp))
theorem BK6{o:Int}(h:opB o=true):o=1\/o=2\/o=3\/o=4\/o=5:=by have:=jE.1 h;omega
theorem fm_1(z s:Int)(p d:List UInt8)(v u:Int):fmB ⟨z,1,s,p,d,v,u⟩=(p==[]&&d==[]&&v==0&&u==0):=rfl
theorem fm_2(z s:Int)(p d:List UInt8)(v u:Int):fmB ⟨z,2,s,p,d,v,u⟩=(p==[]&&d==[]&&v==0&&u==0):=rfl
theorem fm_3(z s:Int)(p d:List UInt8)(v u:Int):fmB ⟨z,3,s,p,d,v,u⟩=(II p&& !(p==[47])&&v==0):=rfl
theorem fm_4(z s:Int)(p d:List UInt8)(v u:Int):fmB ⟨z,4,s,p,d,v,u⟩=(II p&& !(p==[47])&&d==[]&&v==0&&u==0):=rfl
theorem fm_5(z s:Int)(p d:List UInt8)(v u:Int):fmB ⟨z,5,s,p,d,v,u⟩=(II p&&u==0):=rfl
theorem BK7(z s:Int)(p d:List UInt8)(v u:Int)(w:FU):
  FW prog 190 #[.agg #[I0 z,I0 1,I0 s,S0 p,S0 d,I0 v,I0 u]] w (R0 w (.bool (fmB ⟨z,1,s,p,d,v,u⟩))):=by
 rw[fm_1]
 cases hg:II p
 all_goals
  have Hg:=G6 hg;clear hg;go_enter func190,ntmps190;go_wp2_with fail;refine(LY _ _).mono ?_;rintro e w1 ⟨rfl,hb1⟩;have hbz:=TN hb1;obtain⟨hc,hf⟩:=A29 hb1;rw[show (AQ p.toArray).data.toList=p from rfl,G5 Hg];go_wp2_with fail
  all_goals go_ret
  all_goals (clear hc hf hb1)
  all_goals (refine⟨SQ ?_,hbz⟩;clear hbz Hg;simp[*])
theorem BK8(z s:Int)(p d:List UInt8)(v u:Int)(w:FU):
  FW prog 190 #[.agg #[I0 z,I0 2,I0 s,S0 p,S0 d,I0 v,I0 u]] w (R0 w (.bool (fmB ⟨z,2,s,p,d,v,u⟩))):=by
 rw[fm_2]
 cases hg:II p
 all_goals
  have Hg:=G6 hg;clear hg;go_enter func190,ntmps190;go_wp2_with fail;refine(LY _ _).mono ?_;rintro e w1 ⟨rfl,hb1⟩;have hbz:=TN hb1;obtain⟨hc,hf⟩:=A29 hb1;rw[show (AQ p.toArray).data.toList=p from rfl,G5 Hg];go_wp2_with fail
  all_goals go_ret
  all_goals (clear hc hf hb1)
  all_goals (refine⟨SQ ?_,hbz⟩;clear hbz Hg;simp[*])
theorem BK9(z s:Int)(p d:List UInt8)(v u:Int)(w:FU):
  FW prog 190 #[.agg #[I0 z,I0 3,I0 s,S0 p,S0 d,I0 v,I0 u]] w (R0 w (.bool (fmB ⟨z,3,s,p,d,v,u⟩))):=by
 rw[fm_3]
 cases hg:II p
 all_goals
  have Hg:=G6 hg;clear hg;go_enter func190,ntmps190;go_wp2_with fail;refine(LY _ _).mono ?_;rintro e w1 ⟨rfl,hb1⟩;have hbz:=TN hb1;obtain⟨hc,hf⟩:=A29 hb1;rw[show (AQ p.toArray).data.toList=p from rfl,G5 Hg];go_wp2_with fail
  all_goals go_ret
  all_goals (clear hc hf hb1)
  all_goals (refine⟨SQ ?_,hbz⟩;clear hbz Hg;simp[*])
theorem BL0(z s:Int)(p d:List UInt8)(v u:Int)(w:FU):
  FW prog 190 #[.agg #[I0 z,I0 4,I0 s,S0 p,S0 d,I0 v,I0 u]] w (R0 w (.bool (fmB ⟨z,4,s,p,d,v,u⟩))):=by
 rw[fm_4]
 cases hg:II p
 all_goals
  have Hg:=G6 hg;clear hg;go_enter func190,ntmps190;go_wp2_with fail;refine(LY _ _).mono ?_;rintro e w1 ⟨rfl,hb1⟩;have hbz:=TN hb1;obtain⟨hc,hf⟩:=A29 hb1;rw[show (AQ p.toArray).data.toList=p from rfl,G5 Hg];go_wp2_with fail
  all_goals go_ret
  all_goals (clear hc hf hb1)
  all_goals (refine⟨SQ ?_,hbz⟩;clear hbz Hg;simp[*])
theorem BL1(z s:Int)(p d:List UInt8)(v u:Int)(w:FU):
  FW prog 190 #[.agg #[I0 z,I0 5,I0 s,S0 p,S0 d,I0 v,I0 u]] w (R0 w (.bool (fmB ⟨z,5,s,p,d,v,u⟩))):=by
 rw[fm_5]
 cases hg:II p
 all_goals
  have Hg:=G6 hg;clear hg;go_enter func190,ntmps190;go_wp2_with fail;refine(LY _ _).mono ?_;rintro e w1 ⟨rfl,hb1⟩;have hbz:=TN hb1;have hz1:w.heap.size<w1.heap.size:=by have:=hb1.size;simp at this;omega
  obtain⟨hc,hf⟩:=A29 hb1;rw[show (AQ p.toArray).data.toList=p from rfl,G5 Hg];go_wp2_with fail
  all_goals
   refine(LY _ _).mono ?_;rintro e w2 ⟨rfl,hb2⟩;have hbz2:=SB hbz hb2;obtain⟨hc2,hf2⟩:=A29 hb2;rw[show (AQ p.toArray).data.toList=p from rfl,G5 Hg];go_wp2_with fail
  all_goals go_ret
  all_goals (clear hc hf hb1 hc2 hf2 hb2 hbz)
  all_goals (refine⟨SQ ?_,hbz2⟩;clear hbz2 Hg;simp[*])
theorem oL(t:GI)(w:FU)(ht:opB t.o=true):
  FW prog 190 #[J8 t] w (R0 w (.bool (fmB t))):=by
 obtain⟨z,o,s,p,d,v,u⟩:=t;rcases BK6 ht with h|h|h|h|h<;>(replace h:o=_:=h;subst h)
 .exact BK7 z s p d v u w
 .exact BK8 z s p d v u w
 .exact BK9 z s p d v u w
 .exact BL0 z s p d v u w
 .exact BL1 z s p d v u w
theorem CJ5{o:Int}(h:opB o=false):o<1\/5<o:=by
 by_cases h1:1<=o/\o<=5
 .rw[jE.2 h1]at h;exact absurd h (by decide)
 .omega
theorem fP{b:Int}(h:a=b):DV (I0 a)=.returned (I0 b):=by rw[h]
theorem AC9(h:KD t.z=false\/mP t.s 1=false\/mP t.v 0=false\/mP t.w 0=false):BE5 t=false:=by
 rcases h with h|h|h|h<;>simp[BE5,h]
theorem XI(t:GI)(w:FU)(hd:t.d.length<=140737488355328):
  FW prog 157 #[J8 t] w (R0 w (I0 (gdE t))):=by
 cases ho:opB t.o
 .have H:=G6 (BF9 ho);have hor:=CJ5 ho;clear ho;obtain⟨z,o,s,p,d,v,u⟩:=t;unfold J8;replace hor:o<1\/5<o:=hor;rcases hor with hor|hor
  all_goals
   go_enter func157,ntmps157;go_wp2_with fail;go_ret;exact⟨fP (G5 H).symm,(AA _ _).alloc (A8 _) _⟩
 have hor:=jE.1 ho;have ho1:=hor.1;have ho2:=hor.2;have Ho:=G6 ho;clear ho hor
 cases hz:KD t.z
 .have H:=G6 (aH (G5 Ho) (AC9 (.inl hz)));have Hz:=G6 hz;clear hz
  .obtain⟨z,o,s,p,d,v,u⟩:=t;unfold J8;have hzd:(AQ d.toArray).size=d.length:=DK ⟨d.toArray⟩;replace ho1:1<=o:=ho1;replace ho2:o<=5:=ho2;replace hd:d.length<=140737488355328:=hd;go_enter func157,ntmps157;go_wp2_with fail;refine(JH _ _).mono ?_;rintro e w1 ⟨rfl,rfl⟩;rw[G5 Hz];go_wp2_with fail;go_ret;exact⟨fP (G5 H).symm,(AA _ _).alloc (A8 _) _⟩
 cases hs:mP t.s 1
 .have H:=G6 (aH (G5 Ho) (AC9 (.inr (.inl hs))));have Hz:=G6 hz;have Hs:=G6 hs;clear hz hs
  .obtain⟨z,o,s,p,d,v,u⟩:=t;unfold J8;have hzd:(AQ d.toArray).size=d.length:=DK ⟨d.toArray⟩;replace ho1:1<=o:=ho1;replace ho2:o<=5:=ho2;replace hd:d.length<=140737488355328:=hd;go_enter func157,ntmps157;go_wp2_with fail;refine(JH _ _).mono ?_;rintro e w1 ⟨rfl,rfl⟩;rw[G5 Hz];go_wp2_with fail;refine(JK _ _ _).mono ?_;rintro e w1 ⟨rfl,rfl⟩;rw[G5 Hs];go_wp2_with fail;go_ret;exact⟨fP (G5 H).symm,(AA _ _).alloc (A8 _) _⟩
 cases hv:mP t.v 0
 .have H:=G6 (aH (G5 Ho) (AC9 (.inr (.inr (.inl hv)))));have Hz:=G6 hz;have Hs:=G6 hs;have Hv:=G6 hv;clear hz hs hv
  .obtain⟨z,o,s,p,d,v,u⟩:=t;unfold J8;have hzd:(AQ d.toArray).size=d.length:=DK ⟨d.toArray⟩;replace ho1:1<=o:=ho1;replace ho2:o<=5:=ho2;replace hd:d.length<=140737488355328:=hd;go_enter func157,ntmps157;go_wp2_with fail;refine(JH _ _).mono ?_;rintro e w1 ⟨rfl,rfl⟩;rw[G5 Hz];go_wp2_with fail;refine(JK _ _ _).mono ?_;rintro e w1 ⟨rfl,rfl⟩;rw[G5 Hs];go_wp2_with fail;refine(JK _ _ _).mono ?_;rintro e w1 ⟨rfl,rfl⟩;rw[G5 Hv];go_wp2_with fail;go_ret;exact⟨fP (G5 H).symm,(AA _ _).alloc (A8 _) _⟩
 cases hu:mP t.w 0
 .have H:=G6 (aH (G5 Ho) (AC9 (.inr (.inr (.inr hu)))));have Hz:=G6 hz;have Hs:=G6 hs;have Hv:=G6 hv;have Hu:=G6 hu;clear hz hs hv hu
  .obtain⟨z,o,s,p,d,v,u⟩:=t;unfold J8;have hzd:(AQ d.toArray).size=d.length:=DK ⟨d.toArray⟩;replace ho1:1<=o:=ho1;replace ho2:o<=5:=ho2;replace hd:d.length<=140737488355328:=hd;go_enter func157,ntmps157;go_wp2_with fail;refine(JH _ _).mono ?_;rintro e w1 ⟨rfl,rfl⟩;rw[G5 Hz];go_wp2_with fail;refine(JK _ _ _).mono ?_;rintro e w1 ⟨rfl,rfl⟩;rw[G5 Hs];go_wp2_with fail;refine(JK _ _ _).mono ?_;rintro e w1 ⟨rfl,rfl⟩;rw[G5 Hv];go_wp2_with fail;refine(JK _ _ _).mono ?_;rintro e w1 ⟨rfl,rfl⟩;rw[G5 Hu];go_wp2_with fail;go_ret;exact⟨fP (G5 H).symm,(AA _ _).alloc (A8 _) _⟩
 have HN:=G6 (aG.2 ⟨hz,hs,hv,hu⟩);have Hz:=G6 hz;have Hs:=G6 hs;have Hv:=G6 hv;have Hu:=G6 hu;clear hz hs hv hu;by_cases hl:256<t.d.length
 .have H:=G6 (BG0 (G5 Ho) (G5 HN) hl)
  .obtain⟨z,o,s,p,d,v,u⟩:=t;unfold J8;replace hl:256<d.length:=hl;have hzd:(AQ d.toArray).size=d.length:=DK ⟨d.toArray⟩;replace ho1:1<=o:=ho1;replace ho2:o<=5:=ho2;replace hd:d.length<=140737488355328:=hd;go_enter func157,ntmps157;go_wp2_with fail;refine(JH _ _).mono ?_;rintro e w1 ⟨rfl,rfl⟩;rw[G5 Hz];go_wp2_with fail;refine(JK _ _ _).mono ?_;rintro e w1 ⟨rfl,rfl⟩;rw[G5 Hs];go_wp2_with fail;refine(JK _ _ _).mono ?_;rintro e w1 ⟨rfl,rfl⟩;rw[G5 Hv];go_wp2_with fail;refine(JK _ _ _).mono ?_;rintro e w1 ⟨rfl,rfl⟩;rw[G5 Hu];go_wp2_with fail;go_ret;exact⟨fP (G5 H).symm,(AA _ _).alloc (A8 _) _⟩
 cases hfm:fmB t
 .have H:=G6 (BG1 (G5 Ho) (G5 HN) (by omega) hfm);have Hf:=G6 hfm;clear hfm
  .obtain⟨z,o,s,p,d,v,u⟩:=t;unfold J8;replace hl:¬256<d.length:=hl;have hzd:(AQ d.toArray).size=d.length:=DK ⟨d.toArray⟩;replace ho1:1<=o:=ho1;replace ho2:o<=5:=ho2;replace hd:d.length<=140737488355328:=hd;go_enter func157,ntmps157;go_wp2_with fail;refine(JH _ _).mono ?_;rintro e w1 ⟨rfl,rfl⟩;rw[G5 Hz];go_wp2_with fail;refine(JK _ _ _).mono ?_;rintro e w1 ⟨rfl,rfl⟩;rw[G5 Hs];go_wp2_with fail;refine(JK _ _ _).mono ?_;rintro e w1 ⟨rfl,rfl⟩;rw[G5 Hv];go_wp2_with fail;refine(JK _ _ _).mono ?_;rintro e w1 ⟨rfl,rfl⟩;rw[G5 Hu];go_wp2_with fail;refine(oL ⟨z,o,s,p,d,v,u⟩ _ (G5 Ho)).mono ?_;rintro e w2 ⟨rfl,hb2⟩;have hbz:=TN hb2;rw[G5 Hf];go_wp2_with fail;go_ret;exact⟨fP (G5 H).symm,hbz⟩
 .have H:=G6 (AT8 (G5 Ho) (G5 HN) (by omega) hfm);have Hf:=G6 hfm;clear hfm
  .obtain⟨z,o,s,p,d,v,u⟩:=t;unfold J8;replace hl:¬256<d.length:=hl;have hzd:(AQ d.toArray).size=d.length:=DK ⟨d.toArray⟩;replace ho1:1<=o:=ho1;replace ho2:o<=5:=ho2;replace hd:d.length<=140737488355328:=hd;go_enter func157,ntmps157;go_wp2_with fail;refine(JH _ _).mono ?_;rintro e w1 ⟨rfl,rfl⟩;rw[G5 Hz];go_wp2_with fail;refine(JK _ _ _).mono ?_;rintro e w1 ⟨rfl,rfl⟩;rw[G5 Hs];go_wp2_with fail;refine(JK _ _ _).mono ?_;rintro e w1 ⟨rfl,rfl⟩;rw[G5 Hv];go_wp2_with fail;refine(JK _ _ _).mono ?_;rintro e w1 ⟨rfl,rfl⟩;rw[G5 Hu];go_wp2_with fail;refine(oL ⟨z,o,s,p,d,v,u⟩ _ (G5 Ho)).mono ?_;rintro e w2 ⟨rfl,hb2⟩;have hbz:=TN hb2;rw[G5 Hf];go_wp2_with fail;go_ret;exact⟨fP (G5 H).symm,hbz⟩
structure Only(g:Nat)(w w':FU):Prop where
 os:w'.os=w.os
 tape:w'.tape=w.tape
 output:w'.output=w.output
 size:w'.heap.size=w.heap.size
 block:∀k,k≠g->w'.heap[k]?=w.heap[k]?
theorem Only.refl(g:Nat)(w:FU):Only g w w:=⟨rfl,rfl,rfl,rfl,fun _ _=>rfl⟩
theorem Only.trans{a b c:FU}(h:Only g a b)(k:Only g b c):Only g a c:=
 ⟨k.os.trans h.os,k.tape.trans h.tape,k.output.trans h.output,k.size.trans h.size,fun i hi=>(k.block i hi).trans (h.block i hi)⟩
theorem Only.below{a w w':FU}(h:Only g w w')(hb:Below B a w)(hg:B<=g):Below B a w':=
 hb.trans ⟨h.os,h.tape,h.output,Nat.le_of_eq h.size.symm,fun k hk=>h.block k (by omega)⟩
theorem Only.setCell{a w:FU}(h:Only g a w)(j:Nat)(v:FV):Only g a (w.setCell ⟨g,j,FX⟩ v):=
 h.trans ⟨rfl,rfl,rfl,by simp[World.setCell],fun k hk=>Below.heap_setCell _ _ _ _ hk⟩
def Cur(W:FU)(g:Nat)(rest:List UInt8)(short:Bool):Prop:=W.heap[g]?=FZ (FT #[S0 rest,.bool short] 233 (0,0))
theorem Cur.c0(h:Cur W g r b):W.cell? ⟨g,0,FX⟩=FZ (S0 r):=by unfold Cur at h;simp[AV,h]
theorem Cur.c1(h:Cur W g r b):W.cell? ⟨g,1,FX⟩=FZ (.bool b):=by unfold Cur at h;simp[AV,h]
theorem Cur.f(h:Cur W g r b)(j:Nat):W.frozen? ⟨g,j,FX⟩=false:=by unfold Cur at h;simp[F7,h]
theorem O7{w:FU}{j:Nat}{cur:Array FV}{t:TypeId}{fz:Nat×Nat}(v:FV)(h:w.heap[g]?=FZ (FT cur t fz)):
  (w.setCell ⟨g,j,FX⟩ v).heap[g]?=FZ (FT (cur.setIfInBounds j v) t fz):=by
 obtain⟨hlt,hk⟩:=AB.1 h;show (w.heap.modify g _)[g]?=_;rw[BP (by rw[Array.size_modify];exact hlt),Array.getElem_modify_self,hk];rfl
theorem Cur.s0(h:Cur W g r b)(r':List UInt8):Cur (W.setCell ⟨g,0,FX⟩ (S0 r')) g r' b:=O7 _ h
theorem Cur.s1(h:Cur W g r b)(b':Bool):Cur (W.setCell ⟨g,1,FX⟩ (.bool b')) g r b':=O7 _ h
theorem Cur.kept(h:Cur W g r b)(hb:Below B W V)(hg:g<B):Cur V g r b:=(hb.block _ hg).trans h
theorem Cur.other{k:Nat}(h:Cur W g r b)(ho:Only k W V)(hg:g≠k):Cur V g r b:=(ho.block _ hg).trans h
theorem rY(l:List UInt8)(d:Nat):(AQ l.toArray).extract 0 d=⟨(l.take d).toArray⟩:=by
 apply ByteArray.ext
 apply Array.toList_inj.1
 have h:=Lib.extract_toList (AQ l.toArray) 0 d;rw[Lib.toList_data]at h;refine h.trans ?_;show (l.drop 0).take (d-0)=_;simp
theorem B46(l:List UInt8)(d:Nat):(AQ l.toArray).extract d l.length=⟨(l.drop d).toArray⟩:=by
 apply ByteArray.ext
 apply Array.toList_inj.1
 have h:=Lib.extract_toList (AQ l.toArray) d l.length;rw[Lib.toList_data]at h;refine h.trans ?_;show (l.drop d).take (l.length-d)=l.drop d;exact BL (by simp)
theorem B47{a b:ByteArray}(h:a=b):DV (.string a)=.returned (.string b):=by rw[h]
theorem S9(g n:Nat)(r:List UInt8)(b:Bool)(w:FU)(hn:n<=140737488355328)(hc:Cur w g r b):
  FW prog 118 #[P0 g,I0 n] w fun e w'=>e=.returned (S0 (r.take n))/\Cur w' g (r.drop n) (b||decide (r.length<n))/\Only g w w':=by
 have hz:(AQ r.toArray).size=r.length:=DK ⟨r.toArray⟩;have h0:=hc.c0;have h1:=hc.c1;have hf0:=hc.f 0;have hf1:=hc.f 1;have HC:=G6 hc;clear hc;by_cases hlt:r.length<n
 .go_enter func118,ntmps118
  go_wp2
  go_ret;refine⟨B47 ?_,?_,((Only.refl g w).setCell 1 _).setCell 0 _⟩
  .rw[rY,DU,BL (by omega)]
  .rw[List.drop_of_length_le (by omega),decide_eq_true hlt,Bool.or_true];exact((G5 HC).s1 true).s0 []
 .go_enter func118,ntmps118
  go_wp2
  go_ret;refine⟨B47 (rY r n),?_,(Only.refl g w).setCell 0 _⟩;rw[B46,decide_eq_false hlt,Bool.or_false];exact(G5 HC).s0 _
theorem CL0(x y:Int):bits .or .i64 x y=IntKind.i64.wrap ((BitVec.ofInt 64 x|||BitVec.ofInt 64 y).toNat:Int):=rfl
theorem C63(t b:Nat)(ht:t<72057594037927936)(hb:b<256):bits .or .i64 (wrap64 ((t:Int)*256)) (b:Int)=wrap64 ((t*256+b:Nat):Int):=by
 have e1:BitVec.ofInt 64 (wrap64 ((t:Int)*256))=BitVec.ofNat 64 (t*256):=by
  apply BitVec.eq_of_toNat_eq
  rw[BitVec.toNat_ofInt,BitVec.toNat_ofNat];unfold wrap64;omega
 have e2:(BitVec.ofNat 64 (t*256)|||BitVec.ofInt 64 (b:Int)).toNat=t*256+b:=by
  rw[BitVec.ofInt_natCast,BitVec.toNat_or,BitVec.toNat_ofNat,BitVec.toNat_ofNat,Nat.mod_eq_of_lt (by omega),Nat.mod_eq_of_lt (by omega)];have:=Nat.two_pow_add_eq_or_of_lt (i:=8) (b:=b) (by omega) t;rw[DC t 256];exact this.symm
 rw[CL0,e1,e2,IntKind.wrap_i64,wrap64]
theorem AE1(h:l.length<=7):un l<72057594037927936:=by
 have h1:=BF8 l;have h2:256^l.length<=256^7:=Nat.pow_le_pow_right (by decide) h;have h3:(256:Nat)^7=72057594037927936:=by decide
 omega
theorem C64(l:List UInt8)(k:Nat)(h:k<l.length):un (l.take (k+1))=un (l.take k)*256+l[k].toNat:=by
 rw[List.take_succ_eq_append_getElem h,zT]
theorem CL1{b:Int}(h:a=b):DV (I0 a)=.returned (I0 b):=by rw[h]
theorem CL2{b:Int}(h:a=b):I0 a=I0 b:=by rw[h]
theorem CL3(l:List UInt8)(k:Nat)(h:k<(AQ l.toArray).size):(AQ l.toArray)[k]=l[k]'(by rwa[DK]at h):=rfl
theorem JY(g n:Nat)(r:List UInt8)(b:Bool)(w:FU)(hn:n<=8)(hc:Cur w g r b):
  FW prog 119 #[P0 g,I0 n] w fun e w'=>e=.returned (I0 (wrap64 (un (r.take n):Nat)))/\Cur w' g (r.drop n) (b||decide (r.length<n))/\Only g w w':=by
 have HC:=G6 hc;clear hc;go_enter func119,ntmps119;go_wp2_with fail;refine(S9 g n r b _ (by omega) (G5 HC)).mono ?_;rintro e w1 ⟨rfl,hc1,ho1⟩;have H1:=G6 hc1;clear hc1 HC;obtain⟨p,hp⟩:∃p,r.take n=p:=⟨_,rfl⟩;have hpl:p.length<=8:=by rw[<-hp,F6];omega
 rw[hp];have Hp:=G6 hp;clear hp;have hz:(AQ p.toArray).size=p.length:=DK ⟨p.toArray⟩;go_wp2_with fail
 go_loop [6,13] (fun t i=>∃k:Nat,k<=p.length/\i=I0 k/\t=I0 (wrap64 (un (p.take k):Nat))) (fun _ i=>p.length-(intOf i).toNat)
 case atStart=>exact⟨0,AY _,rfl,CL2 (by simp[un,wrap64])⟩
 case round=>
  obtain⟨k,hk,rfl,rfl⟩:=hrel;by_cases hlt:k<p.length
  .have Hs:=G6 (C64 p k hlt);have hsm:=AE1 (l:=p.take k) (by rw[F6];omega);obtain⟨x,hx⟩:∃x,un (p.take k)=x:=⟨_,rfl⟩;rw[hx]at hsm Hs⊢;clear hx;rw[show wrap64 (x:Int)=x from by unfold wrap64;omega];have hb:=p[k].toNat_lt;go_wp2_with fail;refine⟨⟨k+1,by omega,by go_num,CL2 ?_⟩,by simp[intOf];omega⟩;rw[G5 Hs,CL3,show wrap64 ((p[k].toNat:Nat):Int)=(p[k].toNat:Int)from by unfold wrap64;omega];exact C63 x _ hsm (by omega)
  .obtain rfl:k=p.length:=by omega
   rw[DU];go_wp2_with fail;go_ret;exact⟨CL1 (by rw[G5 Hp]),G5 H1,ho1⟩
theorem XQ(s:List UInt8)(w:FU):
  FW prog 117 #[S0 s] w fun e w'=>e=.returned (.pointer (FZ ⟨w.heap.size,0,FX⟩))/\w'=w.alloc (FT #[S0 s,.bool false] 233):=by
 go_enter func117,ntmps117;go_wp2_with fail;go_ret;exact⟨rfl,rfl⟩
theorem kW(g:Nat)(r:List UInt8)(b:Bool)(w:FU)(h:Cur w g r b):
  FW prog 121 #[P0 g] w fun e w'=>e=.returned (.bool b)/\w'=w:=by
 have c1:=h.c1;go_enter func121,ntmps121;go_wp2_with fail;go_ret;exact⟨rfl,rfl⟩
theorem rZ(g:Nat)(r:List UInt8)(b:Bool)(w:FU)(h:Cur w g r b):
  FW prog 120 #[P0 g] w fun e w'=>e=.returned (I0 r.length)/\w'=w:=by
 have c0:=h.c0;have hz:(AQ r.toArray).size=r.length:=DK ⟨r.toArray⟩;go_enter func120,ntmps120;go_wp2_with fail;go_ret;exact⟨rfl,rfl⟩
theorem AE2:∀j n,be (j+1) n=UInt8.ofNat (n/256^j)::be j n
 |0,n=>by simp[be]
 |j+1,n=>by
  rw[be,AE2 j (n/256),be,Nat.div_div_eq_div_mul,Nat.pow_succ,DC 256];rfl
def xP(l:List UInt8):List FV:=l.map fun b=>.int .u8 (b.toNat:Int)
def PS(W:FU)(g:Nat)(l:List UInt8):Prop:=W.heap[g]?=FZ (FT (xP l).toArray 5 (0,0))
theorem PS.cell(h:PS W g l){j:Nat}(hj:j<l.length):W.cell? ⟨g,j,FX⟩=FZ (.int .u8 (l[j].toNat:Int)):=by
 unfold PS at h;simp[AV,h,xP,List.getElem?_eq_getElem hj]
theorem PS.soft(h:PS W g l)(j:Nat):W.frozen? ⟨g,j,FX⟩=false:=by
 unfold PS at h;simp[F7,h]
theorem PS.set(h:PS W g l)(j:Nat)(b:UInt8):PS (W.setCell ⟨g,j,FX⟩ (.int .u8 (b.toNat:Int))) g (l.set j b):=by
 unfold PS at h⊢;obtain⟨hlt,hk⟩:=AB.1 h;show (W.heap.modify g _)[g]?=_;rw[BP (by rw[Array.size_modify];exact hlt),Array.getElem_modify_self,hk];simp[xP,List.map_set]
theorem C69(m:Nat)(b:UInt8)(r:List UInt8):(List.replicate (m+1) 0++r).set m b=List.replicate m 0++b::r:=by
 rw[List.replicate_succ',BQ,List.set_append_right _ _ (by simp)];simp
theorem PS.text(h:PS W g l)(cap:Nat):
  (convert 154 9 (.slice (FZ ⟨g,0,FX⟩) l.length cap)).run prog W=.ok (S0 l) W:=
 run_convert_bytes_back W 154 9 5 ⟨g,0,FX⟩ cap l underlying154 underlying5 underlying9 (fun j hj=>by
  rw[show (⟨g,0,FX⟩:Addr).add j=⟨g,j,FX⟩from by unfold Addr.add;split<;>simp_all];exact h.cell hj)
theorem B49(x:Nat):((x:Int)%256)=((UInt8.ofNat x).toNat:Int):=by simp
theorem C70(n j:Nat):n/256^j/256=n/256^(j+1):=by rw[Nat.div_div_eq_div_mul,Nat.pow_succ]
theorem CL4{b:Int}(h:a=b):I0 a=I0 b:=by rw[h]
theorem BO0{a b:ByteArray}(h:a=b):DV (.string a)=.returned (.string b):=by rw[h]
theorem B50(k:Nat):madeCells (Value.int .u8 0).cells k=(xP (List.replicate k 0)).toArray:=by
 apply Array.ext'
 apply List.ext_getElem
 .simp[madeCells,xP]
 .intro j h1 h2;simp[madeCells,xP,Value.cells,Nat.mod_one]
theorem CL5:(prog.info? 5).map (fun i=>(i.zero,i.size,i.bytes))=FZ (FZ (.int .u8 0),1,1):=by kernel_rfl
theorem AP2(k:Nat)(hk:k<=8)(w:FU):(Instr.makeSlice 154 (I0 k) (I0 k)).run prog w=.ok (.slice (FZ ⟨w.heap.size,0,FX⟩) k k) (w.alloc (FT (xP (List.replicate k 0)).toArray 5)):=by
 obtain⟨i0,hi,hz0,hz1,hz2⟩:=info_parts CL5;have h:=run_make (P:=prog) w 154 5 i0 (.int .u8 0) underlying154 hi hz0 .i64 .i64 k k (by omega) (by omega) (by rw[hz2];omega) (by omega);rw[h,hz1,Nat.mul_one,Int.toNat_natCast,B50]
theorem eU(n k:Nat)(w:FU)(hn:n<9223372036854775808)(hk:k<=8):
  FW prog 214 #[I0 n,I0 k] w (R0 w (S0 (be k n))):=by
 have hmk:=AP2 k hk w;go_enter func214,ntmps214
 go_wp2
 generalize hW1:w.alloc (Obj.cells (xP (List.replicate k 0)).toArray 5)=W1;have HR1:Hid (PS W1 w.heap.size (List.replicate k 0++be 0 n)):=G6 (by
  rw[<-hW1];show (w.heap.push _)[w.heap.size]?=_;simp[be])
 have hB1:B0 w W1:=by rw[<-hW1];exact(AA _ _).alloc (A8 _) _
 clear hW1 hmk
 go_loopw [0,6] (fun x i wr=>∃j:Nat,j<=k/\x=I0 (n/256^j:Nat)/\i=I0 ((k:Int)-1-j)/\PS wr w.heap.size (List.replicate (k-j) 0++be j n)/\B0 w wr) (fun _ i _=>(intOf i+1).toNat)
 case atStart=>exact⟨0,AY _,by simp,by simp,G5 HR1,hB1⟩
 case round=>
  obtain⟨j,hj,rfl,rfl,hr,hB⟩:=hrel;have HR:=G6 hr;clear hr HR1 hB1;by_cases hlt:j<k
  .obtain⟨m,hm⟩:∃m,k-j=m+1:=⟨k-j-1,by omega⟩;have hlen:m<(List.replicate (k-j) (0:UInt8)++be j n).length:=by simp;omega
   have h1:=(G5 HR).cell hlen;have h2:=(G5 HR).soft m;have hmk:(k:Int)-1-j=(m:Int):=by omega
   rw[hmk];have hmlt:m<k:=by omega
   have hq:n/256^j<9223372036854775808:=Nat.lt_of_le_of_lt (Nat.div_le_self _ _) hn;have Hdiv:=G6 (C70 n j);have Hby:=G6 (B49 (n/256^j));have Hfr:=G6 (AE2 j n);generalize (List.replicate (k-j) (0:UInt8)++be j n)[m]=c0 at h1;obtain⟨x,hx⟩:∃x,n/256^j=x:=⟨_,rfl⟩;rw[hx]at hq Hdiv Hby Hfr⊢;have Hm:=G6 hm;have Hmk:=G6 hmk;clear hx hm hmk hlen
   go_wp2
   rw[G5 Hby];refine⟨⟨j+1,by omega,CL4 (by rw[<-G5 Hdiv];omega),CL4 (by have:=G5 Hmk;omega),?_,hB.setCell (by show w.heap.size<=w.heap.size;exact A8 _) _⟩,by simp only[intOf];omega⟩;have hset:=(G5 HR).set m (UInt8.ofNat x);rw[G5 Hm,C69,<-G5 Hfr]at hset;rw[show k-(j+1)=m from by have:=G5 Hm;omega];exact hset
  .obtain rfl:j=k:=by omega
   have hlen:(List.replicate (j-j) (0:UInt8)++be j n).length=j:=by simp[IJ]
   have htx:=(G5 HR).text j;rw[hlen]at htx;rw[show (j:Int)-1-(j:Int)=-1 from by omega];have Hrep:Hid (List.replicate (j-j) (0:UInt8)++be j n=be j n):=G6 (by simp);rw[G5 Hrep]at htx;clear hlen
   go_wp2
   go_ret;exact⟨rfl,hB⟩
theorem B51{b:Int}(h:a=b):Value.int .u32 a=.int .u32 b:=by rw[h]
theorem B52{c:Nat}(h:c<4294967296):bits .xor .u32 ((c:Int)/2) (3988292384*bits .and .u32 (c:Int) 1%4294967296)=(CG7 c:Nat):=by
 have h2:c%2<2:=Nat.mod_lt _ (by decide);rw[BF7 h,show (3988292384*((c%2:Nat):Int)%4294967296)=((3988292384*(c%2):Nat):Int)from by omega];rw[show ((c:Int)/2)=((c/2:Nat):Int)from by omega];exact zS (by omega) (by omega)
theorem BO1(s:ByteArray)(k:Nat)(h:k<s.size):BF5 (s.data.toList.take (k+1))=BW7 8 (BF5 (s.data.toList.take k)^^^s[k].toNat):=by
 rw[iY s k h,AT7];rfl
theorem C71{b:Int}(h:a=b):DV (I0 a)=.returned (I0 b):=by rw[h]
theorem AE3(s:ByteArray)(w:FU)(hs:s.size<=140737488355328):
  FW prog 122 #[.string s] w fun e w'=>e=.returned (I0 (A84 s.data.toList:Nat))/\w'=w:=by
 go_enter func122,ntmps122
 go_wp2
 go_loop [3,8] (fun c i=>∃k:Nat,k<=s.size/\i=I0 k/\c=.int .u32 (BF5 (s.data.toList.take k):Nat)) (fun _ i=>s.size-(intOf i).toNat)
 case atStart=>exact⟨0,AY _,rfl,rfl⟩
 case round=>
  obtain⟨k,hk,rfl,rfl⟩:=hrel;obtain⟨c,hc⟩:∃c,BF5 (s.data.toList.take k)=c:=⟨_,rfl⟩;have hcl:c<4294967296:=hc ▸ AT5 _;have Hc:=G6 hc;rw[hc];clear hc;by_cases hlt:k<s.size
  .have hb:=s[k].toNat_lt;have Hsn:=G6 (BO1 s k hlt)
   go_wp2
   rw[zS hcl (by omega)];obtain⟨x,hx⟩:∃x,c^^^s[k].toNat=x:=⟨_,rfl⟩;have hxl:x<4294967296:=hx ▸ aF hcl (by omega);have Hx:=G6 hx;rw[hx];clear hx hb
   go_loop [3,17] (fun d j=>∃n:Nat,n<=8/\j=I0 n/\d=.int .u32 (BW7 n x:Nat)) (fun _ j=>8-(intOf j).toNat)
   case atStart=>exact⟨0,AY _,rfl,rfl⟩
   case round=>
    obtain⟨n,hn,rfl,rfl⟩:=hrel;have hy:=zQ hxl n;have Hs:Hid (BW7 (n+1) x=CG7 (BW7 n x)):=G6 rfl;by_cases h8:n<8
    .obtain⟨y,hyy⟩:∃y,BW7 n x=y:=⟨_,rfl⟩;rw[hyy]at hy Hs⊢;clear hyy
     go_wp2
     exact⟨⟨n+1,by omega,by go_num,B51 (by rw[B52 hy,G5 Hs])⟩,by simp[intOf];omega⟩
    .obtain rfl:n=8:=by omega
     go_wp2
     exact⟨⟨k+1,by omega,by go_num,B51 (by rw[G5 Hsn,G5 Hc,G5 Hx])⟩,by simp[intOf];omega⟩
  .obtain rfl:k=s.size:=by omega
   go_wp2
   go_ret;refine⟨C71 ?_,rfl⟩;rw[<-aC s,DU]at Hc;rw[show IntKind.u32.max=((4294967295:Nat):Int)from rfl,zS (by decide) hcl,A84,G5 Hc];have h32:=aF (show 4294967295<4294967296 by decide) hcl;unfold wrap64;omega
theorem kY(n:Int)(k:Nat)(w:FU)(h0:0<=n)(hn:n<9223372036854775808)(hk:k<=8)(d:Nat)(os:Array Obj):
  FW prog 214 #[I0 n,I0 k] (Sort.grow (redrawn w d) os) fun e w''=>e=.returned (S0 (be k n.toNat))/\∃p:Regrown,w''=Sort.grow (redrawn w p.d) p.os:=by
 have h:=eU n.toNat k (Sort.grow (redrawn w d) os) (by omega) hk;rw[Int.toNat_of_nonneg h0]at h;exact Calls.regrown_of h
theorem BO2(t:GI)(w:FU)(ht:gdE t=0):
  FW prog 213 #[J8 t] w (R0 w (S0 (QY t))):=by
 obtain⟨hz,ho,hs,hv,hu,hp,hd⟩:=WO ht;clear ht;obtain⟨z,o,s,p,d,v,u⟩:=t;unfold J8 QY;simp only at hz ho hs hv hu hp hd⊢;have hzp:(AQ p.toArray).size=p.length:=DK ⟨p.toArray⟩;have hzd:(AQ d.toArray).size=d.length:=DK ⟨d.toArray⟩;go_enter func213,ntmps213;go_wp2_with fail;obtain⟨W,hW⟩:∃W,w.alloc (Obj.cells #[I0 z,I0 o,I0 s,S0 p,S0 d,I0 v,I0 u] 93)=W:=⟨_,rfl⟩;have hB:B0 w W:=by rw[<-hW];exact(AA _ _).alloc (A8 _) _
 have k0:∀d' os,(Sort.grow (redrawn W d') os).cell? ⟨w.heap.size,0,FX⟩=FZ (I0 z):=fun d' os=>cell_regrown (by rw[<-hW];simp) d' os;have k1:∀d' os,(Sort.grow (redrawn W d') os).cell? ⟨w.heap.size,1,FX⟩=FZ (I0 o):=fun d' os=>cell_regrown (by rw[<-hW];simp) d' os;have k2:∀d' os,(Sort.grow (redrawn W d') os).cell? ⟨w.heap.size,2,FX⟩=FZ (I0 s):=fun d' os=>cell_regrown (by rw[<-hW];simp) d' os;have k3:∀d' os,(Sort.grow (redrawn W d') os).cell? ⟨w.heap.size,3,FX⟩=FZ (S0 p):=fun d' os=>cell_regrown (by rw[<-hW];simp) d' os;have k4:∀d' os,(Sort.grow (redrawn W d') os).cell? ⟨w.heap.size,4,FX⟩=FZ (S0 d):=fun d' os=>cell_regrown (by rw[<-hW];simp) d' os;have k5:∀d' os,(Sort.grow (redrawn W d') os).cell? ⟨w.heap.size,5,FX⟩=FZ (I0 v):=fun d' os=>cell_regrown (by rw[<-hW];simp) d' os;have k6:∀d' os,(Sort.grow (redrawn W d') os).cell? ⟨w.heap.size,6,FX⟩=FZ (I0 u):=fun d' os=>cell_regrown (by rw[<-hW];simp) d' os;rw[hW];clear hW;have c0:∀d' os,FW prog 214 #[I0 z,I0 8] (Sort.grow (redrawn W d') os) fun e w''=>e=.returned (S0 (be 8 z.toNat))/\∃p:Regrown,w''=Sort.grow (redrawn W p.d) p.os:=kY z 8 W (by omega) (by omega) (by omega);have c1:∀d' os,FW prog 214 #[I0 o,I0 1] (Sort.grow (redrawn W d') os) fun e w''=>e=.returned (S0 (be 1 o.toNat))/\∃p:Regrown,w''=Sort.grow (redrawn W p.d) p.os:=kY o 1 W (by omega) (by omega) (by omega);have c2:∀d' os,FW prog 214 #[I0 s,I0 4] (Sort.grow (redrawn W d') os) fun e w''=>e=.returned (S0 (be 4 s.toNat))/\∃p:Regrown,w''=Sort.grow (redrawn W p.d) p.os:=kY s 4 W (by omega) (by omega) (by omega);have c3:∀d' os,FW prog 214 #[I0 v,I0 4] (Sort.grow (redrawn W d') os) fun e w''=>e=.returned (S0 (be 4 v.toNat))/\∃p:Regrown,w''=Sort.grow (redrawn W p.d) p.os:=kY v 4 W (by omega) (by omega) (by omega);have c4:∀d' os,FW prog 214 #[I0 u,I0 4] (Sort.grow (redrawn W d') os) fun e w''=>e=.returned (S0 (be 4 u.toNat))/\∃p:Regrown,w''=Sort.grow (redrawn W p.d) p.os:=kY u 4 W (by omega) (by omega) (by omega);have c5:∀d' os,FW prog 214 #[I0 (p.length:Nat),I0 1] (Sort.grow (redrawn W d') os) fun e w''=>e=.returned (S0 (be 1 p.length))/\∃p:Regrown,w''=Sort.grow (redrawn W p.d) p.os:=kY p.length 1 W (by omega) (by omega) (by omega);have c6:∀d' os,FW prog 214 #[I0 (d.length:Nat),I0 2] (Sort.grow (redrawn W d') os) fun e w''=>e=.returned (S0 (be 2 d.length))/\∃p:Regrown,w''=Sort.grow (redrawn W p.d) p.os:=kY d.length 2 W (by omega) (by omega) (by omega);have l0:=IJ 8 z.toNat;have l1:=IJ 1 o.toNat;have l2:=IJ 4 s.toNat;have l3:=IJ 4 v.toNat;have l4:=IJ 4 u.toNat;have l5:=IJ 1 p.length;have l6:=IJ 2 d.length;obtain⟨b0,e0⟩:∃b,be 8 z.toNat=b:=⟨_,rfl⟩;rw[e0]at c0 l0;have E0:=G6 e0;clear e0;obtain⟨b1,e1⟩:∃b,be 1 o.toNat=b:=⟨_,rfl⟩;rw[e1]at c1 l1;have E1:=G6 e1;clear e1;obtain⟨b2,e2⟩:∃b,be 4 s.toNat=b:=⟨_,rfl⟩;rw[e2]at c2 l2;have E2:=G6 e2;clear e2;obtain⟨b3,e3⟩:∃b,be 4 v.toNat=b:=⟨_,rfl⟩;rw[e3]at c3 l3;have E3:=G6 e3;clear e3;obtain⟨b4,e4⟩:∃b,be 4 u.toNat=b:=⟨_,rfl⟩;rw[e4]at c4 l4;have E4:=G6 e4;clear e4;obtain⟨b5,e5⟩:∃b,be 1 p.length=b:=⟨_,rfl⟩;rw[e5]at c5 l5;have E5:=G6 e5;clear e5;obtain⟨b6,e6⟩:∃b,be 2 d.length=b:=⟨_,rfl⟩;rw[e6]at c6 l6;have E6:=G6 e6;clear e6;refine wp_region_quiet_below (by kernel_rfl) (by kernel_rfl) ?_
 repeat (first|go_big_quiet_step (first|with_reducible exact c0 _ _|with_reducible exact c1 _ _|with_reducible exact c2 _ _|with_reducible exact c3 _ _|with_reducible exact c4 _ _|with_reducible exact c5 _ _|with_reducible exact c6 _ _)|quiet_step (first|with_reducible exact c0 _ _|with_reducible exact c1 _ _|with_reducible exact c2 _ _|with_reducible exact c3 _ _|with_reducible exact c4 _ _|with_reducible exact c5 _ _|with_reducible exact c6 _ _))
 refine wpQuiet_nil ?_;intro _ hw';obtain⟨⟨dq,osq⟩,hw''⟩:=hw';subst hw'';have hb2:B0 w (Sort.grow (redrawn W dq) osq):=SB hB (below_regrown W dq osq);clear c0 c1 c2 c3 c4 c5 c6 k0 k1 k2 k3 k4 k5 k6;go_wp2_with fail;go_ret;refine⟨BO0 ?_,hb2⟩;rw[PD,PD,PD,PD,PD,PD,PD,PD];simp only[BQ];rw[G5 E0,G5 E1,G5 E2,G5 E3,G5 E4,G5 E5,G5 E6]
theorem BO3{a b:ByteArray}{i j:Int}(h:a=b)(h':i=j):DV (.tuple #[.string a,I0 i])=.returned (.tuple #[.string b,I0 j]):=by rw[h,h']
theorem eX(t:GI)(w:FU)(h:gdE t=0):
  FW prog 185 #[J8 t] w (R0 w (.tuple #[S0 (QZ t),I0 0])):=by
 have H:=G6 h;obtain⟨_,_,_,_,_,_,hd⟩:=WO h;have hbl:=dS h;clear h;obtain⟨b,hb⟩:∃b,QY t=b:=⟨_,rfl⟩;have Hb:=G6 hb;rw[hb]at hbl;clear hb;have hzb:(AQ b.toArray).size=b.length:=DK ⟨b.toArray⟩;obtain⟨z,o,s,p,d,v,u⟩:=t;unfold J8;replace hd:d.length<=256:=hd;go_enter func185,ntmps185;go_wp2_with fail;refine(XI ⟨z,o,s,p,d,v,u⟩ _ (by show d.length<=_;omega)).mono ?_;rintro e w1 ⟨rfl,hb1⟩;have hbz:=TN hb1;obtain⟨hc,hf⟩:=A29 hb1;have hz1:w.heap.size<w1.heap.size:=by have:=hb1.size;simp at this;omega
 rw[G5 H];go_wp2_with fail;refine(BO2 ⟨z,o,s,p,d,v,u⟩ _ (G5 H)).mono ?_;rintro e w2 ⟨rfl,hb2⟩;replace hb2:=SB hbz hb2;rw[G5 Hb];clear hc hf hb1 hbz hz1;go_wp2_with fail;refine(eU b.length 2 _ (by omega) (by omega)).mono ?_;rintro e w3 ⟨rfl,hb3⟩;replace hb3:=SB hb2 hb3;clear hb2;have l2:=IJ 2 b.length;obtain⟨n2,e2⟩:∃n2,be 2 b.length=n2:=⟨_,rfl⟩;rw[e2]at l2⊢;have E2:=G6 e2;clear e2;go_wp2_with fail;have hF:(AQ #[84]++AQ n2.toArray++AQ b.toArray)=⟨(MS b).toArray⟩:=by
  rw[show (AQ #[84])=⟨[(84:UInt8)].toArray⟩from rfl,PD,PD,MS,G5 E2];rfl
 rw[hF];have lF:=V6 b;obtain⟨F,eF⟩:∃F,MS b=F:=⟨_,rfl⟩;rw[eF]at lF⊢;have EF:=G6 eF;clear eF hF;have hzF:(AQ F.toArray).size=F.length:=DK ⟨F.toArray⟩;refine(AE3 ⟨F.toArray⟩ _ (by omega)).mono ?_;rintro e w4 ⟨rfl,rfl⟩;rw[show (AQ F.toArray).data.toList=F from rfl];have hsl:=AT6 F;obtain⟨X,hX⟩:∃X,A84 F=X:=⟨_,rfl⟩;rw[hX]at hsl⊢;have HX:=G6 hX;clear hX;go_wp2_with fail;refine(eU X 4 _ (by omega) (by omega)).mono ?_;rintro e w5 ⟨rfl,hb5⟩;replace hb5:=SB hb3 hb5;clear hb3;have l4:=IJ 4 X;obtain⟨n4,e4⟩:∃n4,be 4 X=n4:=⟨_,rfl⟩;rw[e4]at l4⊢;have E4:=G6 e4;clear e4;go_wp2_with fail
 go_ret2
 refine⟨BO3 ?_ rfl,hb5⟩;rw[PD,QZ,G5 Hb,G5 EF,G5 HX,G5 E4]
def JW(W:FU)(g:Nat)(t:GI):Prop:=W.heap[g]?=FZ (FT #[I0 t.z,I0 t.o,I0 t.s,S0 t.p,S0 t.d,I0 t.v,I0 t.w] 93 (0,0))
theorem JW.c0(h:JW W g t):W.cell? ⟨g,0,FX⟩=FZ (I0 t.z):=by unfold JW at h;simp[AV,h]
theorem JW.c1(h:JW W g t):W.cell? ⟨g,1,FX⟩=FZ (I0 t.o):=by unfold JW at h;simp[AV,h]
theorem JW.c2(h:JW W g t):W.cell? ⟨g,2,FX⟩=FZ (I0 t.s):=by unfold JW at h;simp[AV,h]
theorem JW.c3(h:JW W g t):W.cell? ⟨g,3,FX⟩=FZ (S0 t.p):=by unfold JW at h;simp[AV,h]
theorem JW.c4(h:JW W g t):W.cell? ⟨g,4,FX⟩=FZ (S0 t.d):=by unfold JW at h;simp[AV,h]
theorem JW.c5(h:JW W g t):W.cell? ⟨g,5,FX⟩=FZ (I0 t.v):=by unfold JW at h;simp[AV,h]
theorem JW.c6(h:JW W g t):W.cell? ⟨g,6,FX⟩=FZ (I0 t.w):=by unfold JW at h;simp[AV,h]
theorem JW.f(h:JW W g t)(j:Nat):W.frozen? ⟨g,j,FX⟩=false:=by unfold JW at h;simp[F7,h]
theorem JW.kept(h:JW W g t)(hb:Below B W V)(hg:g<B):JW V g t:=(hb.block _ hg).trans h
theorem JW.other{k:Nat}(h:JW W g t)(ho:Only k W V)(hg:g≠k):JW V g t:=(ho.block _ hg).trans h
theorem iP(g:Nat)(w:FU)(j:Nat)(v:FV):Only g w (w.setCell ⟨g,j,FX⟩ v):=(Only.refl g w).setCell j v
theorem bW(w:FU)(o:Obj):(w.alloc o).heap[w.heap.size]?=FZ o:=by
 show (w.heap.push o)[w.heap.size]?=_;simp
structure Unf(w W:FU)(r:List UInt8)(b:Bool)(t:GI):Prop where
 res:JW W w.heap.size t0
 cur:Cur W (w.heap.size+1) r b
 txn:JW W (w.heap.size+1+1) t
 size:w.heap.size+3<=W.heap.size
 below:B0 w W
theorem Unf.took{w:FU}{r':List UInt8}{b':Bool}(h:Unf w W r b t)(hc:Cur V (w.heap.size+1) r' b')(ho:Only (w.heap.size+1) W V):Unf w V r' b' t:=
 ⟨h.res.other ho (by omega),hc,h.txn.other ho (by omega),by rw[ho.size];exact h.size,ho.below h.below (by omega)⟩
theorem Unf.kept{w:FU}(h:Unf w W r b t)(hb:B0 W V):Unf w V r b t:=
 ⟨h.res.kept hb (by have:=h.size;omega),h.cur.kept hb (by have:=h.size;omega),h.txn.kept hb (by have:=h.size;omega),BM h.size hb.size,h.below.trans (hb.mono h.below.size)⟩
theorem Unf.put{w:FU}(h:Unf w W r b t)(j:Nat)(v:FV){t':GI}(ht:JW (W.setCell ⟨w.heap.size+1+1,j,FX⟩ v) (w.heap.size+1+1) t'):Unf w (W.setCell ⟨w.heap.size+1+1,j,FX⟩ v) r b t':=
 ⟨h.res.other (iP _ _ _ _) (by omega),h.cur.other (iP _ _ _ _) (by omega),ht,by rw[(iP _ W j v).size];exact h.size,(iP _ _ _ _).below h.below (by omega)⟩
theorem Unf.z{w:FU}(h:Unf w W r b t)(x:Int):Unf w (W.setCell ⟨w.heap.size+1+1,0,FX⟩ (I0 x)) r b {t with z:=x}:=h.put 0 _ (O7 _ h.txn)
theorem Unf.o{w:FU}(h:Unf w W r b t)(x:Int):Unf w (W.setCell ⟨w.heap.size+1+1,1,FX⟩ (I0 x)) r b {t with o:=x}:=h.put 1 _ (O7 _ h.txn)
theorem Unf.s{w:FU}(h:Unf w W r b t)(x:Int):Unf w (W.setCell ⟨w.heap.size+1+1,2,FX⟩ (I0 x)) r b {t with s:=x}:=h.put 2 _ (O7 _ h.txn)
theorem Unf.p{w:FU}(h:Unf w W r b t)(x:List UInt8):Unf w (W.setCell ⟨w.heap.size+1+1,3,FX⟩ (S0 x)) r b {t with p:=x}:=h.put 3 _ (O7 _ h.txn)
theorem Unf.d{w:FU}(h:Unf w W r b t)(x:List UInt8):Unf w (W.setCell ⟨w.heap.size+1+1,4,FX⟩ (S0 x)) r b {t with d:=x}:=h.put 4 _ (O7 _ h.txn)
theorem Unf.v{w:FU}(h:Unf w W r b t)(x:Int):Unf w (W.setCell ⟨w.heap.size+1+1,5,FX⟩ (I0 x)) r b {t with v:=x}:=h.put 5 _ (O7 _ h.txn)
theorem Unf.w{w:FU}(h:Unf w W r b t)(x:Int):Unf w (W.setCell ⟨w.heap.size+1+1,6,FX⟩ (I0 x)) r b {t with w:=x}:=h.put 6 _ (O7 _ h.txn)
theorem C75(h:l.length<=7):wrap64 ((un l:Nat):Int)=(un l:Nat):=by
 have:=AE1 h;unfold wrap64;omega
theorem MI(l:List UInt8)(k:Nat)(hk:k<=7):wrap64 ((un (l.take k):Nat):Int)=(un (l.take k):Nat):=C75 (by rw[F6];omega)
def KW(W:FU)(g:Nat)(t:GI):FU:=
 ((((((W.setCell ⟨g,0,FX⟩ (I0 t.z)).setCell ⟨g,1,FX⟩ (I0 t.o)).setCell ⟨g,2,FX⟩ (I0 t.s)).setCell ⟨g,3,FX⟩ (S0 t.p)).setCell ⟨g,4,FX⟩ (S0 t.d)).setCell ⟨g,5,FX⟩ (I0 t.v)).setCell ⟨g,6,FX⟩ (I0 t.w)
theorem JW.s0(h:JW W g t)(x:Int):JW (W.setCell ⟨g,0,FX⟩ (I0 x)) g {t with z:=x}:=O7 _ h
theorem JW.s1(h:JW W g t)(x:Int):JW (W.setCell ⟨g,1,FX⟩ (I0 x)) g {t with o:=x}:=O7 _ h
theorem JW.s2(h:JW W g t)(x:Int):JW (W.setCell ⟨g,2,FX⟩ (I0 x)) g {t with s:=x}:=O7 _ h
theorem JW.s3(h:JW W g t)(x:List UInt8):JW (W.setCell ⟨g,3,FX⟩ (S0 x)) g {t with p:=x}:=O7 _ h
theorem JW.s4(h:JW W g t)(x:List UInt8):JW (W.setCell ⟨g,4,FX⟩ (S0 x)) g {t with d:=x}:=O7 _ h
theorem JW.s5(h:JW W g t)(x:Int):JW (W.setCell ⟨g,5,FX⟩ (I0 x)) g {t with v:=x}:=O7 _ h
theorem JW.s6(h:JW W g t)(x:Int):JW (W.setCell ⟨g,6,FX⟩ (I0 x)) g {t with w:=x}:=O7 _ h
theorem JW.store(h:JW W g t)(t':GI):JW (KW W g t') g t':=
 ((((((h.s0 t'.z).s1 t'.o).s2 t'.s).s3 t'.p).s4 t'.d).s5 t'.v).s6 t'.w
theorem N8(W:FU)(g:Nat)(t:GI):Only g W (KW W g t):=
 (((((((Only.refl g W).setCell 0 _).setCell 1 _).setCell 2 _).setCell 3 _).setCell 4 _).setCell 5 _).setCell 6 _
def B59(b:List UInt8):Bool:=
 false||decide (b.length<8)||decide ((b.drop 8).length<1)||decide ((b.drop 9).length<4)||decide ((b.drop 13).length<4)||decide ((b.drop 17).length<4)||decide ((b.drop 21).length<1)||decide ((b.drop 22).length<YG b)||decide ((b.drop (22+YG b)).length<2)||decide ((b.drop (24+YG b)).length<zI b)
theorem xW{b:List UInt8}:B59 b=false↔24+YG b+zI b<=b.length:=by
 simp only[B59,Bool.or_eq_false_iff,decide_eq_false_iff_not,List.length_drop,true_and];omega
theorem C76(b:List UInt8):YG b<256:=by
 have h:=BF8 ((b.drop 21).take 1);have h2:((b.drop 21).take 1).length<=1:=List.length_take_le _ _;have h3:256^((b.drop 21).take 1).length<=256^1:=Nat.pow_le_pow_right (by decide) h2;unfold YG;omega
theorem C77(b:List UInt8):zI b<65536:=by
 have h:=BF8 ((b.drop (22+YG b)).take 2);have h2:((b.drop (22+YG b)).take 2).length<=2:=List.length_take_le _ _;have h3:256^((b.drop (22+YG b)).take 2).length<=256^2:=Nat.pow_le_pow_right (by decide) h2;unfold zI;omega
def tIn(b:List UInt8):GI:=
 ⟨wrap64 (un (b.take 8)),un ((b.drop 8).take 1),un ((b.drop 9).take 4),(b.drop 22).take (YG b),(b.drop (24+YG b)).take (zI b),un ((b.drop 13).take 4),un ((b.drop 17).take 4)⟩
theorem C78{b:List UInt8}(h:BE6 b=true):tIn b=tOf b:=by
 obtain⟨h1,h2⟩:=aJ.1 h;rw[tIn,tOf,BL (l:=b.drop (24+YG b)) (by rw[List.length_drop];omega)]
theorem AP8(b:List UInt8)(w:FU):
  FW prog 123 #[S0 b] w (R0 w (.tuple #[J8 (AT9 b),I0 (uF b)])):=by
 have hpl:=C76 b;have hdl:=C77 b;go_enter func123,ntmps123;go_wp2_with fail;refine(XQ b _).mono ?_;rintro e wA ⟨rfl,rfl⟩;go_wp2_with fail;generalize hW:((w.alloc _).alloc _).alloc _=W;have H:Hid (Unf w W b false t0):=G6 (by
  rw[<-hW];refine⟨?_,?_,?_,by simp,(((AA _ _).alloc (A8 _) _).alloc (by simp) _).alloc (by simp;omega) _⟩
  .exact(Below.heap_alloc _ _ _ (by simp;omega)).trans ((Below.heap_alloc _ _ _ (by simp)).trans (bW _ _))
  .exact(Below.heap_alloc _ _ _ (by simp)).trans (by have:=bW (w.alloc (FT #[I0 0,I0 0,I0 0,.string ⟨#[]⟩,.string ⟨#[]⟩,I0 0,I0 0] 93)) (FT #[S0 b,.bool false] 233);rwa[FP]at this)
  .have:=bW ((w.alloc (FT #[I0 0,I0 0,I0 0,.string ⟨#[]⟩,.string ⟨#[]⟩,I0 0,I0 0] 93)).alloc (FT #[S0 b,.bool false] 233)) (FT #[I0 0,I0 0,I0 0,.string ⟨#[]⟩,.string ⟨#[]⟩,I0 0,I0 0] 93);rwa[FP,FP]at this)
 clear hW;refine(JY (w.heap.size+1) 8 _ _ _ (by decide) (G5 H).cur).mono ?_;rintro e w1 ⟨rfl,hc1,ho1⟩;have H1:=G6 ((G5 H).took hc1 ho1);clear hc1 ho1 H W;generalize w1=W at*;obtain⟨x0,h0⟩:∃x,wrap64 (un (b.take 8):Nat)=x:=⟨_,rfl⟩;rw[h0];have E0:=G6 h0;clear h0;have q1:=(G5 H1).txn.c0;have q2:=(G5 H1).txn.f 0;go_wp2_with fail;have H:=G6 ((G5 H1).z x0);clear q1 q2 H1;generalize W.setCell _ _=W at*;refine(JY (w.heap.size+1) 1 _ _ _ (by decide) (G5 H).cur).mono ?_;rintro e w1 ⟨rfl,hc1,ho1⟩;have H1:=G6 ((G5 H).took hc1 ho1);clear hc1 ho1 H W;generalize w1=W at*;simp only[FM,Nat.reduceAdd]at H1;rw[MI _ _ (by decide)];obtain⟨x1,h1⟩:∃x,un ((b.drop 8).take 1)=x:=⟨_,rfl⟩;rw[h1];have E1:=G6 h1;clear h1;have q1:=(G5 H1).txn.c1;have q2:=(G5 H1).txn.f 1;go_wp2_with fail;have H:=G6 ((G5 H1).o x1);clear q1 q2 H1;generalize W.setCell _ _=W at*;refine(JY (w.heap.size+1) 4 _ _ _ (by decide) (G5 H).cur).mono ?_;rintro e w1 ⟨rfl,hc1,ho1⟩;have H1:=G6 ((G5 H).took hc1 ho1);clear hc1 ho1 H W;generalize w1=W at*;simp only[FM,Nat.reduceAdd]at H1;rw[MI _ _ (by decide)];obtain⟨x2,h2⟩:∃x,un ((b.drop 9).take 4)=x:=⟨_,rfl⟩;rw[h2];have E2:=G6 h2;clear h2;have q1:=(G5 H1).txn.c2;have q2:=(G5 H1).txn.f 2;go_wp2_with fail;have H:=G6 ((G5 H1).s x2);clear q1 q2 H1;generalize W.setCell _ _=W at*;refine(JY (w.heap.size+1) 4 _ _ _ (by decide) (G5 H).cur).mono ?_;rintro e w1 ⟨rfl,hc1,ho1⟩;have H1:=G6 ((G5 H).took hc1 ho1);clear hc1 ho1 H W;generalize w1=W at*;simp only[FM,Nat.reduceAdd]at H1;rw[MI _ _ (by decide)];obtain⟨x3,h3⟩:∃x,un ((b.drop 13).take 4)=x:=⟨_,rfl⟩;rw[h3];have E3:=G6 h3;clear h3;have q1:=(G5 H1).txn.c5;have q2:=(G5 H1).txn.f 5;go_wp2_with fail;have H:=G6 ((G5 H1).v x3);clear q1 q2 H1;generalize W.setCell _ _=W at*;refine(JY (w.heap.size+1) 4 _ _ _ (by decide) (G5 H).cur).mono ?_;rintro e w1 ⟨rfl,hc1,ho1⟩;have H1:=G6 ((G5 H).took hc1 ho1);clear hc1 ho1 H W;generalize w1=W at*;simp only[FM,Nat.reduceAdd]at H1;rw[MI _ _ (by decide)];obtain⟨x4,h4⟩:∃x,un ((b.drop 17).take 4)=x:=⟨_,rfl⟩;rw[h4];have E4:=G6 h4;clear h4;have q1:=(G5 H1).txn.c6;have q2:=(G5 H1).txn.f 6;go_wp2_with fail;have H:=G6 ((G5 H1).w x4);clear q1 q2 H1;generalize W.setCell _ _=W at*;refine(JY (w.heap.size+1) 1 _ _ _ (by decide) (G5 H).cur).mono ?_;rintro e w1 ⟨rfl,hc1,ho1⟩;have H1:=G6 ((G5 H).took hc1 ho1);clear hc1 ho1 H W;generalize w1=W at*;simp only[FM,Nat.reduceAdd]at H1;rw[MI _ _ (by decide)];rw[show un ((b.drop 21).take 1)=YG b from rfl];go_wp2_with fail;refine(S9 (w.heap.size+1) (YG b) _ _ _ (by omega) (G5 H1).cur).mono ?_;rintro e w2 ⟨rfl,hc2,ho2⟩;have H2:=G6 ((G5 H1).took hc2 ho2);clear hc2 ho2 H1 W;generalize w2=W at*;obtain⟨P,hP⟩:∃x,(b.drop 22).take (YG b)=x:=⟨_,rfl⟩;have lP:P.length<=65536:=by rw[<-hP,F6];omega
 rw[hP];have EP:=G6 hP;clear hP;go_wp2_with fail;refine(WU ⟨P.toArray⟩ _ (by rw[DK];show P.length<=_;omega)).mono ?_;rintro e w3 ⟨rfl,hb3⟩;have H1:=G6 ((G5 H2).kept hb3);clear hb3 H2 W;generalize w3=W at*;simp only[FM]at H1;have q1:=(G5 H1).txn.c3;have q2:=(G5 H1).txn.f 3;go_wp2_with fail;have H:=G6 ((G5 H1).p P);clear q1 q2 H1;generalize W.setCell _ _=W at*;refine(JY (w.heap.size+1) 2 _ _ _ (by decide) (G5 H).cur).mono ?_;rintro e w1 ⟨rfl,hc1,ho1⟩;have H1:=G6 ((G5 H).took hc1 ho1);clear hc1 ho1 H W;generalize w1=W at*;simp only[FM]at H1;rw[MI _ _ (by decide)];rw[show un ((b.drop (22+YG b)).take 2)=zI b from rfl];go_wp2_with fail;refine(S9 (w.heap.size+1) (zI b) _ _ _ (by omega) (G5 H1).cur).mono ?_;rintro e w2 ⟨rfl,hc2,ho2⟩;have H2:=G6 ((G5 H1).took hc2 ho2);clear hc2 ho2 H1 W;generalize w2=W at*;obtain⟨D,hD⟩:∃x,(b.drop (22+YG b+2)).take (zI b)=x:=⟨_,rfl⟩;have lD:D.length<=65536:=by rw[<-hD,F6];omega
 rw[hD];have ED:=G6 hD;clear hD;go_wp2_with fail;refine(WU ⟨D.toArray⟩ _ (by rw[DK];show D.length<=_;omega)).mono ?_;rintro e w3 ⟨rfl,hb3⟩;have H1:=G6 ((G5 H2).kept hb3);clear hb3 H2 W;generalize w3=W at*;simp only[FM]at H1;have hT:tIn b=⟨x0,x1,x2,P,D,x3,x4⟩:=by
  rw[tIn,G5 E0,G5 E1,G5 E2,G5 E3,G5 E4,G5 EP,show 24+YG b=22+YG b+2 from by omega,G5 ED]
 have HT:=G6 hT;have h24:22+YG b+2=24+YG b:=by omega
 have HL:Hid (Unf w W (b.drop (24+YG b+zI b)) (B59 b) ⟨x0,x1,x2,P,[],x3,x4⟩):=G6 (by
  have h:=G5 H1;rw[h24]at h;exact h)
 clear hT h24 H1 E0 E1 E2 E3 E4 EP ED;have q0:W.cell? ⟨w.heap.size+1+1,0,FX⟩=FZ (I0 x0):=(G5 HL).txn.c0;have q1:W.cell? ⟨w.heap.size+1+1,1,FX⟩=FZ (I0 x1):=(G5 HL).txn.c1;have q2:W.cell? ⟨w.heap.size+1+1,2,FX⟩=FZ (I0 x2):=(G5 HL).txn.c2;have q3:W.cell? ⟨w.heap.size+1+1,3,FX⟩=FZ (S0 P):=(G5 HL).txn.c3;have q4:W.cell? ⟨w.heap.size+1+1,4,FX⟩=FZ (.string ⟨#[]⟩):=(G5 HL).txn.c4;have q5:W.cell? ⟨w.heap.size+1+1,5,FX⟩=FZ (I0 x3):=(G5 HL).txn.c5;have q6:W.cell? ⟨w.heap.size+1+1,6,FX⟩=FZ (I0 x4):=(G5 HL).txn.c6;have qf:=(G5 HL).txn.f 4;have r0:W.cell? ⟨w.heap.size,0,FX⟩=FZ (I0 0):=(G5 HL).res.c0;have r1:W.cell? ⟨w.heap.size,1,FX⟩=FZ (I0 0):=(G5 HL).res.c1;have r2:W.cell? ⟨w.heap.size,2,FX⟩=FZ (I0 0):=(G5 HL).res.c2;have r3:W.cell? ⟨w.heap.size,3,FX⟩=FZ (.string ⟨#[]⟩):=(G5 HL).res.c3;have r4:W.cell? ⟨w.heap.size,4,FX⟩=FZ (.string ⟨#[]⟩):=(G5 HL).res.c4;have r5:W.cell? ⟨w.heap.size,5,FX⟩=FZ (I0 0):=(G5 HL).res.c5;have r6:W.cell? ⟨w.heap.size,6,FX⟩=FZ (I0 0):=(G5 HL).res.c6;have rf:=(G5 HL).res.f;have CSh:=G6 (kW _ _ _ _ ((G5 HL).d D).cur);have CLf:=G6 (rZ _ _ _ _ ((G5 HL).d D).cur)
 cases hfit:BE6 b
 .have HU:=G6 (C16 hfit)
  cases hl:B59 b
  .have hR:b.drop (24+YG b+zI b)≠[]:=fun hh=>by
    have h1:=xW.1 hl;have h2:=congrArg List.length hh;rw[List.length_drop,List.length_nil]at h2;have h3:BE6 b=true:=aJ.2 ⟨by omega,by omega⟩;rw[hfit]at h3;exact absurd h3 (by decide)
   rw[hl]at CSh;obtain⟨R,hRR⟩:∃R,b.drop (24+YG b+zI b)=R:=⟨_,rfl⟩;rw[hRR]at CLf hR;have hR':(0:Int)<(R.length:Int):=by have:=List.length_pos_iff.2 hR;omega
   obtain⟨m,hm⟩:∃m,R.length=m:=⟨_,rfl⟩;rw[hm]at CLf hR';clear hRR hl hfit hm hR;go_wp2_with fail;refine(G5 CSh).mono ?_;rintro e wS ⟨rfl,rfl⟩;go_wp2_with fail;refine(G5 CLf).mono ?_;rintro e wL ⟨rfl,rfl⟩;clear CSh CLf;go_wp2_with fail;change bodyPost _ _ _ _ _ (KW (W.setCell ⟨w.heap.size+1+1,4,FX⟩ (S0 D)) w.heap.size t0);have HV:=G6 ((G5 HL).d D);generalize W.setCell ⟨w.heap.size+1+1,4,FX⟩ (S0 D)=V at HV⊢;have HP:=G6 ((G5 HV).res.store t0);have hB:B0 w (KW V w.heap.size t0):=(N8 _ _ _).below (G5 HV).below (A8 _);generalize KW V w.heap.size t0=V2 at HP hB⊢;have s0:=(G5 HP).c0;have s1:=(G5 HP).c1;have s2:=(G5 HP).c2;have s3:=(G5 HP).c3;have s4:=(G5 HP).c4;have s5:=(G5 HP).c5;have s6:=(G5 HP).c6;exact bodyPost_ret (v:=.tuple #[J8 t0,I0 2]) (by simp[results,results123,go_sem,s0,s1,s2,s3,s4,s5,s6,J8]) rfl ⟨by rw[(G5 HU).1,(G5 HU).2],hB⟩
  .rw[hl]at CSh;clear hl hfit CLf;go_wp2_with fail;refine(G5 CSh).mono ?_;rintro e wS ⟨rfl,rfl⟩;clear CSh;go_wp2_with fail;change bodyPost _ _ _ _ _ (KW (W.setCell ⟨w.heap.size+1+1,4,FX⟩ (S0 D)) w.heap.size t0);have HV:=G6 ((G5 HL).d D);generalize W.setCell ⟨w.heap.size+1+1,4,FX⟩ (S0 D)=V at HV⊢;have HP:=G6 ((G5 HV).res.store t0);have hB:B0 w (KW V w.heap.size t0):=(N8 _ _ _).below (G5 HV).below (A8 _);generalize KW V w.heap.size t0=V2 at HP hB⊢;have s0:=(G5 HP).c0;have s1:=(G5 HP).c1;have s2:=(G5 HP).c2;have s3:=(G5 HP).c3;have s4:=(G5 HP).c4;have s5:=(G5 HP).c5;have s6:=(G5 HP).c6;exact bodyPost_ret (v:=.tuple #[J8 t0,I0 2]) (by simp[results,results123,go_sem,s0,s1,s2,s3,s4,s5,s6,J8]) rfl ⟨by rw[(G5 HU).1,(G5 HU).2],hB⟩
 .have hl:B59 b=false:=xW.2 (by have:=aJ.1 hfit;omega);have hR:b.drop (24+YG b+zI b)=[]:=List.drop_of_length_le (by have:=aJ.1 hfit;omega);rw[hl]at CSh;rw[hR]at CLf;rw[C78 hfit]at HT;have Hfit:=G6 hfit;clear hl hR hfit
  cases hg:(gdE (tOf b)==0)
  .have hg':gdE (tOf b)≠0:=by simpa using hg
   have HU:=G6 (CG8 (G5 Hfit) hg');obtain⟨E,hE⟩:∃E,gdE (tOf b)=E:=⟨_,rfl⟩;have hne:(E !=0)=true:=by rw[<-hE];simp[bne,hg]
   rw[G5 HT]at hE;rw[G5 HT]at HU;have HE:=G6 hE;clear hE hg hg';go_wp2_with fail;refine(G5 CSh).mono ?_;rintro e wS ⟨rfl,rfl⟩;go_wp2_with fail;refine(G5 CLf).mono ?_;rintro e wL ⟨rfl,rfl⟩;clear CSh CLf;go_wp2_with fail;refine(XI ⟨x0,x1,x2,P,D,x3,x4⟩ _ (by show D.length<=_;omega)).mono ?_;rintro e w4 ⟨rfl,hb4⟩;rw[G5 HE];have HV0:=G6 ((G5 HL).d D);have HV:=G6 ((G5 HV0).kept hb4);clear hb4 HV0 HL q0 q1 q2 q3 q4 q5 q6 qf r0 r1 r2 r3 r4 r5 r6 rf;generalize w4=V at*;have r0:V.cell? ⟨w.heap.size,0,FX⟩=FZ (I0 0):=(G5 HV).res.c0;have r1:V.cell? ⟨w.heap.size,1,FX⟩=FZ (I0 0):=(G5 HV).res.c1;have r2:V.cell? ⟨w.heap.size,2,FX⟩=FZ (I0 0):=(G5 HV).res.c2;have r3:V.cell? ⟨w.heap.size,3,FX⟩=FZ (.string ⟨#[]⟩):=(G5 HV).res.c3;have r4:V.cell? ⟨w.heap.size,4,FX⟩=FZ (.string ⟨#[]⟩):=(G5 HV).res.c4;have r5:V.cell? ⟨w.heap.size,5,FX⟩=FZ (I0 0):=(G5 HV).res.c5;have r6:V.cell? ⟨w.heap.size,6,FX⟩=FZ (I0 0):=(G5 HV).res.c6;have rf:=(G5 HV).res.f;go_wp2_with fail;change bodyPost _ _ _ _ _ (KW V w.heap.size t0);have HP:=G6 ((G5 HV).res.store t0);have hB:B0 w (KW V w.heap.size t0):=(N8 _ _ _).below (G5 HV).below (A8 _);generalize KW V w.heap.size t0=V2 at HP hB⊢;have s0:=(G5 HP).c0;have s1:=(G5 HP).c1;have s2:=(G5 HP).c2;have s3:=(G5 HP).c3;have s4:=(G5 HP).c4;have s5:=(G5 HP).c5;have s6:=(G5 HP).c6;exact bodyPost_ret (v:=.tuple #[J8 t0,I0 E]) (by simp[results,results123,go_sem,s0,s1,s2,s3,s4,s5,s6,J8]) rfl ⟨by rw[(G5 HU).1,(G5 HU).2,G5 HE],hB⟩
  .have hg':gdE (tOf b)=0:=by simpa using hg
   have HU:=G6 (CG9 (G5 Hfit) hg');rw[G5 HT]at hg' HU;have HE:=G6 hg';clear hg hg';go_wp2_with fail;refine(G5 CSh).mono ?_;rintro e wS ⟨rfl,rfl⟩;go_wp2_with fail;refine(G5 CLf).mono ?_;rintro e wL ⟨rfl,rfl⟩;clear CSh CLf;go_wp2_with fail;refine(XI ⟨x0,x1,x2,P,D,x3,x4⟩ _ (by show D.length<=_;omega)).mono ?_;rintro e w4 ⟨rfl,hb4⟩;rw[G5 HE];have HV0:=G6 ((G5 HL).d D);have HV:=G6 ((G5 HV0).kept hb4);clear hb4 HV0 HL q0 q1 q2 q3 q4 q5 q6 qf r0 r1 r2 r3 r4 r5 r6 rf;generalize w4=V at*;have q0:V.cell? ⟨w.heap.size+1+1,0,FX⟩=FZ (I0 x0):=(G5 HV).txn.c0;have q1:V.cell? ⟨w.heap.size+1+1,1,FX⟩=FZ (I0 x1):=(G5 HV).txn.c1;have q2:V.cell? ⟨w.heap.size+1+1,2,FX⟩=FZ (I0 x2):=(G5 HV).txn.c2;have q3:V.cell? ⟨w.heap.size+1+1,3,FX⟩=FZ (S0 P):=(G5 HV).txn.c3;have q4:V.cell? ⟨w.heap.size+1+1,4,FX⟩=FZ (S0 D):=(G5 HV).txn.c4;have q5:V.cell? ⟨w.heap.size+1+1,5,FX⟩=FZ (I0 x3):=(G5 HV).txn.c5;have q6:V.cell? ⟨w.heap.size+1+1,6,FX⟩=FZ (I0 x4):=(G5 HV).txn.c6;have r0:V.cell? ⟨w.heap.size,0,FX⟩=FZ (I0 0):=(G5 HV).res.c0;have r1:V.cell? ⟨w.heap.size,1,FX⟩=FZ (I0 0):=(G5 HV).res.c1;have r2:V.cell? ⟨w.heap.size,2,FX⟩=FZ (I0 0):=(G5 HV).res.c2;have r3:V.cell? ⟨w.heap.size,3,FX⟩=FZ (.string ⟨#[]⟩):=(G5 HV).res.c3;have r4:V.cell? ⟨w.heap.size,4,FX⟩=FZ (.string ⟨#[]⟩):=(G5 HV).res.c4;have r5:V.cell? ⟨w.heap.size,5,FX⟩=FZ (I0 0):=(G5 HV).res.c5;have r6:V.cell? ⟨w.heap.size,6,FX⟩=FZ (I0 0):=(G5 HV).res.c6;have rf:=(G5 HV).res.f;go_wp2_with fail;change bodyPost _ _ _ _ _ (KW V w.heap.size ⟨x0,x1,x2,P,D,x3,x4⟩);have HP:=G6 ((G5 HV).res.store ⟨x0,x1,x2,P,D,x3,x4⟩);have hB:B0 w (KW V w.heap.size ⟨x0,x1,x2,P,D,x3,x4⟩):=(N8 _ _ _).below (G5 HV).below (A8 _);generalize KW V w.heap.size ⟨x0,x1,x2,P,D,x3,x4⟩=V2 at HP hB⊢;have s0:=(G5 HP).c0;have s1:=(G5 HP).c1;have s2:=(G5 HP).c2;have s3:=(G5 HP).c3;have s4:=(G5 HP).c4;have s5:=(G5 HP).c5;have s6:=(G5 HP).c6;exact bodyPost_ret (v:=.tuple #[J8 ⟨x0,x1,x2,P,D,x3,x4⟩,I0 0]) (by simp[results,results123,go_sem,s0,s1,s2,s3,s4,s5,s6,J8]) rfl ⟨by rw[(G5 HU).1,(G5 HU).2],hB⟩
structure Dec(w W:FU)(r:List UInt8)(b:Bool):Prop where
 res:JW W w.heap.size t0
 cur:Cur W (w.heap.size+1) r b
 size:w.heap.size+2<=W.heap.size
 below:B0 w W
theorem Dec.took{w:FU}{r':List UInt8}{b':Bool}(h:Dec w W r b)(hc:Cur V (w.heap.size+1) r' b')(ho:Only (w.heap.size+1) W V):Dec w V r' b':=
 ⟨h.res.other ho (by omega),hc,by rw[ho.size];exact h.size,ho.below h.below (by omega)⟩
theorem Dec.kept{w:FU}(h:Dec w W r b)(hb:B0 W V):Dec w V r b:=
 ⟨h.res.kept hb (by have:=h.size;omega),h.cur.kept hb (by have:=h.size;omega),BM h.size hb.size,h.below.trans (hb.mono h.below.size)⟩
theorem Dec.new{w:FU}{s:List UInt8}:Dec w ((w.alloc (FT #[I0 0,I0 0,I0 0,.string ⟨#[]⟩,.string ⟨#[]⟩,I0 0,I0 0] 93)).alloc (FT #[S0 s,.bool false] 233)) s false:=by
 refine⟨?_,?_,by simp,((AA _ _).alloc (A8 _) _).alloc (by simp) _⟩
 .exact(Below.heap_alloc _ _ _ (by simp)).trans (bW _ _)
 .have:=bW (w.alloc (FT #[I0 0,I0 0,I0 0,.string ⟨#[]⟩,.string ⟨#[]⟩,I0 0,I0 0] 93)) (FT #[S0 s,.bool false] 233);rwa[FP]at this
theorem BO8(s:List UInt8):lenOf s<65536:=by
 have h:=BF8 ((s.drop 1).take 2);have h2:((s.drop 1).take 2).length<=2:=List.length_take_le _ _;have h3:256^((s.drop 1).take 2).length<=256^2:=Nat.pow_le_pow_right (by decide) h2;unfold lenOf;omega
def A51(s:List UInt8):Bool:=false||decide (s.length<1)||decide ((s.drop 1).length<2)||decide ((s.drop 3).length<lenOf s)||decide ((s.drop (3+lenOf s)).length<4)
theorem xY{s:List UInt8}:A51 s=false↔lenOf s+7<=s.length:=by
 simp only[A51,Bool.or_eq_false_iff,decide_eq_false_iff_not,List.length_drop,true_and];omega
theorem C80{a b:FV}{i j k l:Int}(h:a=b)(h1:i=j)(h2:k=l):DV (.tuple #[a,I0 i,I0 k])=.returned (.tuple #[b,I0 j,I0 l]):=by rw[h,h1,h2]
theorem A52(s:List UInt8)(w:FU)(hm:s.take 1≠[84]):
  FW prog 84 #[S0 s] w (R0 w (.tuple #[J8 (nS s),I0 (uG s),I0 (dP s)])):=by
 have HU:=G6 (dQ (s:=s) (aI (fun h=>hm h.1)));have hlt:=BO8 s;obtain⟨T,hT⟩:∃T,s.take 1=T:=⟨_,rfl⟩;rw[hT]at hm;have hm':(T==[84])=false:=by simpa using hm
 have ET:=G6 hT;clear hT hm;go_enter func84,ntmps84;go_wp2_with fail;refine(XQ s _).mono ?_;rintro e wA ⟨rfl,rfl⟩;go_wp2_with fail;have H:=G6 (Dec.new (w:=w) (s:=s));generalize (w.alloc _).alloc _=W at H⊢;refine(S9 (w.heap.size+1) 1 _ _ _ (by decide) (G5 H).cur).mono ?_;rintro e w1 ⟨rfl,hc1,ho1⟩;replace H:=G6 ((G5 H).took hc1 ho1);clear hc1 ho1 W;generalize w1=W at*;rw[G5 ET];go_wp2_with fail;refine(JY (w.heap.size+1) 2 _ _ _ (by decide) (G5 H).cur).mono ?_;rintro e w1 ⟨rfl,hc1,ho1⟩;replace H:=G6 ((G5 H).took hc1 ho1);clear hc1 ho1 W;generalize w1=W at*;rw[MI _ _ (by decide)];rw[show un ((s.drop 1).take 2)=lenOf s from rfl];simp only[FM,Nat.reduceAdd]at H;obtain⟨L,hL⟩:∃L,lenOf s=L:=⟨_,rfl⟩;rw[hL]at hlt⊢;have EL:=G6 hL;clear hL;have r0:W.cell? ⟨w.heap.size,0,FX⟩=FZ (I0 0):=(G5 H).res.c0;have r1:W.cell? ⟨w.heap.size,1,FX⟩=FZ (I0 0):=(G5 H).res.c1;have r2:W.cell? ⟨w.heap.size,2,FX⟩=FZ (I0 0):=(G5 H).res.c2;have r3:W.cell? ⟨w.heap.size,3,FX⟩=FZ (.string ⟨#[]⟩):=(G5 H).res.c3;have r4:W.cell? ⟨w.heap.size,4,FX⟩=FZ (.string ⟨#[]⟩):=(G5 H).res.c4;have r5:W.cell? ⟨w.heap.size,5,FX⟩=FZ (I0 0):=(G5 H).res.c5;have r6:W.cell? ⟨w.heap.size,6,FX⟩=FZ (I0 0):=(G5 H).res.c6;have rf:=(G5 H).res.f;go_wp2_with fail;change bodyPost _ _ _ _ _ (KW W w.heap.size t0);have HP:=G6 ((G5 H).res.store t0);have hB:B0 w (KW W w.heap.size t0):=(N8 _ _ _).below (G5 H).below (A8 _);generalize KW W w.heap.size t0=V2 at HP hB⊢;have s0:=(G5 HP).c0;have s1:=(G5 HP).c1;have s2:=(G5 HP).c2;have s3:=(G5 HP).c3;have s4:=(G5 HP).c4;have s5:=(G5 HP).c5;have s6:=(G5 HP).c6;exact bodyPost_ret (v:=.tuple #[J8 t0,I0 0,I0 2]) (by simp[results,results84,go_sem,s0,s1,s2,s3,s4,s5,s6,J8]) rfl ⟨by rw[(G5 HU).1,(G5 HU).2.1,(G5 HU).2.2],hB⟩
theorem A53(s:List UInt8)(w:FU)(hm:s.take 1=[84])(hl:1024<lenOf s):
  FW prog 84 #[S0 s] w (R0 w (.tuple #[J8 (nS s),I0 (uG s),I0 (dP s)])):=by
 have HU:=G6 (dQ (s:=s) (aI (fun h=>by omega)));have ET:=G6 hm;clear hm;go_enter func84,ntmps84;go_wp2_with fail;refine(XQ s _).mono ?_;rintro e wA ⟨rfl,rfl⟩;go_wp2_with fail;have H:=G6 (Dec.new (w:=w) (s:=s));generalize (w.alloc _).alloc _=W at H⊢;refine(S9 (w.heap.size+1) 1 _ _ _ (by decide) (G5 H).cur).mono ?_;rintro e w1 ⟨rfl,hc1,ho1⟩;replace H:=G6 ((G5 H).took hc1 ho1);clear hc1 ho1 W;generalize w1=W at*;rw[G5 ET];go_wp2_with fail;refine(JY (w.heap.size+1) 2 _ _ _ (by decide) (G5 H).cur).mono ?_;rintro e w1 ⟨rfl,hc1,ho1⟩;replace H:=G6 ((G5 H).took hc1 ho1);clear hc1 ho1 W;generalize w1=W at*;rw[MI _ _ (by decide)];rw[show un ((s.drop 1).take 2)=lenOf s from rfl];simp only[FM,Nat.reduceAdd]at H;obtain⟨L,hL⟩:∃L,lenOf s=L:=⟨_,rfl⟩;rw[hL]at hl⊢;have EL:=G6 hL;clear hL;have r0:W.cell? ⟨w.heap.size,0,FX⟩=FZ (I0 0):=(G5 H).res.c0;have r1:W.cell? ⟨w.heap.size,1,FX⟩=FZ (I0 0):=(G5 H).res.c1;have r2:W.cell? ⟨w.heap.size,2,FX⟩=FZ (I0 0):=(G5 H).res.c2;have r3:W.cell? ⟨w.heap.size,3,FX⟩=FZ (.string ⟨#[]⟩):=(G5 H).res.c3;have r4:W.cell? ⟨w.heap.size,4,FX⟩=FZ (.string ⟨#[]⟩):=(G5 H).res.c4;have r5:W.cell? ⟨w.heap.size,5,FX⟩=FZ (I0 0):=(G5 H).res.c5;have r6:W.cell? ⟨w.heap.size,6,FX⟩=FZ (I0 0):=(G5 H).res.c6;have rf:=(G5 H).res.f;go_wp2_with fail;change bodyPost _ _ _ _ _ (KW W w.heap.size t0);have HP:=G6 ((G5 H).res.store t0);have hB:B0 w (KW W w.heap.size t0):=(N8 _ _ _).below (G5 H).below (A8 _);generalize KW W w.heap.size t0=V2 at HP hB⊢;have s0:=(G5 HP).c0;have s1:=(G5 HP).c1;have s2:=(G5 HP).c2;have s3:=(G5 HP).c3;have s4:=(G5 HP).c4;have s5:=(G5 HP).c5;have s6:=(G5 HP).c6;exact bodyPost_ret (v:=.tuple #[J8 t0,I0 0,I0 2]) (by simp[results,results84,go_sem,s0,s1,s2,s3,s4,s5,s6,J8]) rfl ⟨by rw[(G5 HU).1,(G5 HU).2.1,(G5 HU).2.2],hB⟩
theorem xZ(s:List UInt8)(w:FU)(hs:s.length<=140737488355328)(hm:s.take 1=[84])(hl:lenOf s<=1024)(hn:s.length<lenOf s+7):
  FW prog 84 #[S0 s] w (R0 w (.tuple #[J8 (nS s),I0 (uG s),I0 (dP s)])):=by
 have HU:=G6 (dQ (s:=s) (aI (fun h=>by omega)));have hlk:A51 s=true:=by
  cases h:A51 s with
  |true=>rfl
  |false=>have:=xY.1 h;omega
 have HK:=G6 hlk;have ET:=G6 hm;clear hm hlk;go_enter func84,ntmps84;go_wp2_with fail;refine(XQ s _).mono ?_;rintro e wA ⟨rfl,rfl⟩;go_wp2_with fail;have H:=G6 (Dec.new (w:=w) (s:=s));generalize (w.alloc _).alloc _=W at H⊢;refine(S9 (w.heap.size+1) 1 _ _ _ (by decide) (G5 H).cur).mono ?_;rintro e w1 ⟨rfl,hc1,ho1⟩;replace H:=G6 ((G5 H).took hc1 ho1);clear hc1 ho1 W;generalize w1=W at*;rw[G5 ET];go_wp2_with fail;refine(JY (w.heap.size+1) 2 _ _ _ (by decide) (G5 H).cur).mono ?_;rintro e w1 ⟨rfl,hc1,ho1⟩;replace H:=G6 ((G5 H).took hc1 ho1);clear hc1 ho1 W;generalize w1=W at*;rw[MI _ _ (by decide)];rw[show un ((s.drop 1).take 2)=lenOf s from rfl];simp only[FM,Nat.reduceAdd]at H;obtain⟨L,hL⟩:∃L,lenOf s=L:=⟨_,rfl⟩;rw[hL]at hl hn⊢;have EL:=G6 hL;clear hL;go_wp2_with fail;refine(S9 (w.heap.size+1) L _ _ _ (by omega) (G5 H).cur).mono ?_;rintro e w1 ⟨rfl,hc1,ho1⟩;replace H:=G6 ((G5 H).took hc1 ho1);clear hc1 ho1 W;generalize w1=W at*;simp only[FM]at H;have CL:=G6 (rZ (w.heap.size+1) _ _ _ (G5 H).cur);rw[List.length_drop]at CL;have hzs:(AQ s.toArray).size=s.length:=DK ⟨s.toArray⟩;go_wp2_with fail;refine(G5 CL).mono ?_;rintro e wL ⟨rfl,hwL⟩;rw[hwL];clear hwL;clear CL;go_wp2_with fail;refine(JY (w.heap.size+1) 4 _ _ _ (by decide) (G5 H).cur).mono ?_;rintro e w1 ⟨rfl,hc1,ho1⟩;replace H:=G6 ((G5 H).took hc1 ho1);clear hc1 ho1 W;generalize w1=W at*;simp only[FM]at H;have cc1:=(G5 H).cur;rw[<-G5 EL]at cc1;have cc2:Cur W (w.heap.size+1) _ (A51 s):=cc1;rw[G5 HK]at cc2;have CSh:=G6 (kW _ _ _ _ cc2);clear cc1 cc2;go_wp2_with fail;refine(G5 CSh).mono ?_;rintro e wS ⟨rfl,hwS⟩;rw[hwS];clear hwS;clear CSh;have r0:W.cell? ⟨w.heap.size,0,FX⟩=FZ (I0 0):=(G5 H).res.c0;have r1:W.cell? ⟨w.heap.size,1,FX⟩=FZ (I0 0):=(G5 H).res.c1;have r2:W.cell? ⟨w.heap.size,2,FX⟩=FZ (I0 0):=(G5 H).res.c2;have r3:W.cell? ⟨w.heap.size,3,FX⟩=FZ (.string ⟨#[]⟩):=(G5 H).res.c3;have r4:W.cell? ⟨w.heap.size,4,FX⟩=FZ (.string ⟨#[]⟩):=(G5 H).res.c4;have r5:W.cell? ⟨w.heap.size,5,FX⟩=FZ (I0 0):=(G5 H).res.c5;have r6:W.cell? ⟨w.heap.size,6,FX⟩=FZ (I0 0):=(G5 H).res.c6;have rf:=(G5 H).res.f;go_wp2_with fail;change bodyPost _ _ _ _ _ (KW W w.heap.size t0);have HP:=G6 ((G5 H).res.store t0);have hB:B0 w (KW W w.heap.size t0):=(N8 _ _ _).below (G5 H).below (A8 _);generalize KW W w.heap.size t0=V2 at HP hB⊢;have s0:=(G5 HP).c0;have s1:=(G5 HP).c1;have s2:=(G5 HP).c2;have s3:=(G5 HP).c3;have s4:=(G5 HP).c4;have s5:=(G5 HP).c5;have s6:=(G5 HP).c6;exact bodyPost_ret (v:=.tuple #[J8 t0,I0 0,I0 2]) (by simp[results,results84,go_sem,s0,s1,s2,s3,s4,s5,s6,J8]) rfl ⟨by rw[(G5 HU).1,(G5 HU).2.1,(G5 HU).2.2],hB⟩
theorem yA(s:List UInt8)(w:FU)(hm:s.take 1=[84])(hl:lenOf s<=1024)(hn:lenOf s+7<=s.length):
  FW prog 84 #[S0 s] w (R0 w (.tuple #[J8 (nS s),I0 (uG s),I0 (dP s)])):=by
 have HW:=G6 (dR.2 ⟨hm,hl,hn⟩);have hlk:A51 s=false:=xY.2 hn;have HK:=G6 hlk;have ET:=G6 hm;clear hm hlk;go_enter func84,ntmps84;go_wp2_with fail;refine(XQ s _).mono ?_;rintro e wA ⟨rfl,rfl⟩;go_wp2_with fail;have H:=G6 (Dec.new (w:=w) (s:=s));generalize (w.alloc _).alloc _=W at H⊢;refine(S9 (w.heap.size+1) 1 _ _ _ (by decide) (G5 H).cur).mono ?_;rintro e w1 ⟨rfl,hc1,ho1⟩;replace H:=G6 ((G5 H).took hc1 ho1);clear hc1 ho1 W;generalize w1=W at*;rw[G5 ET];go_wp2_with fail;refine(JY (w.heap.size+1) 2 _ _ _ (by decide) (G5 H).cur).mono ?_;rintro e w1 ⟨rfl,hc1,ho1⟩;replace H:=G6 ((G5 H).took hc1 ho1);clear hc1 ho1 W;generalize w1=W at*;rw[MI _ _ (by decide)];rw[show un ((s.drop 1).take 2)=lenOf s from rfl];simp only[FM,Nat.reduceAdd]at H;obtain⟨L,hL⟩:∃L,lenOf s=L:=⟨_,rfl⟩;rw[hL]at hl hn⊢;have EL:=G6 hL;clear hL;go_wp2_with fail;refine(S9 (w.heap.size+1) L _ _ _ (by omega) (G5 H).cur).mono ?_;rintro e w1 ⟨rfl,hc1,ho1⟩;replace H:=G6 ((G5 H).took hc1 ho1);clear hc1 ho1 W;generalize w1=W at*;simp only[FM]at H;obtain⟨B,hB⟩:∃B,(s.drop 3).take L=B:=⟨_,rfl⟩;rw[hB];have EB:=G6 hB;clear hB;have CL:=G6 (rZ (w.heap.size+1) _ _ _ (G5 H).cur);rw[List.length_drop]at CL;have hzs:(AQ s.toArray).size=s.length:=DK ⟨s.toArray⟩;obtain⟨M,hM⟩:∃M,s.length-(3+L)=M:=⟨_,rfl⟩;rw[hM]at CL;have hM2:s.length=M+(L+3):=by omega
 obtain⟨Y,hY⟩:∃Y,s.drop (3+L)=Y:=⟨_,rfl⟩;have EY:=G6 hY;have HM:=G6 hM2;clear hY hM hM2;go_wp2_with fail;refine(G5 CL).mono ?_;rintro e wL ⟨rfl,hwL⟩;rw[hwL];clear hwL;clear CL;go_wp2_with fail;refine(JY (w.heap.size+1) 4 _ _ _ (by decide) (G5 H).cur).mono ?_;rintro e w1 ⟨rfl,hc1,ho1⟩;replace H:=G6 ((G5 H).took hc1 ho1);clear hc1 ho1 W;generalize w1=W at*;simp only[FM]at H;have cc1:=(G5 H).cur;rw[<-G5 EL]at cc1;have cc3:Cur W (w.heap.size+1) _ (A51 s):=cc1;rw[G5 HK]at cc3;have CSh:=G6 (kW _ _ _ _ cc3);have cc2:=cc3.c1;clear cc1 cc3;rw[MI _ _ (by decide),show 3+L=L+3 from by omega];obtain⟨Q,hQ⟩:∃Q,un ((s.drop (L+3)).take 4)=Q:=⟨_,rfl⟩;rw[hQ];have EQ:=G6 hQ;clear hQ;have hd3:wrap64 ((s.length:Int)-(M:Int))=(L:Int)+3:=by have:=G5 HM;unfold wrap64;omega
 rw[hd3];clear hd3;have c1:(0:Int)<=(L:Int)+3:=by omega
 have c2:(L:Int)+3<=(s.length:Int):=by omega
 go_wp2_with fail;refine(G5 CSh).mono ?_;rintro e wS ⟨rfl,hwS⟩;rw[hwS];clear hwS;clear CSh;go_wp2_with fail;rw[rY];have hzp:(AQ (s.take (L+3)).toArray).size=(s.take (L+3)).length:=DK ⟨_⟩;rw[F6]at hzp;refine(AE3 ⟨(s.take (L+3)).toArray⟩ _ (by omega)).mono ?_;rintro e w6 ⟨rfl,hw6⟩;rw[hw6];clear hzp hw6;rw[show (AQ (s.take (L+3)).toArray).data.toList=s.take (L+3)from rfl];obtain⟨X,hX⟩:∃X,A84 (s.take (L+3))=X:=⟨_,rfl⟩;rw[hX];have EX:=G6 hX;clear hX;by_cases hXQ:X=Q
 .subst hXQ;have CS8:Hid (AU0 s=true):=G6 (A85.2 (by rw[G5 EL,G5 EQ,G5 EX]));have Hin:Hid (V9 s=B):=G6 (by rw[V9,G5 EL,G5 EB]);go_wp2_with fail;refine(AP8 B _).mono ?_;rintro e w5 ⟨rfl,hb5⟩;replace H:=G6 ((G5 H).kept hb5);clear hb5 cc2 W;generalize w5=W at*;by_cases hE:uF B=0
  .have HU:=G6 (BW9 (G5 HW) (G5 CS8) (by rw[G5 Hin];exact hE));have Ht:Hid (AT9 B=tOf B):=G6 (by rw[AT9,hE,if_pos rfl]);rw[hE,G5 Ht];rw[G5 Hin,G5 EL]at HU;obtain⟨t,ht⟩:∃t,tOf B=t:=⟨_,rfl⟩;rw[ht]at HU⊢;clear ht hE Ht;obtain⟨z,o,s',p,d,v,u⟩:=t;unfold J8;have r0:W.cell? ⟨w.heap.size,0,FX⟩=FZ (I0 0):=(G5 H).res.c0;have r1:W.cell? ⟨w.heap.size,1,FX⟩=FZ (I0 0):=(G5 H).res.c1;have r2:W.cell? ⟨w.heap.size,2,FX⟩=FZ (I0 0):=(G5 H).res.c2;have r3:W.cell? ⟨w.heap.size,3,FX⟩=FZ (.string ⟨#[]⟩):=(G5 H).res.c3;have r4:W.cell? ⟨w.heap.size,4,FX⟩=FZ (.string ⟨#[]⟩):=(G5 H).res.c4;have r5:W.cell? ⟨w.heap.size,5,FX⟩=FZ (I0 0):=(G5 H).res.c5;have r6:W.cell? ⟨w.heap.size,6,FX⟩=FZ (I0 0):=(G5 H).res.c6;have rf:=(G5 H).res.f;have hlt2:w.heap.size<W.heap.size:=by have:=(G5 H).size;omega
   go_wp2_with fail;change bodyPost _ _ _ _ _ ((KW W w.heap.size ⟨z,o,s',p,d,v,u⟩).alloc (FT #[I0 z,I0 o,I0 s',S0 p,S0 d,I0 v,I0 u] 93));have HP:=G6 (((G5 H).res.store ⟨z,o,s',p,d,v,u⟩).kept ((AA _ _).alloc (A8 _) (FT #[I0 z,I0 o,I0 s',S0 p,S0 d,I0 v,I0 u] 93)) (by rw[(N8 _ _ _).size];exact hlt2));have hB:B0 w ((KW W w.heap.size ⟨z,o,s',p,d,v,u⟩).alloc (FT #[I0 z,I0 o,I0 s',S0 p,S0 d,I0 v,I0 u] 93)):=((N8 _ _ _).below (G5 H).below (A8 _)).alloc (by rw[(N8 _ _ _).size];exact Nat.le_of_lt hlt2) _;generalize (KW W w.heap.size ⟨z,o,s',p,d,v,u⟩).alloc (FT #[I0 z,I0 o,I0 s',S0 p,S0 d,I0 v,I0 u] 93)=V2 at HP hB⊢;have s0:=(G5 HP).c0;have s1:=(G5 HP).c1;have s2:=(G5 HP).c2;have s3:=(G5 HP).c3;have s4:=(G5 HP).c4;have s5:=(G5 HP).c5;have s6:=(G5 HP).c6;exact bodyPost_ret (v:=.tuple #[J8 ⟨z,o,s',p,d,v,u⟩,I0 ((L:Int)+3+4),I0 0]) (by simp[results,results84,go_sem,s0,s1,s2,s3,s4,s5,s6,J8]) rfl ⟨C80 (by rw[(G5 HU).2.1]) (by rw[(G5 HU).2.2];omega) (G5 HU).1.symm,hB⟩
  .have HU:=G6 (BG2 (G5 HW) (G5 CS8) (by rw[G5 Hin]) hE);have Ht:Hid (AT9 B=t0):=G6 (by rw[AT9,if_neg hE]);rw[G5 Ht];obtain⟨E,hEE⟩:∃E,uF B=E:=⟨_,rfl⟩;rw[hEE]at HU hE⊢;have hne:(E !=0)=true:=by simpa [bne]using hE
   clear hEE hE Ht;unfold J8 t0;have r0:W.cell? ⟨w.heap.size,0,FX⟩=FZ (I0 0):=(G5 H).res.c0;have r1:W.cell? ⟨w.heap.size,1,FX⟩=FZ (I0 0):=(G5 H).res.c1;have r2:W.cell? ⟨w.heap.size,2,FX⟩=FZ (I0 0):=(G5 H).res.c2;have r3:W.cell? ⟨w.heap.size,3,FX⟩=FZ (.string ⟨#[]⟩):=(G5 H).res.c3;have r4:W.cell? ⟨w.heap.size,4,FX⟩=FZ (.string ⟨#[]⟩):=(G5 H).res.c4;have r5:W.cell? ⟨w.heap.size,5,FX⟩=FZ (I0 0):=(G5 H).res.c5;have r6:W.cell? ⟨w.heap.size,6,FX⟩=FZ (I0 0):=(G5 H).res.c6;have rf:=(G5 H).res.f;have hlt2:w.heap.size<W.heap.size:=by have:=(G5 H).size;omega
   go_wp2_with fail;change bodyPost _ _ _ _ _ ((KW W w.heap.size t0).alloc (FT #[I0 0,I0 0,I0 0,.string ⟨#[]⟩,.string ⟨#[]⟩,I0 0,I0 0] 93));have HP:=G6 (((G5 H).res.store t0).kept ((AA _ _).alloc (A8 _) (FT #[I0 0,I0 0,I0 0,.string ⟨#[]⟩,.string ⟨#[]⟩,I0 0,I0 0] 93)) (by rw[(N8 _ _ _).size];exact hlt2));have hB:B0 w ((KW W w.heap.size t0).alloc (FT #[I0 0,I0 0,I0 0,.string ⟨#[]⟩,.string ⟨#[]⟩,I0 0,I0 0] 93)):=((N8 _ _ _).below (G5 H).below (A8 _)).alloc (by rw[(N8 _ _ _).size];exact Nat.le_of_lt hlt2) _;generalize (KW W w.heap.size t0).alloc (FT #[I0 0,I0 0,I0 0,.string ⟨#[]⟩,.string ⟨#[]⟩,I0 0,I0 0] 93)=V2 at HP hB⊢;have s0:=(G5 HP).c0;have s1:=(G5 HP).c1;have s2:=(G5 HP).c2;have s3:=(G5 HP).c3;have s4:=(G5 HP).c4;have s5:=(G5 HP).c5;have s6:=(G5 HP).c6;exact bodyPost_ret (v:=.tuple #[J8 t0,I0 0,I0 E]) (by simp[results,results84,go_sem,s0,s1,s2,s3,s4,s5,s6,J8]) rfl ⟨by rw[(G5 HU).1,(G5 HU).2.1,(G5 HU).2.2],hB⟩
 .have CS8:Hid (AU0 s=false):=G6 (by
   cases h:AU0 s with
   |false=>rfl
   |true=>
    have h2:=A85.1 h;rw[G5 EL,G5 EQ,G5 EX]at h2;exact absurd h2.symm hXQ)
  have HU:=G6 (C15 (G5 HW) (G5 CS8));have hne:((X:Int) !=(Q:Int))=true:=by simp[bne];omega
  have r0:W.cell? ⟨w.heap.size,0,FX⟩=FZ (I0 0):=(G5 H).res.c0;have r1:W.cell? ⟨w.heap.size,1,FX⟩=FZ (I0 0):=(G5 H).res.c1;have r2:W.cell? ⟨w.heap.size,2,FX⟩=FZ (I0 0):=(G5 H).res.c2;have r3:W.cell? ⟨w.heap.size,3,FX⟩=FZ (.string ⟨#[]⟩):=(G5 H).res.c3;have r4:W.cell? ⟨w.heap.size,4,FX⟩=FZ (.string ⟨#[]⟩):=(G5 H).res.c4;have r5:W.cell? ⟨w.heap.size,5,FX⟩=FZ (I0 0):=(G5 H).res.c5;have r6:W.cell? ⟨w.heap.size,6,FX⟩=FZ (I0 0):=(G5 H).res.c6;have rf:=(G5 H).res.f;go_wp2_with fail;change bodyPost _ _ _ _ _ (KW W w.heap.size t0);have HP:=G6 ((G5 H).res.store t0);have hB:B0 w (KW W w.heap.size t0):=(N8 _ _ _).below (G5 H).below (A8 _);generalize KW W w.heap.size t0=V2 at HP hB⊢;have s0:=(G5 HP).c0;have s1:=(G5 HP).c1;have s2:=(G5 HP).c2;have s3:=(G5 HP).c3;have s4:=(G5 HP).c4;have s5:=(G5 HP).c5;have s6:=(G5 HP).c6;exact bodyPost_ret (v:=.tuple #[J8 t0,I0 0,I0 5]) (by simp[results,results84,go_sem,s0,s1,s2,s3,s4,s5,s6,J8]) rfl ⟨by rw[(G5 HU).1,(G5 HU).2.1,(G5 HU).2.2],hB⟩
theorem AQ0(s:List UInt8)(w:FU)(hs:s.length<=140737488355328):
  FW prog 84 #[S0 s] w (R0 w (.tuple #[J8 (nS s),I0 (uG s),I0 (dP s)])):=by
 by_cases hm:s.take 1=[84]
 .by_cases hl:lenOf s<=1024
  .by_cases hn:lenOf s+7<=s.length
   .exact yA s w hm hl hn
   .exact xZ s w hs hm hl (by omega)
  .exact A53 s w hm (by omega)
 .exact A52 s w hm
