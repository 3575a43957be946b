/-
  Part.
-/
import Derived.Test.YtppjdeblncincaaGreatDoorLOE
import Derived.Test.YtppjdeblncincaaGreatDoorLOB
set_option maxRecDepth 20000
set_option maxHeartbeats 8000000
namespace Go.Proofs.YtppjdeblncincaaGreatDoor
open Go.RowKit Go.Proofs.Tryz
open _root_.Nat renaming le_refl->A8,zero_le->AZ,mul_comm->DK
open Go.RowKit.Below renaming refl->AA
open _root_.Array renaming getElem?_eq_some_iff->AL,getElem?_eq_getElem->BR
open _root_.ByteArray renaming mk->AU
open Go.World renaming cell?->AX,frozen?->FB,size_alloc->FT
open _root_.List renaming take_of_length_le->BN,append_assoc->BU,take_length->DW,length_take->F8,drop_drop->FQ
open Go.Lib renaming size_eq->DN
open Go.Ending renaming returned->DX
open Go.Obj renaming cells->FV
open Go renaming World->FW,Value->FX,Calls->FZ
open _root_.Option renaming none->G5,some->G6
variable{W V:FW}{a:Int}{b:Bool}{t:GN}{g B:Nat}{r l:List UInt8}
theorem A14{w1:FW}(hb:B0 W w1):(∀b o,b<W.heap.size->w1.cell? ⟨b,o,G5⟩=W.cell? ⟨b,o,G5⟩)/\(∀b o,b<W.heap.size->w1.frozen? ⟨b,o,G5⟩=W.frozen? ⟨b,o,G5⟩):=
 ⟨fun b o h=>hb.cell (p:=⟨b,o,G5⟩) h,fun b o h=>hb.frozen (p:=⟨b,o,G5⟩) h⟩
theorem JM(n k:Int)(w:FW):
  FZ prog 215 #[I0 n,I0 k] w fun e w'=>e=.returned (.bool (yZ n k))/\w'=w:=by
 go_enter func215,ntmps215
 go_wp2
 all_goals go_ret
 all_goals exact⟨SQ (by rw[Bool.eq_iff_iff,VB];simp;try omega),rfl⟩
theorem TQ{w:FW}{o:Obj}{w1:FW}(h:Below (w.alloc o).heap.size (w.alloc o) w1):B0 w w1:=
 ((AA _ _).alloc (A8 _) _).trans (h.mono (by simp))
theorem BK4{o:Int}(h:opB o=true):o=1\/o=2\/o=3\/o=4\/o=5:=by have:=jC.1 h;omega
theorem fm_1(z s:Int)(p d:List UInt8)(v u:Int):fmB ⟨z,1,s,p,d,v,u⟩=(p==[]&&d==[]&&v==0&&u==0):=rfl
theorem fm_2(z s:Int)(p d:List UInt8)(v u:Int):fmB ⟨z,2,s,p,d,v,u⟩=(p==[]&&d==[]&&v==0&&u==0):=rfl
theorem fm_3(z s:Int)(p d:List UInt8)(v u:Int):fmB ⟨z,3,s,p,d,v,u⟩=(J6 p&& !(p==[47])&&v==0):=rfl
theorem fm_4(z s:Int)(p d:List UInt8)(v u:Int):fmB ⟨z,4,s,p,d,v,u⟩=(J6 p&& !(p==[47])&&d==[]&&v==0&&u==0):=rfl
theorem fm_5(z s:Int)(p d:List UInt8)(v u:Int):fmB ⟨z,5,s,p,d,v,u⟩=(J6 p&&u==0):=rfl
theorem BK5(z s:Int)(p d:List UInt8)(v u:Int)(w:FW):
  FZ prog 216 #[.agg #[I0 z,I0 1,I0 s,S0 p,S0 d,I0 v,I0 u]] w (R0 w (.bool (fmB ⟨z,1,s,p,d,v,u⟩))):=by
 rw[fm_1]
 cases hg:J6 p
 all_goals
  have Hg:=G8 hg;clear hg;go_enter func216,ntmps216;go_wp2_with fail;refine(LX _ _).mono ?_;rintro e w1 ⟨rfl,hb1⟩;have hbz:=TQ hb1;obtain⟨hc,hf⟩:=A14 hb1;rw[show (AU p.toArray).data.toList=p from rfl,G7 Hg];go_wp2_with fail
  all_goals go_ret
  all_goals (clear hc hf hb1)
  all_goals (refine⟨SQ ?_,hbz⟩;clear hbz Hg;simp[*])
theorem BK6(z s:Int)(p d:List UInt8)(v u:Int)(w:FW):
  FZ prog 216 #[.agg #[I0 z,I0 2,I0 s,S0 p,S0 d,I0 v,I0 u]] w (R0 w (.bool (fmB ⟨z,2,s,p,d,v,u⟩))):=by
 rw[fm_2]
 cases hg:J6 p
 all_goals
  have Hg:=G8 hg;clear hg;go_enter func216,ntmps216;go_wp2_with fail;refine(LX _ _).mono ?_;rintro e w1 ⟨rfl,hb1⟩;have hbz:=TQ hb1;obtain⟨hc,hf⟩:=A14 hb1;rw[show (AU p.toArray).data.toList=p from rfl,G7 Hg];go_wp2_with fail
  all_goals go_ret
  all_goals (clear hc hf hb1)
  all_goals (refine⟨SQ ?_,hbz⟩;clear hbz Hg;simp[*])
theorem BK7(z s:Int)(p d:List UInt8)(v u:Int)(w:FW):
  FZ prog 216 #[.agg #[I0 z,I0 3,I0 s,S0 p,S0 d,I0 v,I0 u]] w (R0 w (.bool (fmB ⟨z,3,s,p,d,v,u⟩))):=by
 rw[fm_3]
 cases hg:J6 p
 all_goals
  have Hg:=G8 hg;clear hg;go_enter func216,ntmps216;go_wp2_with fail;refine(LX _ _).mono ?_;rintro e w1 ⟨rfl,hb1⟩;have hbz:=TQ hb1;obtain⟨hc,hf⟩:=A14 hb1;rw[show (AU p.toArray).data.toList=p from rfl,G7 Hg];go_wp2_with fail
  all_goals go_ret
  all_goals (clear hc hf hb1)
  all_goals (refine⟨SQ ?_,hbz⟩;clear hbz Hg;simp[*])
theorem BK8(z s:Int)(p d:List UInt8)(v u:Int)(w:FW):
  FZ prog 216 #[.agg #[I0 z,I0 4,I0 s,S0 p,S0 d,I0 v,I0 u]] w (R0 w (.bool (fmB ⟨z,4,s,p,d,v,u⟩))):=by
 rw[fm_4]
 cases hg:J6 p
 all_goals
  have Hg:=G8 hg;clear hg;go_enter func216,ntmps216;go_wp2_with fail;refine(LX _ _).mono ?_;rintro e w1 ⟨rfl,hb1⟩;have hbz:=TQ hb1;obtain⟨hc,hf⟩:=A14 hb1;rw[show (AU p.toArray).data.toList=p from rfl,G7 Hg];go_wp2_with fail
  all_goals go_ret
  all_goals (clear hc hf hb1)
  all_goals (refine⟨SQ ?_,hbz⟩;clear hbz Hg;simp[*])
theorem BK9(z s:Int)(p d:List UInt8)(v u:Int)(w:FW):
  FZ prog 216 #[.agg #[I0 z,I0 5,I0 s,S0 p,S0 d,I0 v,I0 u]] w (R0 w (.bool (fmB ⟨z,5,s,p,d,v,u⟩))):=by
 rw[fm_5]
 cases hg:J6 p
 all_goals
  have Hg:=G8 hg;clear hg;go_enter func216,ntmps216;go_wp2_with fail;refine(LX _ _).mono ?_;rintro e w1 ⟨rfl,hb1⟩;have hbz:=TQ hb1;have hz1:w.heap.size<w1.heap.size:=by have:=hb1.size;simp at this;omega
  obtain⟨hc,hf⟩:=A14 hb1;rw[show (AU p.toArray).data.toList=p from rfl,G7 Hg];go_wp2_with fail
  all_goals
   refine(LX _ _).mono ?_;rintro e w2 ⟨rfl,hb2⟩;have hbz2:=S9 hbz hb2;obtain⟨hc2,hf2⟩:=A14 hb2;rw[show (AU p.toArray).data.toList=p from rfl,G7 Hg];go_wp2_with fail
  all_goals go_ret
  all_goals (clear hc hf hb1 hc2 hf2 hb2 hbz)
  all_goals (refine⟨SQ ?_,hbz2⟩;clear hbz2 Hg;simp[*])
theorem oD(t:GN)(w:FW)(ht:opB t.o=true):
  FZ prog 216 #[J9 t] w (R0 w (.bool (fmB t))):=by
 obtain⟨z,o,s,p,d,v,u⟩:=t;rcases BK4 ht with h|h|h|h|h<;>(replace h:o=_:=h;subst h)
 .exact BK5 z s p d v u w
 .exact BK6 z s p d v u w
 .exact BK7 z s p d v u w
 .exact BK8 z s p d v u w
 .exact BK9 z s p d v u w
theorem CI8{o:Int}(h:opB o=false):o<1\/5<o:=by
 by_cases h1:1<=o/\o<=5
 .rw[jC.2 h1]at h;exact absurd h (by decide)
 .omega
theorem fJ{b:Int}(h:a=b):DX (I0 a)=.returned (I0 b):=by rw[h]
theorem AA5(h:KN t.z=false\/yZ t.s 1=false\/yZ t.v 0=false\/yZ t.w 0=false):BE3 t=false:=by
 rcases h with h|h|h|h<;>simp[BE3,h]
theorem XG(t:GN)(w:FW)(hd:t.d.length<=140737488355328):
  FZ prog 191 #[J9 t] w (R0 w (I0 (gdE t))):=by
 cases ho:opB t.o
 .have H:=G8 (BF4 ho);have hor:=CI8 ho;clear ho;obtain⟨z,o,s,p,d,v,u⟩:=t;unfold J9;replace hor:o<1\/5<o:=hor;rcases hor with hor|hor
  all_goals
   go_enter func191,ntmps191;go_wp2_with fail;go_ret;exact⟨fJ (G7 H).symm,(AA _ _).alloc (A8 _) _⟩
 have hor:=jC.1 ho;have ho1:=hor.1;have ho2:=hor.2;have Ho:=G8 ho;clear ho hor
 cases hz:KN t.z
 .have H:=G8 (aC (G7 Ho) (AA5 (.inl hz)));have Hz:=G8 hz;clear hz
  .obtain⟨z,o,s,p,d,v,u⟩:=t;unfold J9;have hzd:(AU d.toArray).size=d.length:=DN ⟨d.toArray⟩;replace ho1:1<=o:=ho1;replace ho2:o<=5:=ho2;replace hd:d.length<=140737488355328:=hd;go_enter func191,ntmps191;go_wp2_with fail;refine(JJ _ _).mono ?_;rintro e w1 ⟨rfl,rfl⟩;rw[G7 Hz];go_wp2_with fail;go_ret;exact⟨fJ (G7 H).symm,(AA _ _).alloc (A8 _) _⟩
 cases hs:yZ t.s 1
 .have H:=G8 (aC (G7 Ho) (AA5 (.inr (.inl hs))));have Hz:=G8 hz;have Hs:=G8 hs;clear hz hs
  .obtain⟨z,o,s,p,d,v,u⟩:=t;unfold J9;have hzd:(AU d.toArray).size=d.length:=DN ⟨d.toArray⟩;replace ho1:1<=o:=ho1;replace ho2:o<=5:=ho2;replace hd:d.length<=140737488355328:=hd;go_enter func191,ntmps191;go_wp2_with fail;refine(JJ _ _).mono ?_;rintro e w1 ⟨rfl,rfl⟩;rw[G7 Hz];go_wp2_with fail;refine(JM _ _ _).mono ?_;rintro e w1 ⟨rfl,rfl⟩;rw[G7 Hs];go_wp2_with fail;go_ret;exact⟨fJ (G7 H).symm,(AA _ _).alloc (A8 _) _⟩
 cases hv:yZ t.v 0
 .have H:=G8 (aC (G7 Ho) (AA5 (.inr (.inr (.inl hv)))));have Hz:=G8 hz;have Hs:=G8 hs;have Hv:=G8 hv;clear hz hs hv
  .obtain⟨z,o,s,p,d,v,u⟩:=t;unfold J9;have hzd:(AU d.toArray).size=d.length:=DN ⟨d.toArray⟩;replace ho1:1<=o:=ho1;replace ho2:o<=5:=ho2;replace hd:d.length<=140737488355328:=hd;go_enter func191,ntmps191;go_wp2_with fail;refine(JJ _ _).mono ?_;rintro e w1 ⟨rfl,rfl⟩;rw[G7 Hz];go_wp2_with fail;refine(JM _ _ _).mono ?_;rintro e w1 ⟨rfl,rfl⟩;rw[G7 Hs];go_wp2_with fail;refine(JM _ _ _).mono ?_;rintro e w1 ⟨rfl,rfl⟩;rw[G7 Hv];go_wp2_with fail;go_ret;exact⟨fJ (G7 H).symm,(AA _ _).alloc (A8 _) _⟩
 cases hu:yZ t.w 0
 .have H:=G8 (aC (G7 Ho) (AA5 (.inr (.inr (.inr hu)))));have Hz:=G8 hz;have Hs:=G8 hs;have Hv:=G8 hv;have Hu:=G8 hu;clear hz hs hv hu
  .obtain⟨z,o,s,p,d,v,u⟩:=t;unfold J9;have hzd:(AU d.toArray).size=d.length:=DN ⟨d.toArray⟩;replace ho1:1<=o:=ho1;replace ho2:o<=5:=ho2;replace hd:d.length<=140737488355328:=hd;go_enter func191,ntmps191;go_wp2_with fail;refine(JJ _ _).mono ?_;rintro e w1 ⟨rfl,rfl⟩;rw[G7 Hz];go_wp2_with fail;refine(JM _ _ _).mono ?_;rintro e w1 ⟨rfl,rfl⟩;rw[G7 Hs];go_wp2_with fail;refine(JM _ _ _).mono ?_;rintro e w1 ⟨rfl,rfl⟩;rw[G7 Hv];go_wp2_with fail;refine(JM _ _ _).mono ?_;rintro e w1 ⟨rfl,rfl⟩;rw[G7 Hu];go_wp2_with fail;go_ret;exact⟨fJ (G7 H).symm,(AA _ _).alloc (A8 _) _⟩
 have HN:=G8 (qB.2 ⟨hz,hs,hv,hu⟩);have Hz:=G8 hz;have Hs:=G8 hs;have Hv:=G8 hv;have Hu:=G8 hu;clear hz hs hv hu;by_cases hl:256<t.d.length
 .have H:=G8 (BF5 (G7 Ho) (G7 HN) hl)
  .obtain⟨z,o,s,p,d,v,u⟩:=t;unfold J9;replace hl:256<d.length:=hl;have hzd:(AU d.toArray).size=d.length:=DN ⟨d.toArray⟩;replace ho1:1<=o:=ho1;replace ho2:o<=5:=ho2;replace hd:d.length<=140737488355328:=hd;go_enter func191,ntmps191;go_wp2_with fail;refine(JJ _ _).mono ?_;rintro e w1 ⟨rfl,rfl⟩;rw[G7 Hz];go_wp2_with fail;refine(JM _ _ _).mono ?_;rintro e w1 ⟨rfl,rfl⟩;rw[G7 Hs];go_wp2_with fail;refine(JM _ _ _).mono ?_;rintro e w1 ⟨rfl,rfl⟩;rw[G7 Hv];go_wp2_with fail;refine(JM _ _ _).mono ?_;rintro e w1 ⟨rfl,rfl⟩;rw[G7 Hu];go_wp2_with fail;go_ret;exact⟨fJ (G7 H).symm,(AA _ _).alloc (A8 _) _⟩
 cases hfm:fmB t
 .have H:=G8 (BF6 (G7 Ho) (G7 HN) (by omega) hfm);have Hf:=G8 hfm;clear hfm
  .obtain⟨z,o,s,p,d,v,u⟩:=t;unfold J9;replace hl:¬256<d.length:=hl;have hzd:(AU d.toArray).size=d.length:=DN ⟨d.toArray⟩;replace ho1:1<=o:=ho1;replace ho2:o<=5:=ho2;replace hd:d.length<=140737488355328:=hd;go_enter func191,ntmps191;go_wp2_with fail;refine(JJ _ _).mono ?_;rintro e w1 ⟨rfl,rfl⟩;rw[G7 Hz];go_wp2_with fail;refine(JM _ _ _).mono ?_;rintro e w1 ⟨rfl,rfl⟩;rw[G7 Hs];go_wp2_with fail;refine(JM _ _ _).mono ?_;rintro e w1 ⟨rfl,rfl⟩;rw[G7 Hv];go_wp2_with fail;refine(JM _ _ _).mono ?_;rintro e w1 ⟨rfl,rfl⟩;rw[G7 Hu];go_wp2_with fail;refine(oD ⟨z,o,s,p,d,v,u⟩ _ (G7 Ho)).mono ?_;rintro e w2 ⟨rfl,hb2⟩;have hbz:=TQ hb2;rw[G7 Hf];go_wp2_with fail;go_ret;exact⟨fJ (G7 H).symm,hbz⟩
 .have H:=G8 (CG1 (G7 Ho) (G7 HN) (by omega) hfm);have Hf:=G8 hfm;clear hfm
  .obtain⟨z,o,s,p,d,v,u⟩:=t;unfold J9;replace hl:¬256<d.length:=hl;have hzd:(AU d.toArray).size=d.length:=DN ⟨d.toArray⟩;replace ho1:1<=o:=ho1;replace ho2:o<=5:=ho2;replace hd:d.length<=140737488355328:=hd;go_enter func191,ntmps191;go_wp2_with fail;refine(JJ _ _).mono ?_;rintro e w1 ⟨rfl,rfl⟩;rw[G7 Hz];go_wp2_with fail;refine(JM _ _ _).mono ?_;rintro e w1 ⟨rfl,rfl⟩;rw[G7 Hs];go_wp2_with fail;refine(JM _ _ _).mono ?_;rintro e w1 ⟨rfl,rfl⟩;rw[G7 Hv];go_wp2_with fail;refine(JM _ _ _).mono ?_;rintro e w1 ⟨rfl,rfl⟩;rw[G7 Hu];go_wp2_with fail;refine(oD ⟨z,o,s,p,d,v,u⟩ _ (G7 Ho)).mono ?_;rintro e w2 ⟨rfl,hb2⟩;have hbz:=TQ hb2;rw[G7 Hf];go_wp2_with fail;go_ret;exact⟨fJ (G7 H).symm,hbz⟩
structure Only(g:Nat)(w w':FW):Prop where
 os:w'.os=w.os
 tape:w'.tape=w.tape
 output:w'.output=w.output
 size:w'.heap.size=w.heap.size
 block:∀k,k≠g->w'.heap[k]?=w.heap[k]?
theorem Only.refl(g:Nat)(w:FW):Only g w w:=⟨rfl,rfl,rfl,rfl,fun _ _=>rfl⟩
theorem Only.trans{a b c:FW}(h:Only g a b)(k:Only g b c):Only g a c:=
 ⟨k.os.trans h.os,k.tape.trans h.tape,k.output.trans h.output,k.size.trans h.size,fun i hi=>(k.block i hi).trans (h.block i hi)⟩
theorem Only.below{a w w':FW}(h:Only g w w')(hb:Below B a w)(hg:B<=g):Below B a w':=
 hb.trans ⟨h.os,h.tape,h.output,Nat.le_of_eq h.size.symm,fun k hk=>h.block k (by omega)⟩
theorem Only.setCell{a w:FW}(h:Only g a w)(j:Nat)(v:FX):Only g a (w.setCell ⟨g,j,G5⟩ v):=
 h.trans ⟨rfl,rfl,rfl,by simp[World.setCell],fun k hk=>Below.heap_setCell _ _ _ _ hk⟩
def Cur(W:FW)(g:Nat)(rest:List UInt8)(short:Bool):Prop:=W.heap[g]?=G6 (FV #[S0 rest,.bool short] 264 (0,0))
theorem Cur.c0(h:Cur W g r b):W.cell? ⟨g,0,G5⟩=G6 (S0 r):=by unfold Cur at h;simp[AX,h]
theorem Cur.c1(h:Cur W g r b):W.cell? ⟨g,1,G5⟩=G6 (.bool b):=by unfold Cur at h;simp[AX,h]
theorem Cur.f(h:Cur W g r b)(j:Nat):W.frozen? ⟨g,j,G5⟩=false:=by unfold Cur at h;simp[FB,h]
theorem NZ{w:FW}{j:Nat}{cur:Array FX}{t:TypeId}{fz:Nat×Nat}(v:FX)(h:w.heap[g]?=G6 (FV cur t fz)):
  (w.setCell ⟨g,j,G5⟩ v).heap[g]?=G6 (FV (cur.setIfInBounds j v) t fz):=by
 obtain⟨hlt,hk⟩:=AL.1 h;show (w.heap.modify g _)[g]?=_;rw[BR (by rw[Array.size_modify];exact hlt),Array.getElem_modify_self,hk];rfl
theorem Cur.s0(h:Cur W g r b)(r':List UInt8):Cur (W.setCell ⟨g,0,G5⟩ (S0 r')) g r' b:=NZ _ h
theorem Cur.s1(h:Cur W g r b)(b':Bool):Cur (W.setCell ⟨g,1,G5⟩ (.bool b')) g r b':=NZ _ h
theorem Cur.kept(h:Cur W g r b)(hb:Below B W V)(hg:g<B):Cur V g r b:=(hb.block _ hg).trans h
theorem Cur.other{k:Nat}(h:Cur W g r b)(ho:Only k W V)(hg:g≠k):Cur V g r b:=(ho.block _ hg).trans h
theorem rH(l:List UInt8)(d:Nat):(AU l.toArray).extract 0 d=⟨(l.take d).toArray⟩:=by
 apply ByteArray.ext
 apply Array.toList_inj.1
 have h:=Lib.extract_toList (AU l.toArray) 0 d;rw[Lib.toList_data]at h;refine h.trans ?_;show (l.drop 0).take (d-0)=_;simp
theorem B41(l:List UInt8)(d:Nat):(AU l.toArray).extract d l.length=⟨(l.drop d).toArray⟩:=by
 apply ByteArray.ext
 apply Array.toList_inj.1
 have h:=Lib.extract_toList (AU l.toArray) d l.length;rw[Lib.toList_data]at h;refine h.trans ?_;show (l.drop d).take (l.length-d)=l.drop d;exact BN (by simp)
theorem B42{a b:ByteArray}(h:a=b):DX (.string a)=.returned (.string b):=by rw[h]
theorem RY(g n:Nat)(r:List UInt8)(b:Bool)(w:FW)(hn:n<=140737488355328)(hc:Cur w g r b):
  FZ prog 154 #[P0 g,I0 n] w fun e w'=>e=.returned (S0 (r.take n))/\Cur w' g (r.drop n) (b||decide (r.length<n))/\Only g w w':=by
 have hz:(AU r.toArray).size=r.length:=DN ⟨r.toArray⟩;have h0:=hc.c0;have h1:=hc.c1;have hf0:=hc.f 0;have hf1:=hc.f 1;have HC:=G8 hc;clear hc;by_cases hlt:r.length<n
 .go_enter func154,ntmps154
  go_wp2
  go_ret;refine⟨B42 ?_,?_,((Only.refl g w).setCell 1 _).setCell 0 _⟩
  .rw[rH,DW,BN (by omega)]
  .rw[List.drop_of_length_le (by omega),decide_eq_true hlt,Bool.or_true];exact((G7 HC).s1 true).s0 []
 .go_enter func154,ntmps154
  go_wp2
  go_ret;refine⟨B42 (rH r n),?_,(Only.refl g w).setCell 0 _⟩;rw[B41,decide_eq_false hlt,Bool.or_false];exact(G7 HC).s0 _
theorem CK5(x y:Int):bits .or .i64 x y=IntKind.i64.wrap ((BitVec.ofInt 64 x|||BitVec.ofInt 64 y).toNat:Int):=rfl
theorem C56(t b:Nat)(ht:t<72057594037927936)(hb:b<256):bits .or .i64 (wrap64 ((t:Int)*256)) (b:Int)=wrap64 ((t*256+b:Nat):Int):=by
 have e1:BitVec.ofInt 64 (wrap64 ((t:Int)*256))=BitVec.ofNat 64 (t*256):=by
  apply BitVec.eq_of_toNat_eq
  rw[BitVec.toNat_ofInt,BitVec.toNat_ofNat];unfold wrap64;omega
 have e2:(BitVec.ofNat 64 (t*256)|||BitVec.ofInt 64 (b:Int)).toNat=t*256+b:=by
  rw[BitVec.ofInt_natCast,BitVec.toNat_or,BitVec.toNat_ofNat,BitVec.toNat_ofNat,Nat.mod_eq_of_lt (by omega),Nat.mod_eq_of_lt (by omega)];have:=Nat.two_pow_add_eq_or_of_lt (i:=8) (b:=b) (by omega) t;rw[DK t 256];exact this.symm
 rw[CK5,e1,e2,IntKind.wrap_i64,wrap64]
theorem AB8(h:l.length<=7):un l<72057594037927936:=by
 have h1:=BF3 l;have h2:256^l.length<=256^7:=Nat.pow_le_pow_right (by decide) h;have h3:(256:Nat)^7=72057594037927936:=by decide
 omega
theorem C57(l:List UInt8)(k:Nat)(h:k<l.length):un (l.take (k+1))=un (l.take k)*256+l[k].toNat:=by
 rw[List.take_succ_eq_append_getElem h,yY]
theorem CK6{b:Int}(h:a=b):DX (I0 a)=.returned (I0 b):=by rw[h]
theorem CK7{b:Int}(h:a=b):I0 a=I0 b:=by rw[h]
theorem CK8(l:List UInt8)(k:Nat)(h:k<(AU l.toArray).size):(AU l.toArray)[k]=l[k]'(by rwa[DN]at h):=rfl
theorem KF(g n:Nat)(r:List UInt8)(b:Bool)(w:FW)(hn:n<=8)(hc:Cur w g r b):
  FZ prog 155 #[P0 g,I0 n] w fun e w'=>e=.returned (I0 (wrap64 (un (r.take n):Nat)))/\Cur w' g (r.drop n) (b||decide (r.length<n))/\Only g w w':=by
 have HC:=G8 hc;clear hc;go_enter func155,ntmps155;go_wp2_with fail;refine(RY g n r b _ (by omega) (G7 HC)).mono ?_;rintro e w1 ⟨rfl,hc1,ho1⟩;have H1:=G8 hc1;clear hc1 HC;obtain⟨p,hp⟩:∃p,r.take n=p:=⟨_,rfl⟩;have hpl:p.length<=8:=by rw[<-hp,F8];omega
 rw[hp];have Hp:=G8 hp;clear hp;have hz:(AU p.toArray).size=p.length:=DN ⟨p.toArray⟩;go_wp2_with fail
 go_loop [6,13] (fun t i=>∃k:Nat,k<=p.length/\i=I0 k/\t=I0 (wrap64 (un (p.take k):Nat))) (fun _ i=>p.length-(intOf i).toNat)
 case atStart=>exact⟨0,AZ _,rfl,CK7 (by simp[un,wrap64])⟩
 case round=>
  obtain⟨k,hk,rfl,rfl⟩:=hrel;by_cases hlt:k<p.length
  .have Hs:=G8 (C57 p k hlt);have hsm:=AB8 (l:=p.take k) (by rw[F8];omega);obtain⟨x,hx⟩:∃x,un (p.take k)=x:=⟨_,rfl⟩;rw[hx]at hsm Hs⊢;clear hx;rw[show wrap64 (x:Int)=x from by unfold wrap64;omega];have hb:=p[k].toNat_lt;go_wp2_with fail;refine⟨⟨k+1,by omega,by go_num,CK7 ?_⟩,by simp[intOf];omega⟩;rw[G7 Hs,CK8,show wrap64 ((p[k].toNat:Nat):Int)=(p[k].toNat:Int)from by unfold wrap64;omega];exact C56 x _ hsm (by omega)
  .obtain rfl:k=p.length:=by omega
   rw[DW];go_wp2_with fail;go_ret;exact⟨CK6 (by rw[G7 Hp]),G7 H1,ho1⟩
theorem XL(s:List UInt8)(w:FW):
  FZ prog 153 #[S0 s] w fun e w'=>e=.returned (.pointer (G6 ⟨w.heap.size,0,G5⟩))/\w'=w.alloc (FV #[S0 s,.bool false] 264):=by
 go_enter func153,ntmps153;go_wp2_with fail;go_ret;exact⟨rfl,rfl⟩
theorem kM(g:Nat)(r:List UInt8)(b:Bool)(w:FW)(h:Cur w g r b):
  FZ prog 157 #[P0 g] w fun e w'=>e=.returned (.bool b)/\w'=w:=by
 have c1:=h.c1;go_enter func157,ntmps157;go_wp2_with fail;go_ret;exact⟨rfl,rfl⟩
theorem rJ(g:Nat)(r:List UInt8)(b:Bool)(w:FW)(h:Cur w g r b):
  FZ prog 156 #[P0 g] w fun e w'=>e=.returned (I0 r.length)/\w'=w:=by
 have c0:=h.c0;have hz:(AU r.toArray).size=r.length:=DN ⟨r.toArray⟩;go_enter func156,ntmps156;go_wp2_with fail;go_ret;exact⟨rfl,rfl⟩
theorem AB9:∀j n,be (j+1) n=UInt8.ofNat (n/256^j)::be j n
 |0,n=>by simp[be]
 |j+1,n=>by
  rw[be,AB9 j (n/256),be,Nat.div_div_eq_div_mul,Nat.pow_succ,DK 256];rfl
def wU(l:List UInt8):List FX:=l.map fun b=>.int .u8 (b.toNat:Int)
def PG(W:FW)(g:Nat)(l:List UInt8):Prop:=W.heap[g]?=G6 (FV (wU l).toArray 5 (0,0))
theorem PG.cell(h:PG W g l){j:Nat}(hj:j<l.length):W.cell? ⟨g,j,G5⟩=G6 (.int .u8 (l[j].toNat:Int)):=by
 unfold PG at h;simp[AX,h,wU,List.getElem?_eq_getElem hj]
theorem PG.soft(h:PG W g l)(j:Nat):W.frozen? ⟨g,j,G5⟩=false:=by
 unfold PG at h;simp[FB,h]
theorem PG.set(h:PG W g l)(j:Nat)(b:UInt8):PG (W.setCell ⟨g,j,G5⟩ (.int .u8 (b.toNat:Int))) g (l.set j b):=by
 unfold PG at h⊢;obtain⟨hlt,hk⟩:=AL.1 h;show (W.heap.modify g _)[g]?=_;rw[BR (by rw[Array.size_modify];exact hlt),Array.getElem_modify_self,hk];simp[wU,List.map_set]
theorem C61(m:Nat)(b:UInt8)(r:List UInt8):(List.replicate (m+1) 0++r).set m b=List.replicate m 0++b::r:=by
 rw[List.replicate_succ',BU,List.set_append_right _ _ (by simp)];simp
theorem PG.text(h:PG W g l)(cap:Nat):
  (convert 174 9 (.slice (G6 ⟨g,0,G5⟩) l.length cap)).run prog W=.ok (S0 l) W:=
 run_convert_bytes_back W 174 9 5 ⟨g,0,G5⟩ cap l underlying174 underlying5 underlying9 (fun j hj=>by
  rw[show (⟨g,0,G5⟩:Addr).add j=⟨g,j,G5⟩from by unfold Addr.add;split<;>simp_all];exact h.cell hj)
theorem B44(x:Nat):((x:Int)%256)=((UInt8.ofNat x).toNat:Int):=by simp
theorem C62(n j:Nat):n/256^j/256=n/256^(j+1):=by rw[Nat.div_div_eq_div_mul,Nat.pow_succ]
theorem CK9{b:Int}(h:a=b):I0 a=I0 b:=by rw[h]
theorem BN7{a b:ByteArray}(h:a=b):DX (.string a)=.returned (.string b):=by rw[h]
theorem B45(k:Nat):madeCells (Value.int .u8 0).cells k=(wU (List.replicate k 0)).toArray:=by
 apply Array.ext'
 apply List.ext_getElem
 .simp[madeCells,wU]
 .intro j h1 h2;simp[madeCells,wU,Value.cells,Nat.mod_one]
theorem CL0:(prog.info? 5).map (fun i=>(i.zero,i.size,i.bytes))=G6 (G6 (.int .u8 0),1,1):=by kernel_rfl
theorem AN4(k:Nat)(hk:k<=8)(w:FW):(Instr.makeSlice 174 (I0 k) (I0 k)).run prog w=.ok (.slice (G6 ⟨w.heap.size,0,G5⟩) k k) (w.alloc (FV (wU (List.replicate k 0)).toArray 5)):=by
 obtain⟨i0,hi,hz0,hz1,hz2⟩:=info_parts CL0;have h:=run_make (P:=prog) w 174 5 i0 (.int .u8 0) underlying174 hi hz0 .i64 .i64 k k (by omega) (by omega) (by rw[hz2];omega) (by omega);rw[h,hz1,Nat.mul_one,Int.toNat_natCast,B45]
theorem dZ(n k:Nat)(w:FW)(hn:n<9223372036854775808)(hk:k<=8):
  FZ prog 212 #[I0 n,I0 k] w (R0 w (S0 (be k n))):=by
 have hmk:=AN4 k hk w;go_enter func212,ntmps212
 go_wp2
 generalize hW1:w.alloc (Obj.cells (wU (List.replicate k 0)).toArray 5)=W1;have HR1:Hid (PG W1 w.heap.size (List.replicate k 0++be 0 n)):=G8 (by
  rw[<-hW1];show (w.heap.push _)[w.heap.size]?=_;simp[be])
 have hB1:B0 w W1:=by rw[<-hW1];exact(AA _ _).alloc (A8 _) _
 clear hW1 hmk
 go_loopw [0,6] (fun x i wr=>∃j:Nat,j<=k/\x=I0 (n/256^j:Nat)/\i=I0 ((k:Int)-1-j)/\PG wr w.heap.size (List.replicate (k-j) 0++be j n)/\B0 w wr) (fun _ i _=>(intOf i+1).toNat)
 case atStart=>exact⟨0,AZ _,by simp,by simp,G7 HR1,hB1⟩
 case round=>
  obtain⟨j,hj,rfl,rfl,hr,hB⟩:=hrel;have HR:=G8 hr;clear hr HR1 hB1;by_cases hlt:j<k
  .obtain⟨m,hm⟩:∃m,k-j=m+1:=⟨k-j-1,by omega⟩;have hlen:m<(List.replicate (k-j) (0:UInt8)++be j n).length:=by simp;omega
   have h1:=(G7 HR).cell hlen;have h2:=(G7 HR).soft m;have hmk:(k:Int)-1-j=(m:Int):=by omega
   rw[hmk];have hmlt:m<k:=by omega
   have hq:n/256^j<9223372036854775808:=Nat.lt_of_le_of_lt (Nat.div_le_self _ _) hn;have Hdiv:=G8 (C62 n j);have Hby:=G8 (B44 (n/256^j));have Hfr:=G8 (AB9 j n);generalize (List.replicate (k-j) (0:UInt8)++be j n)[m]=c0 at h1;obtain⟨x,hx⟩:∃x,n/256^j=x:=⟨_,rfl⟩;rw[hx]at hq Hdiv Hby Hfr⊢;have Hm:=G8 hm;have Hmk:=G8 hmk;clear hx hm hmk hlen
   go_wp2
   rw[G7 Hby];refine⟨⟨j+1,by omega,CK9 (by rw[<-G7 Hdiv];omega),CK9 (by have:=G7 Hmk;omega),?_,hB.setCell (by show w.heap.size<=w.heap.size;exact A8 _) _⟩,by simp only[intOf];omega⟩;have hset:=(G7 HR).set m (UInt8.ofNat x);rw[G7 Hm,C61,<-G7 Hfr]at hset;rw[show k-(j+1)=m from by have:=G7 Hm;omega];exact hset
  .obtain rfl:j=k:=by omega
   have hlen:(List.replicate (j-j) (0:UInt8)++be j n).length=j:=by simp[IJ]
   have htx:=(G7 HR).text j;rw[hlen]at htx;rw[show (j:Int)-1-(j:Int)=-1 from by omega];have Hrep:Hid (List.replicate (j-j) (0:UInt8)++be j n=be j n):=G8 (by simp);rw[G7 Hrep]at htx;clear hlen
   go_wp2
   go_ret;exact⟨rfl,hB⟩
theorem B46{b:Int}(h:a=b):Value.int .u32 a=.int .u32 b:=by rw[h]
theorem B47{c:Nat}(h:c<4294967296):bits .xor .u32 ((c:Int)/2) (3988292384*bits .and .u32 (c:Int) 1%4294967296)=(CF9 c:Nat):=by
 have h2:c%2<2:=Nat.mod_lt _ (by decide);rw[BF2 h,show (3988292384*((c%2:Nat):Int)%4294967296)=((3988292384*(c%2):Nat):Int)from by omega];rw[show ((c:Int)/2)=((c/2:Nat):Int)from by omega];exact yX (by omega) (by omega)
theorem BN8(s:ByteArray)(k:Nat)(h:k<s.size):BF0 (s.data.toList.take (k+1))=BW2 8 (BF0 (s.data.toList.take k)^^^s[k].toNat):=by
 rw[iV s k h,AS8];rfl
theorem C63{b:Int}(h:a=b):DX (I0 a)=.returned (I0 b):=by rw[h]
theorem AC0(s:ByteArray)(w:FW)(hs:s.size<=140737488355328):
  FZ prog 158 #[.string s] w fun e w'=>e=.returned (I0 (A67 s.data.toList:Nat))/\w'=w:=by
 go_enter func158,ntmps158
 go_wp2
 go_loop [3,8] (fun c i=>∃k:Nat,k<=s.size/\i=I0 k/\c=.int .u32 (BF0 (s.data.toList.take k):Nat)) (fun _ i=>s.size-(intOf i).toNat)
 case atStart=>exact⟨0,AZ _,rfl,rfl⟩
 case round=>
  obtain⟨k,hk,rfl,rfl⟩:=hrel;obtain⟨c,hc⟩:∃c,BF0 (s.data.toList.take k)=c:=⟨_,rfl⟩;have hcl:c<4294967296:=hc ▸ AS6 _;have Hc:=G8 hc;rw[hc];clear hc;by_cases hlt:k<s.size
  .have hb:=s[k].toNat_lt;have Hsn:=G8 (BN8 s k hlt)
   go_wp2
   rw[yX hcl (by omega)];obtain⟨x,hx⟩:∃x,c^^^s[k].toNat=x:=⟨_,rfl⟩;have hxl:x<4294967296:=hx ▸ aB hcl (by omega);have Hx:=G8 hx;rw[hx];clear hx hb
   go_loop [3,17] (fun d j=>∃n:Nat,n<=8/\j=I0 n/\d=.int .u32 (BW2 n x:Nat)) (fun _ j=>8-(intOf j).toNat)
   case atStart=>exact⟨0,AZ _,rfl,rfl⟩
   case round=>
    obtain⟨n,hn,rfl,rfl⟩:=hrel;have hy:=yV hxl n;have Hs:Hid (BW2 (n+1) x=CF9 (BW2 n x)):=G8 rfl;by_cases h8:n<8
    .obtain⟨y,hyy⟩:∃y,BW2 n x=y:=⟨_,rfl⟩;rw[hyy]at hy Hs⊢;clear hyy
     go_wp2
     exact⟨⟨n+1,by omega,by go_num,B46 (by rw[B47 hy,G7 Hs])⟩,by simp[intOf];omega⟩
    .obtain rfl:n=8:=by omega
     go_wp2
     exact⟨⟨k+1,by omega,by go_num,B46 (by rw[G7 Hsn,G7 Hc,G7 Hx])⟩,by simp[intOf];omega⟩
  .obtain rfl:k=s.size:=by omega
   go_wp2
   go_ret;refine⟨C63 ?_,rfl⟩;rw[<-aA s,DW]at Hc;rw[show IntKind.u32.max=((4294967295:Nat):Int)from rfl,yX (by decide) hcl,A67,G7 Hc];have h32:=aB (show 4294967295<4294967296 by decide) hcl;unfold wrap64;omega
theorem kP(n:Int)(k:Nat)(w:FW)(h0:0<=n)(hn:n<9223372036854775808)(hk:k<=8)(d:Nat)(os:Array Obj):
  FZ prog 212 #[I0 n,I0 k] (Sort.grow (redrawn w d) os) fun e w''=>e=.returned (S0 (be k n.toNat))/\∃p:Regrown,w''=Sort.grow (redrawn w p.d) p.os:=by
 have h:=dZ n.toNat k (Sort.grow (redrawn w d) os) (by omega) hk;rw[Int.toNat_of_nonneg h0]at h;exact Calls.regrown_of h
theorem BN9(t:GN)(w:FW)(ht:gdE t=0):
  FZ prog 211 #[J9 t] w (R0 w (S0 (QU t))):=by
 obtain⟨hz,ho,hs,hv,hu,hp,hd⟩:=WO ht;clear ht;obtain⟨z,o,s,p,d,v,u⟩:=t;unfold J9 QU;simp only at hz ho hs hv hu hp hd⊢;have hzp:(AU p.toArray).size=p.length:=DN ⟨p.toArray⟩;have hzd:(AU d.toArray).size=d.length:=DN ⟨d.toArray⟩;go_enter func211,ntmps211;go_wp2_with fail;obtain⟨W,hW⟩:∃W,w.alloc (Obj.cells #[I0 z,I0 o,I0 s,S0 p,S0 d,I0 v,I0 u] 79)=W:=⟨_,rfl⟩;have hB:B0 w W:=by rw[<-hW];exact(AA _ _).alloc (A8 _) _
 have k0:∀d' os,(Sort.grow (redrawn W d') os).cell? ⟨w.heap.size,0,G5⟩=G6 (I0 z):=fun d' os=>cell_regrown (by rw[<-hW];simp) d' os;have k1:∀d' os,(Sort.grow (redrawn W d') os).cell? ⟨w.heap.size,1,G5⟩=G6 (I0 o):=fun d' os=>cell_regrown (by rw[<-hW];simp) d' os;have k2:∀d' os,(Sort.grow (redrawn W d') os).cell? ⟨w.heap.size,2,G5⟩=G6 (I0 s):=fun d' os=>cell_regrown (by rw[<-hW];simp) d' os;have k3:∀d' os,(Sort.grow (redrawn W d') os).cell? ⟨w.heap.size,3,G5⟩=G6 (S0 p):=fun d' os=>cell_regrown (by rw[<-hW];simp) d' os;have k4:∀d' os,(Sort.grow (redrawn W d') os).cell? ⟨w.heap.size,4,G5⟩=G6 (S0 d):=fun d' os=>cell_regrown (by rw[<-hW];simp) d' os;have k5:∀d' os,(Sort.grow (redrawn W d') os).cell? ⟨w.heap.size,5,G5⟩=G6 (I0 v):=fun d' os=>cell_regrown (by rw[<-hW];simp) d' os;have k6:∀d' os,(Sort.grow (redrawn W d') os).cell? ⟨w.heap.size,6,G5⟩=G6 (I0 u):=fun d' os=>cell_regrown (by rw[<-hW];simp) d' os;rw[hW];clear hW;have c0:∀d' os,FZ prog 212 #[I0 z,I0 8] (Sort.grow (redrawn W d') os) fun e w''=>e=.returned (S0 (be 8 z.toNat))/\∃p:Regrown,w''=Sort.grow (redrawn W p.d) p.os:=kP z 8 W (by omega) (by omega) (by omega);have c1:∀d' os,FZ prog 212 #[I0 o,I0 1] (Sort.grow (redrawn W d') os) fun e w''=>e=.returned (S0 (be 1 o.toNat))/\∃p:Regrown,w''=Sort.grow (redrawn W p.d) p.os:=kP o 1 W (by omega) (by omega) (by omega);have c2:∀d' os,FZ prog 212 #[I0 s,I0 4] (Sort.grow (redrawn W d') os) fun e w''=>e=.returned (S0 (be 4 s.toNat))/\∃p:Regrown,w''=Sort.grow (redrawn W p.d) p.os:=kP s 4 W (by omega) (by omega) (by omega);have c3:∀d' os,FZ prog 212 #[I0 v,I0 4] (Sort.grow (redrawn W d') os) fun e w''=>e=.returned (S0 (be 4 v.toNat))/\∃p:Regrown,w''=Sort.grow (redrawn W p.d) p.os:=kP v 4 W (by omega) (by omega) (by omega);have c4:∀d' os,FZ prog 212 #[I0 u,I0 4] (Sort.grow (redrawn W d') os) fun e w''=>e=.returned (S0 (be 4 u.toNat))/\∃p:Regrown,w''=Sort.grow (redrawn W p.d) p.os:=kP u 4 W (by omega) (by omega) (by omega);have c5:∀d' os,FZ prog 212 #[I0 (p.length:Nat),I0 1] (Sort.grow (redrawn W d') os) fun e w''=>e=.returned (S0 (be 1 p.length))/\∃p:Regrown,w''=Sort.grow (redrawn W p.d) p.os:=kP p.length 1 W (by omega) (by omega) (by omega);have c6:∀d' os,FZ prog 212 #[I0 (d.length:Nat),I0 2] (Sort.grow (redrawn W d') os) fun e w''=>e=.returned (S0 (be 2 d.length))/\∃p:Regrown,w''=Sort.grow (redrawn W p.d) p.os:=kP d.length 2 W (by omega) (by omega) (by omega);have l0:=IJ 8 z.toNat;have l1:=IJ 1 o.toNat;have l2:=IJ 4 s.toNat;have l3:=IJ 4 v.toNat;have l4:=IJ 4 u.toNat;have l5:=IJ 1 p.length;have l6:=IJ 2 d.length;obtain⟨b0,e0⟩:∃b,be 8 z.toNat=b:=⟨_,rfl⟩;rw[e0]at c0 l0;have E0:=G8 e0;clear e0;obtain⟨b1,e1⟩:∃b,be 1 o.toNat=b:=⟨_,rfl⟩;rw[e1]at c1 l1;have E1:=G8 e1;clear e1;obtain⟨b2,e2⟩:∃b,be 4 s.toNat=b:=⟨_,rfl⟩;rw[e2]at c2 l2;have E2:=G8 e2;clear e2;obtain⟨b3,e3⟩:∃b,be 4 v.toNat=b:=⟨_,rfl⟩;rw[e3]at c3 l3;have E3:=G8 e3;clear e3;obtain⟨b4,e4⟩:∃b,be 4 u.toNat=b:=⟨_,rfl⟩;rw[e4]at c4 l4;have E4:=G8 e4;clear e4;obtain⟨b5,e5⟩:∃b,be 1 p.length=b:=⟨_,rfl⟩;rw[e5]at c5 l5;have E5:=G8 e5;clear e5;obtain⟨b6,e6⟩:∃b,be 2 d.length=b:=⟨_,rfl⟩;rw[e6]at c6 l6;have E6:=G8 e6;clear e6;refine wp_region_quiet_below (by kernel_rfl) (by kernel_rfl) ?_
 repeat (first|go_big_quiet_step (first|with_reducible exact c0 _ _|with_reducible exact c1 _ _|with_reducible exact c2 _ _|with_reducible exact c3 _ _|with_reducible exact c4 _ _|with_reducible exact c5 _ _|with_reducible exact c6 _ _)|quiet_step (first|with_reducible exact c0 _ _|with_reducible exact c1 _ _|with_reducible exact c2 _ _|with_reducible exact c3 _ _|with_reducible exact c4 _ _|with_reducible exact c5 _ _|with_reducible exact c6 _ _))
 refine wpQuiet_nil ?_;intro _ hw';obtain⟨⟨dq,osq⟩,hw''⟩:=hw';subst hw'';have hb2:B0 w (Sort.grow (redrawn W dq) osq):=S9 hB (below_regrown W dq osq);clear c0 c1 c2 c3 c4 c5 c6 k0 k1 k2 k3 k4 k5 k6;go_wp2_with fail;go_ret;refine⟨BN7 ?_,hb2⟩;rw[P6,P6,P6,P6,P6,P6,P6,P6];simp only[BU];rw[G7 E0,G7 E1,G7 E2,G7 E3,G7 E4,G7 E5,G7 E6]
theorem BO0{a b:ByteArray}{i j:Int}(h:a=b)(h':i=j):DX (.tuple #[.string a,I0 i])=.returned (.tuple #[.string b,I0 j]):=by rw[h,h']
theorem eG(t:GN)(w:FW)(h:gdE t=0):
  FZ prog 187 #[J9 t] w (R0 w (.tuple #[S0 (QV t),I0 0])):=by
 have H:=G8 h;obtain⟨_,_,_,_,_,_,hd⟩:=WO h;have hbl:=dO h;clear h;obtain⟨b,hb⟩:∃b,QU t=b:=⟨_,rfl⟩;have Hb:=G8 hb;rw[hb]at hbl;clear hb;have hzb:(AU b.toArray).size=b.length:=DN ⟨b.toArray⟩;obtain⟨z,o,s,p,d,v,u⟩:=t;unfold J9;replace hd:d.length<=256:=hd;go_enter func187,ntmps187;go_wp2_with fail;refine(XG ⟨z,o,s,p,d,v,u⟩ _ (by show d.length<=_;omega)).mono ?_;rintro e w1 ⟨rfl,hb1⟩;have hbz:=TQ hb1;obtain⟨hc,hf⟩:=A14 hb1;have hz1:w.heap.size<w1.heap.size:=by have:=hb1.size;simp at this;omega
 rw[G7 H];go_wp2_with fail;refine(BN9 ⟨z,o,s,p,d,v,u⟩ _ (G7 H)).mono ?_;rintro e w2 ⟨rfl,hb2⟩;replace hb2:=S9 hbz hb2;rw[G7 Hb];clear hc hf hb1 hbz hz1;go_wp2_with fail;refine(dZ b.length 2 _ (by omega) (by omega)).mono ?_;rintro e w3 ⟨rfl,hb3⟩;replace hb3:=S9 hb2 hb3;clear hb2;have l2:=IJ 2 b.length;obtain⟨n2,e2⟩:∃n2,be 2 b.length=n2:=⟨_,rfl⟩;rw[e2]at l2⊢;have E2:=G8 e2;clear e2;go_wp2_with fail;have hF:(AU #[84]++AU n2.toArray++AU b.toArray)=⟨(MP b).toArray⟩:=by
  rw[show (AU #[84])=⟨[(84:UInt8)].toArray⟩from rfl,P6,P6,MP,G7 E2];rfl
 rw[hF];have lF:=VD b;obtain⟨F,eF⟩:∃F,MP b=F:=⟨_,rfl⟩;rw[eF]at lF⊢;have EF:=G8 eF;clear eF hF;have hzF:(AU F.toArray).size=F.length:=DN ⟨F.toArray⟩;refine(AC0 ⟨F.toArray⟩ _ (by omega)).mono ?_;rintro e w4 ⟨rfl,rfl⟩;rw[show (AU F.toArray).data.toList=F from rfl];have hsl:=AS7 F;obtain⟨X,hX⟩:∃X,A67 F=X:=⟨_,rfl⟩;rw[hX]at hsl⊢;have HX:=G8 hX;clear hX;go_wp2_with fail;refine(dZ X 4 _ (by omega) (by omega)).mono ?_;rintro e w5 ⟨rfl,hb5⟩;replace hb5:=S9 hb3 hb5;clear hb3;have l4:=IJ 4 X;obtain⟨n4,e4⟩:∃n4,be 4 X=n4:=⟨_,rfl⟩;rw[e4]at l4⊢;have E4:=G8 e4;clear e4;go_wp2_with fail
 go_ret2
 refine⟨BO0 ?_ rfl,hb5⟩;rw[P6,QV,G7 Hb,G7 EF,G7 HX,G7 E4]
def JY(W:FW)(g:Nat)(t:GN):Prop:=W.heap[g]?=G6 (FV #[I0 t.z,I0 t.o,I0 t.s,S0 t.p,S0 t.d,I0 t.v,I0 t.w] 79 (0,0))
theorem JY.c0(h:JY W g t):W.cell? ⟨g,0,G5⟩=G6 (I0 t.z):=by unfold JY at h;simp[AX,h]
theorem JY.c1(h:JY W g t):W.cell? ⟨g,1,G5⟩=G6 (I0 t.o):=by unfold JY at h;simp[AX,h]
theorem JY.c2(h:JY W g t):W.cell? ⟨g,2,G5⟩=G6 (I0 t.s):=by unfold JY at h;simp[AX,h]
theorem JY.c3(h:JY W g t):W.cell? ⟨g,3,G5⟩=G6 (S0 t.p):=by unfold JY at h;simp[AX,h]
theorem JY.c4(h:JY W g t):W.cell? ⟨g,4,G5⟩=G6 (S0 t.d):=by unfold JY at h;simp[AX,h]
theorem JY.c5(h:JY W g t):W.cell? ⟨g,5,G5⟩=G6 (I0 t.v):=by unfold JY at h;simp[AX,h]
theorem JY.c6(h:JY W g t):W.cell? ⟨g,6,G5⟩=G6 (I0 t.w):=by unfold JY at h;simp[AX,h]
theorem JY.f(h:JY W g t)(j:Nat):W.frozen? ⟨g,j,G5⟩=false:=by unfold JY at h;simp[FB,h]
theorem JY.kept(h:JY W g t)(hb:Below B W V)(hg:g<B):JY V g t:=(hb.block _ hg).trans h
theorem JY.other{k:Nat}(h:JY W g t)(ho:Only k W V)(hg:g≠k):JY V g t:=(ho.block _ hg).trans h
theorem iJ(g:Nat)(w:FW)(j:Nat)(v:FX):Only g w (w.setCell ⟨g,j,G5⟩ v):=(Only.refl g w).setCell j v
theorem bT(w:FW)(o:Obj):(w.alloc o).heap[w.heap.size]?=G6 o:=by
 show (w.heap.push o)[w.heap.size]?=_;simp
structure Unf(w W:FW)(r:List UInt8)(b:Bool)(t:GN):Prop where
 res:JY W w.heap.size t0
 cur:Cur W (w.heap.size+1) r b
 txn:JY W (w.heap.size+1+1) t
 size:w.heap.size+3<=W.heap.size
 below:B0 w W
theorem Unf.took{w:FW}{r':List UInt8}{b':Bool}(h:Unf w W r b t)(hc:Cur V (w.heap.size+1) r' b')(ho:Only (w.heap.size+1) W V):Unf w V r' b' t:=
 ⟨h.res.other ho (by omega),hc,h.txn.other ho (by omega),by rw[ho.size];exact h.size,ho.below h.below (by omega)⟩
theorem Unf.kept{w:FW}(h:Unf w W r b t)(hb:B0 W V):Unf w V r b t:=
 ⟨h.res.kept hb (by have:=h.size;omega),h.cur.kept hb (by have:=h.size;omega),h.txn.kept hb (by have:=h.size;omega),Nat.le_trans h.size hb.size,h.below.trans (hb.mono h.below.size)⟩
theorem Unf.put{w:FW}(h:Unf w W r b t)(j:Nat)(v:FX){t':GN}(ht:JY (W.setCell ⟨w.heap.size+1+1,j,G5⟩ v) (w.heap.size+1+1) t'):Unf w (W.setCell ⟨w.heap.size+1+1,j,G5⟩ v) r b t':=
 ⟨h.res.other (iJ _ _ _ _) (by omega),h.cur.other (iJ _ _ _ _) (by omega),ht,by rw[(iJ _ W j v).size];exact h.size,(iJ _ _ _ _).below h.below (by omega)⟩
theorem Unf.z{w:FW}(h:Unf w W r b t)(x:Int):Unf w (W.setCell ⟨w.heap.size+1+1,0,G5⟩ (I0 x)) r b {t with z:=x}:=h.put 0 _ (NZ _ h.txn)
theorem Unf.o{w:FW}(h:Unf w W r b t)(x:Int):Unf w (W.setCell ⟨w.heap.size+1+1,1,G5⟩ (I0 x)) r b {t with o:=x}:=h.put 1 _ (NZ _ h.txn)
theorem Unf.s{w:FW}(h:Unf w W r b t)(x:Int):Unf w (W.setCell ⟨w.heap.size+1+1,2,G5⟩ (I0 x)) r b {t with s:=x}:=h.put 2 _ (NZ _ h.txn)
theorem Unf.p{w:FW}(h:Unf w W r b t)(x:List UInt8):Unf w (W.setCell ⟨w.heap.size+1+1,3,G5⟩ (S0 x)) r b {t with p:=x}:=h.put 3 _ (NZ _ h.txn)
theorem Unf.d{w:FW}(h:Unf w W r b t)(x:List UInt8):Unf w (W.setCell ⟨w.heap.size+1+1,4,G5⟩ (S0 x)) r b {t with d:=x}:=h.put 4 _ (NZ _ h.txn)
theorem Unf.v{w:FW}(h:Unf w W r b t)(x:Int):Unf w (W.setCell ⟨w.heap.size+1+1,5,G5⟩ (I0 x)) r b {t with v:=x}:=h.put 5 _ (NZ _ h.txn)
theorem Unf.w{w:FW}(h:Unf w W r b t)(x:Int):Unf w (W.setCell ⟨w.heap.size+1+1,6,G5⟩ (I0 x)) r b {t with w:=x}:=h.put 6 _ (NZ _ h.txn)
theorem C68(h:l.length<=7):wrap64 ((un l:Nat):Int)=(un l:Nat):=by
 have:=AB8 h;unfold wrap64;omega
theorem MH(l:List UInt8)(k:Nat)(hk:k<=7):wrap64 ((un (l.take k):Nat):Int)=(un (l.take k):Nat):=C68 (by rw[F8];omega)
def KU(W:FW)(g:Nat)(t:GN):FW:=
 ((((((W.setCell ⟨g,0,G5⟩ (I0 t.z)).setCell ⟨g,1,G5⟩ (I0 t.o)).setCell ⟨g,2,G5⟩ (I0 t.s)).setCell ⟨g,3,G5⟩ (S0 t.p)).setCell ⟨g,4,G5⟩ (S0 t.d)).setCell ⟨g,5,G5⟩ (I0 t.v)).setCell ⟨g,6,G5⟩ (I0 t.w)
theorem JY.s0(h:JY W g t)(x:Int):JY (W.setCell ⟨g,0,G5⟩ (I0 x)) g {t with z:=x}:=NZ _ h
theorem JY.s1(h:JY W g t)(x:Int):JY (W.setCell ⟨g,1,G5⟩ (I0 x)) g {t with o:=x}:=NZ _ h
theorem JY.s2(h:JY W g t)(x:Int):JY (W.setCell ⟨g,2,G5⟩ (I0 x)) g {t with s:=x}:=NZ _ h
theorem JY.s3(h:JY W g t)(x:List UInt8):JY (W.setCell ⟨g,3,G5⟩ (S0 x)) g {t with p:=x}:=NZ _ h
theorem JY.s4(h:JY W g t)(x:List UInt8):JY (W.setCell ⟨g,4,G5⟩ (S0 x)) g {t with d:=x}:=NZ _ h
theorem JY.s5(h:JY W g t)(x:Int):JY (W.setCell ⟨g,5,G5⟩ (I0 x)) g {t with v:=x}:=NZ _ h
theorem JY.s6(h:JY W g t)(x:Int):JY (W.setCell ⟨g,6,G5⟩ (I0 x)) g {t with w:=x}:=NZ _ h
theorem JY.store(h:JY W g t)(t':GN):JY (KU W g t') g t':=
 ((((((h.s0 t'.z).s1 t'.o).s2 t'.s).s3 t'.p).s4 t'.d).s5 t'.v).s6 t'.w
theorem MX(W:FW)(g:Nat)(t:GN):Only g W (KU W g t):=
 (((((((Only.refl g W).setCell 0 _).setCell 1 _).setCell 2 _).setCell 3 _).setCell 4 _).setCell 5 _).setCell 6 _
def B55(b:List UInt8):Bool:=
 false||decide (b.length<8)||decide ((b.drop 8).length<1)||decide ((b.drop 9).length<4)||decide ((b.drop 13).length<4)||decide ((b.drop 17).length<4)||decide ((b.drop 21).length<1)||decide ((b.drop 22).length<YC b)||decide ((b.drop (22+YC b)).length<2)||decide ((b.drop (24+YC b)).length<yP b)
theorem xA{b:List UInt8}:B55 b=false↔24+YC b+yP b<=b.length:=by
 simp only[B55,Bool.or_eq_false_iff,decide_eq_false_iff_not,List.length_drop,true_and];omega
theorem C69(b:List UInt8):YC b<256:=by
 have h:=BF3 ((b.drop 21).take 1);have h2:((b.drop 21).take 1).length<=1:=List.length_take_le _ _;have h3:256^((b.drop 21).take 1).length<=256^1:=Nat.pow_le_pow_right (by decide) h2;unfold YC;omega
theorem C70(b:List UInt8):yP b<65536:=by
 have h:=BF3 ((b.drop (22+YC b)).take 2);have h2:((b.drop (22+YC b)).take 2).length<=2:=List.length_take_le _ _;have h3:256^((b.drop (22+YC b)).take 2).length<=256^2:=Nat.pow_le_pow_right (by decide) h2;unfold yP;omega
def tIn(b:List UInt8):GN:=
 ⟨wrap64 (un (b.take 8)),un ((b.drop 8).take 1),un ((b.drop 9).take 4),(b.drop 22).take (YC b),(b.drop (24+YC b)).take (yP b),un ((b.drop 13).take 4),un ((b.drop 17).take 4)⟩
theorem C71{b:List UInt8}(h:BE4 b=true):tIn b=tOf b:=by
 obtain⟨h1,h2⟩:=aG.1 h;rw[tIn,tOf,BN (l:=b.drop (24+YC b)) (by rw[List.length_drop];omega)]
theorem AO0(b:List UInt8)(w:FW):
  FZ prog 159 #[S0 b] w (R0 w (.tuple #[J9 (AS9 b),I0 (tH b)])):=by
 have hpl:=C69 b;have hdl:=C70 b;go_enter func159,ntmps159;go_wp2_with fail;refine(XL b _).mono ?_;rintro e wA ⟨rfl,rfl⟩;go_wp2_with fail;generalize hW:((w.alloc _).alloc _).alloc _=W;have H:Hid (Unf w W b false t0):=G8 (by
  rw[<-hW];refine⟨?_,?_,?_,by simp,(((AA _ _).alloc (A8 _) _).alloc (by simp) _).alloc (by simp;omega) _⟩
  .exact(Below.heap_alloc _ _ _ (by simp;omega)).trans ((Below.heap_alloc _ _ _ (by simp)).trans (bT _ _))
  .exact(Below.heap_alloc _ _ _ (by simp)).trans (by have:=bT (w.alloc (FV #[I0 0,I0 0,I0 0,.string ⟨#[]⟩,.string ⟨#[]⟩,I0 0,I0 0] 79)) (FV #[S0 b,.bool false] 264);rwa[FT]at this)
  .have:=bT ((w.alloc (FV #[I0 0,I0 0,I0 0,.string ⟨#[]⟩,.string ⟨#[]⟩,I0 0,I0 0] 79)).alloc (FV #[S0 b,.bool false] 264)) (FV #[I0 0,I0 0,I0 0,.string ⟨#[]⟩,.string ⟨#[]⟩,I0 0,I0 0] 79);rwa[FT,FT]at this)
 clear hW;refine(KF (w.heap.size+1) 8 _ _ _ (by decide) (G7 H).cur).mono ?_;rintro e w1 ⟨rfl,hc1,ho1⟩;have H1:=G8 ((G7 H).took hc1 ho1);clear hc1 ho1 H W;generalize w1=W at*;obtain⟨x0,h0⟩:∃x,wrap64 (un (b.take 8):Nat)=x:=⟨_,rfl⟩;rw[h0];have E0:=G8 h0;clear h0;have q1:=(G7 H1).txn.c0;have q2:=(G7 H1).txn.f 0;go_wp2_with fail;have H:=G8 ((G7 H1).z x0);clear q1 q2 H1;generalize W.setCell _ _=W at*;refine(KF (w.heap.size+1) 1 _ _ _ (by decide) (G7 H).cur).mono ?_;rintro e w1 ⟨rfl,hc1,ho1⟩;have H1:=G8 ((G7 H).took hc1 ho1);clear hc1 ho1 H W;generalize w1=W at*;simp only[FQ,Nat.reduceAdd]at H1;rw[MH _ _ (by decide)];obtain⟨x1,h1⟩:∃x,un ((b.drop 8).take 1)=x:=⟨_,rfl⟩;rw[h1];have E1:=G8 h1;clear h1;have q1:=(G7 H1).txn.c1;have q2:=(G7 H1).txn.f 1;go_wp2_with fail;have H:=G8 ((G7 H1).o x1);clear q1 q2 H1;generalize W.setCell _ _=W at*;refine(KF (w.heap.size+1) 4 _ _ _ (by decide) (G7 H).cur).mono ?_;rintro e w1 ⟨rfl,hc1,ho1⟩;have H1:=G8 ((G7 H).took hc1 ho1);clear hc1 ho1 H W;generalize w1=W at*;simp only[FQ,Nat.reduceAdd]at H1;rw[MH _ _ (by decide)];obtain⟨x2,h2⟩:∃x,un ((b.drop 9).take 4)=x:=⟨_,rfl⟩;rw[h2];have E2:=G8 h2;clear h2;have q1:=(G7 H1).txn.c2;have q2:=(G7 H1).txn.f 2;go_wp2_with fail;have H:=G8 ((G7 H1).s x2);clear q1 q2 H1;generalize W.setCell _ _=W at*;refine(KF (w.heap.size+1) 4 _ _ _ (by decide) (G7 H).cur).mono ?_;rintro e w1 ⟨rfl,hc1,ho1⟩;have H1:=G8 ((G7 H).took hc1 ho1);clear hc1 ho1 H W;generalize w1=W at*;simp only[FQ,Nat.reduceAdd]at H1;rw[MH _ _ (by decide)];obtain⟨x3,h3⟩:∃x,un ((b.drop 13).take 4)=x:=⟨_,rfl⟩;rw[h3];have E3:=G8 h3;clear h3;have q1:=(G7 H1).txn.c5;have q2:=(G7 H1).txn.f 5;go_wp2_with fail;have H:=G8 ((G7 H1).v x3);clear q1 q2 H1;generalize W.setCell _ _=W at*;refine(KF (w.heap.size+1) 4 _ _ _ (by decide) (G7 H).cur).mono ?_;rintro e w1 ⟨rfl,hc1,ho1⟩;have H1:=G8 ((G7 H).took hc1 ho1);clear hc1 ho1 H W;generalize w1=W at*;simp only[FQ,Nat.reduceAdd]at H1;rw[MH _ _ (by decide)];obtain⟨x4,h4⟩:∃x,un ((b.drop 17).take 4)=x:=⟨_,rfl⟩;rw[h4];have E4:=G8 h4;clear h4;have q1:=(G7 H1).txn.c6;have q2:=(G7 H1).txn.f 6;go_wp2_with fail;have H:=G8 ((G7 H1).w x4);clear q1 q2 H1;generalize W.setCell _ _=W at*;refine(KF (w.heap.size+1) 1 _ _ _ (by decide) (G7 H).cur).mono ?_;rintro e w1 ⟨rfl,hc1,ho1⟩;have H1:=G8 ((G7 H).took hc1 ho1);clear hc1 ho1 H W;generalize w1=W at*;simp only[FQ,Nat.reduceAdd]at H1;rw[MH _ _ (by decide)];rw[show un ((b.drop 21).take 1)=YC b from rfl];go_wp2_with fail;refine(RY (w.heap.size+1) (YC b) _ _ _ (by omega) (G7 H1).cur).mono ?_;rintro e w2 ⟨rfl,hc2,ho2⟩;have H2:=G8 ((G7 H1).took hc2 ho2);clear hc2 ho2 H1 W;generalize w2=W at*;obtain⟨P,hP⟩:∃x,(b.drop 22).take (YC b)=x:=⟨_,rfl⟩;have lP:P.length<=65536:=by rw[<-hP,F8];omega
 rw[hP];have EP:=G8 hP;clear hP;go_wp2_with fail;refine(WU ⟨P.toArray⟩ _ (by rw[DN];show P.length<=_;omega)).mono ?_;rintro e w3 ⟨rfl,hb3⟩;have H1:=G8 ((G7 H2).kept hb3);clear hb3 H2 W;generalize w3=W at*;simp only[FQ]at H1;have q1:=(G7 H1).txn.c3;have q2:=(G7 H1).txn.f 3;go_wp2_with fail;have H:=G8 ((G7 H1).p P);clear q1 q2 H1;generalize W.setCell _ _=W at*;refine(KF (w.heap.size+1) 2 _ _ _ (by decide) (G7 H).cur).mono ?_;rintro e w1 ⟨rfl,hc1,ho1⟩;have H1:=G8 ((G7 H).took hc1 ho1);clear hc1 ho1 H W;generalize w1=W at*;simp only[FQ]at H1;rw[MH _ _ (by decide)];rw[show un ((b.drop (22+YC b)).take 2)=yP b from rfl];go_wp2_with fail;refine(RY (w.heap.size+1) (yP b) _ _ _ (by omega) (G7 H1).cur).mono ?_;rintro e w2 ⟨rfl,hc2,ho2⟩;have H2:=G8 ((G7 H1).took hc2 ho2);clear hc2 ho2 H1 W;generalize w2=W at*;obtain⟨D,hD⟩:∃x,(b.drop (22+YC b+2)).take (yP b)=x:=⟨_,rfl⟩;have lD:D.length<=65536:=by rw[<-hD,F8];omega
 rw[hD];have ED:=G8 hD;clear hD;go_wp2_with fail;refine(WU ⟨D.toArray⟩ _ (by rw[DN];show D.length<=_;omega)).mono ?_;rintro e w3 ⟨rfl,hb3⟩;have H1:=G8 ((G7 H2).kept hb3);clear hb3 H2 W;generalize w3=W at*;simp only[FQ]at H1;have hT:tIn b=⟨x0,x1,x2,P,D,x3,x4⟩:=by
  rw[tIn,G7 E0,G7 E1,G7 E2,G7 E3,G7 E4,G7 EP,show 24+YC b=22+YC b+2 from by omega,G7 ED]
 have HT:=G8 hT;have h24:22+YC b+2=24+YC b:=by omega
 have HL:Hid (Unf w W (b.drop (24+YC b+yP b)) (B55 b) ⟨x0,x1,x2,P,[],x3,x4⟩):=G8 (by
  have h:=G7 H1;rw[h24]at h;exact h)
 clear hT h24 H1 E0 E1 E2 E3 E4 EP ED;have q0:W.cell? ⟨w.heap.size+1+1,0,G5⟩=G6 (I0 x0):=(G7 HL).txn.c0;have q1:W.cell? ⟨w.heap.size+1+1,1,G5⟩=G6 (I0 x1):=(G7 HL).txn.c1;have q2:W.cell? ⟨w.heap.size+1+1,2,G5⟩=G6 (I0 x2):=(G7 HL).txn.c2;have q3:W.cell? ⟨w.heap.size+1+1,3,G5⟩=G6 (S0 P):=(G7 HL).txn.c3;have q4:W.cell? ⟨w.heap.size+1+1,4,G5⟩=G6 (.string ⟨#[]⟩):=(G7 HL).txn.c4;have q5:W.cell? ⟨w.heap.size+1+1,5,G5⟩=G6 (I0 x3):=(G7 HL).txn.c5;have q6:W.cell? ⟨w.heap.size+1+1,6,G5⟩=G6 (I0 x4):=(G7 HL).txn.c6;have qf:=(G7 HL).txn.f 4;have r0:W.cell? ⟨w.heap.size,0,G5⟩=G6 (I0 0):=(G7 HL).res.c0;have r1:W.cell? ⟨w.heap.size,1,G5⟩=G6 (I0 0):=(G7 HL).res.c1;have r2:W.cell? ⟨w.heap.size,2,G5⟩=G6 (I0 0):=(G7 HL).res.c2;have r3:W.cell? ⟨w.heap.size,3,G5⟩=G6 (.string ⟨#[]⟩):=(G7 HL).res.c3;have r4:W.cell? ⟨w.heap.size,4,G5⟩=G6 (.string ⟨#[]⟩):=(G7 HL).res.c4;have r5:W.cell? ⟨w.heap.size,5,G5⟩=G6 (I0 0):=(G7 HL).res.c5;have r6:W.cell? ⟨w.heap.size,6,G5⟩=G6 (I0 0):=(G7 HL).res.c6;have rf:=(G7 HL).res.f;have CSh:=G8 (kM _ _ _ _ ((G7 HL).d D).cur);have CLf:=G8 (rJ _ _ _ _ ((G7 HL).d D).cur)
 cases hfit:BE4 b
 .have HU:=G8 (C04 hfit)
  cases hl:B55 b
  .have hR:b.drop (24+YC b+yP b)≠[]:=fun hh=>by
    have h1:=xA.1 hl;have h2:=congrArg List.length hh;rw[List.length_drop,List.length_nil]at h2;have h3:BE4 b=true:=aG.2 ⟨by omega,by omega⟩;rw[hfit]at h3;exact absurd h3 (by decide)
   rw[hl]at CSh;obtain⟨R,hRR⟩:∃R,b.drop (24+YC b+yP b)=R:=⟨_,rfl⟩;rw[hRR]at CLf hR;have hR':(0:Int)<(R.length:Int):=by have:=List.length_pos_iff.2 hR;omega
   obtain⟨m,hm⟩:∃m,R.length=m:=⟨_,rfl⟩;rw[hm]at CLf hR';clear hRR hl hfit hm hR;go_wp2_with fail;refine(G7 CSh).mono ?_;rintro e wS ⟨rfl,rfl⟩;go_wp2_with fail;refine(G7 CLf).mono ?_;rintro e wL ⟨rfl,rfl⟩;clear CSh CLf;go_wp2_with fail;change bodyPost _ _ _ _ _ (KU (W.setCell ⟨w.heap.size+1+1,4,G5⟩ (S0 D)) w.heap.size t0);have HV:=G8 ((G7 HL).d D);generalize W.setCell ⟨w.heap.size+1+1,4,G5⟩ (S0 D)=V at HV⊢;have HP:=G8 ((G7 HV).res.store t0);have hB:B0 w (KU V w.heap.size t0):=(MX _ _ _).below (G7 HV).below (A8 _);generalize KU V w.heap.size t0=V2 at HP hB⊢;have s0:=(G7 HP).c0;have s1:=(G7 HP).c1;have s2:=(G7 HP).c2;have s3:=(G7 HP).c3;have s4:=(G7 HP).c4;have s5:=(G7 HP).c5;have s6:=(G7 HP).c6;exact bodyPost_ret (v:=.tuple #[J9 t0,I0 2]) (by simp[results,results159,go_sem,s0,s1,s2,s3,s4,s5,s6,J9]) rfl ⟨by rw[(G7 HU).1,(G7 HU).2],hB⟩
  .rw[hl]at CSh;clear hl hfit CLf;go_wp2_with fail;refine(G7 CSh).mono ?_;rintro e wS ⟨rfl,rfl⟩;clear CSh;go_wp2_with fail;change bodyPost _ _ _ _ _ (KU (W.setCell ⟨w.heap.size+1+1,4,G5⟩ (S0 D)) w.heap.size t0);have HV:=G8 ((G7 HL).d D);generalize W.setCell ⟨w.heap.size+1+1,4,G5⟩ (S0 D)=V at HV⊢;have HP:=G8 ((G7 HV).res.store t0);have hB:B0 w (KU V w.heap.size t0):=(MX _ _ _).below (G7 HV).below (A8 _);generalize KU V w.heap.size t0=V2 at HP hB⊢;have s0:=(G7 HP).c0;have s1:=(G7 HP).c1;have s2:=(G7 HP).c2;have s3:=(G7 HP).c3;have s4:=(G7 HP).c4;have s5:=(G7 HP).c5;have s6:=(G7 HP).c6;exact bodyPost_ret (v:=.tuple #[J9 t0,I0 2]) (by simp[results,results159,go_sem,s0,s1,s2,s3,s4,s5,s6,J9]) rfl ⟨by rw[(G7 HU).1,(G7 HU).2],hB⟩
 .have hl:B55 b=false:=xA.2 (by have:=aG.1 hfit;omega);have hR:b.drop (24+YC b+yP b)=[]:=List.drop_of_length_le (by have:=aG.1 hfit;omega);rw[hl]at CSh;rw[hR]at CLf;rw[C71 hfit]at HT;have Hfit:=G8 hfit;clear hl hR hfit
  cases hg:(gdE (tOf b)==0)
  .have hg':gdE (tOf b)≠0:=by simpa using hg
   have HU:=G8 (CG2 (G7 Hfit) hg');obtain⟨E,hE⟩:∃E,gdE (tOf b)=E:=⟨_,rfl⟩;have hne:(E !=0)=true:=by rw[<-hE];simp[bne,hg]
   rw[G7 HT]at hE;rw[G7 HT]at HU;have HE:=G8 hE;clear hE hg hg';go_wp2_with fail;refine(G7 CSh).mono ?_;rintro e wS ⟨rfl,rfl⟩;go_wp2_with fail;refine(G7 CLf).mono ?_;rintro e wL ⟨rfl,rfl⟩;clear CSh CLf;go_wp2_with fail;refine(XG ⟨x0,x1,x2,P,D,x3,x4⟩ _ (by show D.length<=_;omega)).mono ?_;rintro e w4 ⟨rfl,hb4⟩;rw[G7 HE];have HV0:=G8 ((G7 HL).d D);have HV:=G8 ((G7 HV0).kept hb4);clear hb4 HV0 HL q0 q1 q2 q3 q4 q5 q6 qf r0 r1 r2 r3 r4 r5 r6 rf;generalize w4=V at*;have r0:V.cell? ⟨w.heap.size,0,G5⟩=G6 (I0 0):=(G7 HV).res.c0;have r1:V.cell? ⟨w.heap.size,1,G5⟩=G6 (I0 0):=(G7 HV).res.c1;have r2:V.cell? ⟨w.heap.size,2,G5⟩=G6 (I0 0):=(G7 HV).res.c2;have r3:V.cell? ⟨w.heap.size,3,G5⟩=G6 (.string ⟨#[]⟩):=(G7 HV).res.c3;have r4:V.cell? ⟨w.heap.size,4,G5⟩=G6 (.string ⟨#[]⟩):=(G7 HV).res.c4;have r5:V.cell? ⟨w.heap.size,5,G5⟩=G6 (I0 0):=(G7 HV).res.c5;have r6:V.cell? ⟨w.heap.size,6,G5⟩=G6 (I0 0):=(G7 HV).res.c6;have rf:=(G7 HV).res.f;go_wp2_with fail;change bodyPost _ _ _ _ _ (KU V w.heap.size t0);have HP:=G8 ((G7 HV).res.store t0);have hB:B0 w (KU V w.heap.size t0):=(MX _ _ _).below (G7 HV).below (A8 _);generalize KU V w.heap.size t0=V2 at HP hB⊢;have s0:=(G7 HP).c0;have s1:=(G7 HP).c1;have s2:=(G7 HP).c2;have s3:=(G7 HP).c3;have s4:=(G7 HP).c4;have s5:=(G7 HP).c5;have s6:=(G7 HP).c6;exact bodyPost_ret (v:=.tuple #[J9 t0,I0 E]) (by simp[results,results159,go_sem,s0,s1,s2,s3,s4,s5,s6,J9]) rfl ⟨by rw[(G7 HU).1,(G7 HU).2,G7 HE],hB⟩
  .have hg':gdE (tOf b)=0:=by simpa using hg
   have HU:=G8 (CG3 (G7 Hfit) hg');rw[G7 HT]at hg' HU;have HE:=G8 hg';clear hg hg';go_wp2_with fail;refine(G7 CSh).mono ?_;rintro e wS ⟨rfl,rfl⟩;go_wp2_with fail;refine(G7 CLf).mono ?_;rintro e wL ⟨rfl,rfl⟩;clear CSh CLf;go_wp2_with fail;refine(XG ⟨x0,x1,x2,P,D,x3,x4⟩ _ (by show D.length<=_;omega)).mono ?_;rintro e w4 ⟨rfl,hb4⟩;rw[G7 HE];have HV0:=G8 ((G7 HL).d D);have HV:=G8 ((G7 HV0).kept hb4);clear hb4 HV0 HL q0 q1 q2 q3 q4 q5 q6 qf r0 r1 r2 r3 r4 r5 r6 rf;generalize w4=V at*;have q0:V.cell? ⟨w.heap.size+1+1,0,G5⟩=G6 (I0 x0):=(G7 HV).txn.c0;have q1:V.cell? ⟨w.heap.size+1+1,1,G5⟩=G6 (I0 x1):=(G7 HV).txn.c1;have q2:V.cell? ⟨w.heap.size+1+1,2,G5⟩=G6 (I0 x2):=(G7 HV).txn.c2;have q3:V.cell? ⟨w.heap.size+1+1,3,G5⟩=G6 (S0 P):=(G7 HV).txn.c3;have q4:V.cell? ⟨w.heap.size+1+1,4,G5⟩=G6 (S0 D):=(G7 HV).txn.c4;have q5:V.cell? ⟨w.heap.size+1+1,5,G5⟩=G6 (I0 x3):=(G7 HV).txn.c5;have q6:V.cell? ⟨w.heap.size+1+1,6,G5⟩=G6 (I0 x4):=(G7 HV).txn.c6;have r0:V.cell? ⟨w.heap.size,0,G5⟩=G6 (I0 0):=(G7 HV).res.c0;have r1:V.cell? ⟨w.heap.size,1,G5⟩=G6 (I0 0):=(G7 HV).res.c1;have r2:V.cell? ⟨w.heap.size,2,G5⟩=G6 (I0 0):=(G7 HV).res.c2;have r3:V.cell? ⟨w.heap.size,3,G5⟩=G6 (.string ⟨#[]⟩):=(G7 HV).res.c3;have r4:V.cell? ⟨w.heap.size,4,G5⟩=G6 (.string ⟨#[]⟩):=(G7 HV).res.c4;have r5:V.cell? ⟨w.heap.size,5,G5⟩=G6 (I0 0):=(G7 HV).res.c5;have r6:V.cell? ⟨w.heap.size,6,G5⟩=G6 (I0 0):=(G7 HV).res.c6;have rf:=(G7 HV).res.f;go_wp2_with fail;change bodyPost _ _ _ _ _ (KU V w.heap.size ⟨x0,x1,x2,P,D,x3,x4⟩);have HP:=G8 ((G7 HV).res.store ⟨x0,x1,x2,P,D,x3,x4⟩);have hB:B0 w (KU V w.heap.size ⟨x0,x1,x2,P,D,x3,x4⟩):=(MX _ _ _).below (G7 HV).below (A8 _);generalize KU V w.heap.size ⟨x0,x1,x2,P,D,x3,x4⟩=V2 at HP hB⊢;have s0:=(G7 HP).c0;have s1:=(G7 HP).c1;have s2:=(G7 HP).c2;have s3:=(G7 HP).c3;have s4:=(G7 HP).c4;have s5:=(G7 HP).c5;have s6:=(G7 HP).c6;exact bodyPost_ret (v:=.tuple #[J9 ⟨x0,x1,x2,P,D,x3,x4⟩,I0 0]) (by simp[results,results159,go_sem,s0,s1,s2,s3,s4,s5,s6,J9]) rfl ⟨by rw[(G7 HU).1,(G7 HU).2],hB⟩
