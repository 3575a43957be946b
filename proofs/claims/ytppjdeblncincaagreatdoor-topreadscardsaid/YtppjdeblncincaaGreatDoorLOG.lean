/-
  Part.
-/
import Derived.Test.YtppjdeblncincaaGreatDoorLOC
import Derived.Deep.RegionHeld3
import Derived.Lib.AppendZerosOnto
import Derived.Laws.AppendOwnNone
set_option maxRecDepth 20000
set_option maxHeartbeats 8000000
namespace Go.Proofs.YtppjdeblncincaaGreatDoor
open Go.RowKit Go.Proofs.Tryz
open _root_.Nat renaming le_refl->A8,lt_of_lt_of_le->AY,zero_le->AZ,zero_add->BJ,add_assoc->EK
open Go.RowKit.Below renaming refl->AA
open _root_.Array renaming getElem?_eq_some_iff->AL
open _root_.List renaming getElem?_eq_getElem->AO,length_append->AP,getElem?_eq_some_iff->AV,mem_of_getElem?->BA,take_of_length_le->BN,mem_cons->BQ,append_assoc->BU,append_nil->DU,take_length->DW,filter_append->F5
open Go.Value.slice renaming injEq->AQ
open Go.Value renaming ownBlock->DJ,slice->FU
open Go.Sem renaming run_bind->EC,run_pure->EO
open Go.Result renaming andThen_ok->EG
open _root_.Option renaming map_eq_some_iff->FP,none->G5,some->G6
open Go.Obj renaming cells->FV
open Go renaming World->FW,Value->FX,Calls->FZ
variable{w W:FW}{b off i g cap B q:Nat}{xs ws:List Wa}{x:Wa}{α:Type}{pr:Wa->Bool}
def A93(w:Wa):List FX:=[I0 w.s,I0 w.k,S0 w.p]
def zY(n:Nt):List FX:=[I0 n.s,I0 n.k,S0 n.p]
def waV(w:Wa):FX:=.agg #[I0 w.s,I0 w.k,S0 w.p]
instance layW:Lay Wa:=⟨3,A93,83,fun _=>rfl,fun x u hu=>by simp[A93]at hu;rcases hu with rfl|rfl|rfl<;>rfl⟩
instance layT:Lay Nt:=⟨3,zY,76,fun _=>rfl,fun x u hu=>by simp[zY]at hu;rcases hu with rfl|rfl|rfl<;>rfl⟩
theorem IC.w0(h:IC w b off (GI xs))(hi:xs[i]?=G6 x):w.cell? ⟨b,off+i*3,G5⟩=G6 (I0 x.s):=
 h (i*3) _ (GY xs i x hi 0 (by decide))
theorem IC.w1(h:IC w b off (GI xs))(hi:xs[i]?=G6 x):w.cell? ⟨b,off+i*3+1,G5⟩=G6 (I0 x.k):=by
 rw[EK];exact h (i*3+1) _ (GY xs i x hi 1 (by decide))
theorem IC.w2(h:IC w b off (GI xs))(hi:xs[i]?=G6 x):w.cell? ⟨b,off+i*3+2,G5⟩=G6 (S0 x.p):=by
 rw[EK];exact h (i*3+2) _ (GY xs i x hi 2 (by decide))
theorem IC.t0{xs:List Nt}(h:IC w b off (GI xs)){x:Nt}(hi:xs[i]?=G6 x):w.cell? ⟨b,off+i*3,G5⟩=G6 (I0 x.s):=
 h (i*3) _ (GY xs i x hi 0 (by decide))
theorem IC.t1{xs:List Nt}(h:IC w b off (GI xs)){x:Nt}(hi:xs[i]?=G6 x):w.cell? ⟨b,off+i*3+1,G5⟩=G6 (I0 x.k):=by
 rw[EK];exact h (i*3+1) _ (GY xs i x hi 1 (by decide))
theorem IC.t2{xs:List Nt}(h:IC w b off (GI xs)){x:Nt}(hi:xs[i]?=G6 x):w.cell? ⟨b,off+i*3+2,G5⟩=G6 (S0 x.p):=by
 rw[EK];exact h (i*3+2) _ (GY xs i x hi 2 (by decide))
theorem CH7:(prog.info? 83).map (fun i=>(i.zero,i.size,i.bytes))=G6 (G6 (.agg #[I0 0,I0 0,.string ⟨#[]⟩]),3,32):=by kernel_rfl
theorem C30:∃i0,prog.info? 83=G6 i0/\i0.zero=G6 (.agg #[I0 0,I0 0,.string ⟨#[]⟩])/\i0.size=3/\i0.bytes=32:=by
 obtain⟨i0,h,e⟩:=FP.1 CH7;simp only[Prod.mk.injEq]at e;exact⟨i0,h,e⟩
theorem CH8:(prog.info? 76).map (fun i=>(i.zero,i.size,i.bytes))=G6 (G6 (.agg #[I0 0,I0 0,.string ⟨#[]⟩]),3,32):=by kernel_rfl
theorem AY2:∃i0,prog.info? 76=G6 i0/\i0.zero=G6 (.agg #[I0 0,I0 0,.string ⟨#[]⟩])/\i0.size=3/\i0.bytes=32:=by
 obtain⟨i0,h,e⟩:=FP.1 CH8;simp only[Prod.mk.injEq]at e;exact⟨i0,h,e⟩
def mV(ws:List Wa):Prop:=∀x∈ws,x.p.length<=140737488355328
def BX3(es:List Ev):Prop:=∀x∈es,x.p.length<=140737488355328
theorem B28[Lay α]{xs:List α}(h:JA W g cap xs)(B:Nat)(hB:B<=g):W.ownsRow B (Lay.ty α) (Lay.k α) (FU (G6 ⟨g,0,G5⟩) xs.length cap) xs.length (GI xs):=
 GZ.row (.inr ⟨g,cap,rfl,hB,h⟩)
theorem B29[Lay α]{n:Nat}{xs:List α}(h:W.ownsRow B (Lay.ty α) (Lay.k α) (FU (G6 ⟨g,0,G5⟩) n cap) n (GI xs))(hn:n=xs.length):JA W g cap xs:=by
 subst hn;rcases GZ.L9 h with⟨h1,_⟩|⟨g',cap',h1,_,h2⟩
 .simp at h1
 .simp only[AQ,Option.some.injEq,Addr.mk.injEq,and_true,true_and]at h1;obtain⟨rfl,rfl⟩:=h1;exact h2
theorem PD{xs:List α}{k:Nat}{x:α}(h:xs[k]?=G6 x):xs.take (k+1)=xs.take k++[x]:=by rw[List.take_add_one,h];rfl
theorem AZ1{w':FW}{r:Option Nat}(h:w.grownBy w' r)(B:Nat)(hB:B<=w.heap.size)(hr:∀k,r=G6 k->B<=k):Below B w w':=(AA _ _).grown h hB hr
theorem LK{w':FW}{r:Option Nat}(h:B0 w w'):w.grownBy w' r:=⟨h.os,h.tape,h.output,h.size,fun k hk _=>h.block k hk⟩
theorem JA.head[Lay α]{A B:List α}(h:JA W g cap (A++B)):JA W g cap A:=by
 obtain⟨rest,h1,h2,h4,h3⟩:=h;refine⟨GI B++rest,by rw[h1,I5,BU],?_,?_,h3⟩
 .rw[AP,H6 B];rw[AP,Nat.add_mul]at h2;omega
 .rw[AP]at h4;omega
theorem oI(s:List UInt8)(w:FW)(hs:s.length<=281474976710656):
  FZ prog 48 #[S0 s] w (R0 w (S0 s)):=by
 have C:=fun W=>stringslite_Clone ⟨s.toArray⟩ W (show (ByteArray.mk s.toArray).size<=_ from hs);go_enter func48,ntmps48;go_wp2_with fail;refine(C _).mono ?_;rintro e w1 ⟨rfl,hb1⟩;go_wp2_with fail;go_ret;exact⟨rfl,hb1⟩
theorem AB2(x:Wa)(w:FW)(hx:x.p.length<=140737488355328):
  FZ prog 86 #[waV x] w (R0 w (waV x)):=by
 obtain⟨s,k,p⟩:=x;unfold waV;have C:=fun W=>oI p W (by simp only at hx;omega);go_enter func86,ntmps86;go_wp2_with fail;refine(C _).mono ?_;rintro e w1 ⟨rfl,hb1⟩;have hB:=GX (GX hb1);have c0:w1.cell? ⟨w.heap.size,0,G5⟩=G6 (I0 s):=by rw[hb1.cell (p:=⟨w.heap.size,0,G5⟩) (by simp;omega)];simp
 have c1:w1.cell? ⟨w.heap.size,1,G5⟩=G6 (I0 k):=by rw[hb1.cell (p:=⟨w.heap.size,1,G5⟩) (by simp;omega)];simp
 have c2:w1.cell? ⟨w.heap.size,2,G5⟩=G6 (S0 p):=by rw[hb1.cell (p:=⟨w.heap.size,2,G5⟩) (by simp;omega)];simp
 have f2:w1.frozen? ⟨w.heap.size,2,G5⟩=false:=by rw[hb1.frozen (p:=⟨w.heap.size,2,G5⟩) (by simp;omega)];simp
 have d0:w1.cell? ⟨w.heap.size+1,0,G5⟩=G6 (I0 0):=by rw[hb1.cell (p:=⟨w.heap.size+1,0,G5⟩) (by simp)];simp
 have d1:w1.cell? ⟨w.heap.size+1,1,G5⟩=G6 (I0 0):=by rw[hb1.cell (p:=⟨w.heap.size+1,1,G5⟩) (by simp)];simp
 have d2:w1.cell? ⟨w.heap.size+1,2,G5⟩=G6 (.string ⟨#[]⟩):=by rw[hb1.cell (p:=⟨w.heap.size+1,2,G5⟩) (by simp)];simp
 have g0:w1.frozen? ⟨w.heap.size+1,0,G5⟩=false:=by rw[hb1.frozen (p:=⟨w.heap.size+1,0,G5⟩) (by simp)];simp
 have g1:w1.frozen? ⟨w.heap.size+1,1,G5⟩=false:=by rw[hb1.frozen (p:=⟨w.heap.size+1,1,G5⟩) (by simp)];simp
 have g2:w1.frozen? ⟨w.heap.size+1,2,G5⟩=false:=by rw[hb1.frozen (p:=⟨w.heap.size+1,2,G5⟩) (by simp)];simp
 have s2:w1.setCell ⟨w.heap.size,2,G5⟩ (S0 p)=w1:=I9 c2;clear hb1 C;go_wp2_with fail;refine bodyPost_ret (v:=.agg #[I0 s,I0 k,S0 p]) (by simp[results,results86,go_sem,d0,d1,d2]) rfl ⟨rfl,?_⟩;exact((hB.setCell (by simp) _).setCell (by simp) _).setCell (by simp) _
theorem AB3(w:FW)(x:Wa):JQ (w.alloc (FV #[I0 x.s,I0 x.k,S0 x.p] 83)) w.heap.size x:=heap_alloc_new w _
theorem ZO(v:FX)(ws:List Wa)(w:FW)(hv:IL w v ws)(hs:mV ws)(hl:ws.length*32<=140737488351232):
  FZ prog 85 #[v] w fun e w'=>∃g,e=.returned (FU (G6 ⟨g,0,G5⟩) ws.length (ws.length+1))/\w.heap.size<=g/\JA w' g (ws.length+1) ws/\B0 w w':=by
 have KR:∀W,B0 w W->∀k x,ws[k]?=G6 x->∃b off cap,v=FU (G6 ⟨b,off,G5⟩) ws.length cap/\b<w.heap.size/\IC W b off (GI ws):=fun W hW k x hx=>by
  obtain⟨b,off,cap,e,hb,hr,_,_⟩:=MV hv (fun h0=>by obtain⟨h1,_⟩:=AV.1 hx;rw[h0]at h1;simp at h1);exact⟨b,off,cap,e,hb,hr.kept hW hb⟩
 have HKR:=G8 KR;have HS:=G8 hs;obtain⟨va,vc,rfl⟩:=GK hv;obtain⟨i0,hi0,hz0,hz1,hz2⟩:=C30;clear hv hs KR;go_enter func85,ntmps85;go_wp2_with (at_make;refine wpList_make_own _ rfl _ _ 38 rfl w.heap.size 83 i0 _ 3 underlying38 hi0 hz0 hz1 .i64 .i64 _ (ws.length+1) rfl rfl (by omega) ?m1 ?m2 (A8 _) ?_)
 case m1=>rw[hz2];omega
 case m2=>simp only[maxLen];omega
 intro w0 ho0 hg0;have HO:Hid (JA w0 w.heap.size (ws.length+1) (ws.take 0)):=G8 (B29 (α:=Wa) (xs:=ws.take 0) ho0 rfl);have HB:Hid (B0 w w0):=G8 (AZ1 hg0 _ (A8 _) (by simp));clear ho0 hg0;go_wp2_with fail
 go_loopg [3,12] ws.length (fun kx s3 s12 wr=>∃k:Nat,s12=I0 k/\s3=FU (G6 ⟨w.heap.size,0,G5⟩) k (ws.length+1)/\k<=ws.length/\ws.length-k<=kx/\Hid (JA wr w.heap.size (ws.length+1) (ws.take k))/\Hid (B0 w wr))
 case atStart=>exact⟨0,rfl,rfl,AZ _,A8 _,HO,HB⟩
 case round=>
  obtain⟨k,rfl,rfl,hk,hg,hO,hB⟩:=hrel;by_cases hlt:k<ws.length
  .obtain⟨x,hx⟩:∃x,ws[k]?=G6 x:=⟨_,AO hlt⟩;obtain⟨b,off,cap,he,hb,q⟩:=G7 HKR wr (G7 hB) k x hx;simp only[AQ]at he;obtain⟨rfl,_,rfl⟩:=he;have d0:=q.w0 hx;have d1:=q.w1 hx;have d2:=q.w2 hx;have hbw:b<wr.heap.size:=AY hb (G7 hB).size;have hgl:=(G7 hO).lt;have CX:=fun W=>AB2 x W (G7 HS x (BA hx));unfold waV at CX;have HT1:=G8 (PD hx);have hlk:(ws.take k).length=k:=by simp;omega
   clear q hx;go_wp2_with fail;refine(CX _).mono ?_;rintro e w1 ⟨rfl,hb1⟩;have hb2:=GX hb1;have HO1:=G8 (((G7 hO).next hb2).next (G9 w1 (FV #[I0 x.s,I0 x.k,S0 x.p] 83)));have HB1:=G8 (GH (G7 hB) (GH hb2 (G9 w1 (FV #[I0 x.s,I0 x.k,S0 x.p] 83))));clear CX hb1 hb2;go_wp2_with (at_builtin;refine wpList_append_fits _ rfl _ _ 38 rfl w.heap.size 83 i0 3 underlying38 hi0 hz1 w.heap.size k (ws.length+1) (GI (ws.take k)) rfl ?a1 ⟨w1.heap.size,0,G5⟩ 1 1 (A93 x) rfl rfl ?a2 (Lay.one x) (by omega) ?_)
   case a1=>
    have:=B28 (G7 HO1) w.heap.size (A8 _);rw[hlk]at this;exact this
   case a2=>exact RP (AB3 w1 x)
   intro w2 ho2 hg2;have HO2:Hid (JA w2 w.heap.size (ws.length+1) (ws.take (k+1))):=G8 (by
    rw[G7 HT1];refine B29 (α:=Wa) (B:=w.heap.size) (n:=k+1) ?_ (by simp;omega);rw[JH];exact ho2)
   have HB2:Hid (B0 w w2):=G8 ((G7 HB1).grown hg2 (G7 HB1).size (by intro k hk;cases hk;exact A8 _));clear ho2 hg2;go_wp2_with fail
   go_roundg (ws.length-(k+1))
   case measure=>omega
   case rel=>exact⟨k+1,rfl,rfl,by omega,A8 _,HO2,HB2⟩
  .obtain rfl:k=ws.length:=by omega
   rw[DW]at hO;go_wp2_with fail;go_ret;exact⟨_,rfl,A8 _,G7 hO,G7 hB⟩
theorem SX{a b:Bool}(h:a=b):Ending.returned (.bool a)=.returned (.bool b):=by rw[h]
theorem AM2(x:Wa)(e:Ev)(w:FW):
  FZ prog 173 #[waV x,evV e] w fun r w'=>r=.returned (.bool (yQ x e))/\B0 w w':=by
 obtain⟨s,k,p⟩:=x;obtain⟨ek,ep⟩:=e;have HB:=G8 (GH (G9 w (FV #[I0 s,I0 k,S0 p] 83)) (G9 _ (FV #[I0 ek,S0 ep] 74)));have HO:=G8 (show ∀r:Bool,r=(decide (p=ep)&&(if k=2 then decide (ek=4)||decide (ek=2)else decide (ek=1)||decide (ek=2)||decide (ek=3)))->r=yQ ⟨s,k,p⟩ ⟨ek,ep⟩from fun r h=>h);unfold waV evV;simp only;by_cases hp:p=ep
 .have hpb:(p==ep)=true:=by simpa using hp
  have HP:=G8 hp;clear hp;by_cases hk:k=2
  .subst hk;by_cases h4:ek=4
   .subst h4;go_enter func173,ntmps173;go_wp2_with fail;go_ret;exact⟨SX (G7 HO _ (by simp[G7 HP])),G7 HB⟩
   .go_enter func173,ntmps173;go_wp2_with fail;go_ret;exact⟨SX (G7 HO _ (by by_cases h:ek=2<;>simp[G7 HP,h,h4])),G7 HB⟩
  .by_cases h1:ek=1
   .subst h1;go_enter func173,ntmps173;go_wp2_with fail;go_ret;exact⟨SX (G7 HO _ (by simp[G7 HP,hk])),G7 HB⟩
   .by_cases h2:ek=2
    .subst h2;go_enter func173,ntmps173;go_wp2_with fail;go_ret;exact⟨SX (G7 HO _ (by simp[G7 HP,hk])),G7 HB⟩
    .go_enter func173,ntmps173;go_wp2_with fail;go_ret;exact⟨SX (G7 HO _ (by by_cases h:ek=3<;>simp[G7 HP,hk,h,h1,h2])),G7 HB⟩
 .have hpb:(p==ep)=false:=by simpa using hp
  go_enter func173,ntmps173;go_wp2_with fail;go_ret;exact⟨SX (G7 HO _ (by simp[hp])),G7 HB⟩
theorem wK(x:Wa)(e:Ev)(B:Nat)(w:FW)(h:JQ w B e):
  FZ prog 172 #[waV x,P0 B] w fun r w'=>r=.returned (.bool (yQ x e))/\B0 w w':=by
 have C:=fun W=>AM2 x e W;have hB:B<w.heap.size:=(AL.1 h).1;have c0:w.cell? ⟨B,0,G5⟩=G6 (I0 e.k):=by simpa using h.row 0 _ rfl
 have c1:w.cell? ⟨B,1,G5⟩=G6 (S0 e.p):=by simpa using h.row 1 _ rfl
 clear h;unfold waV evV at C;unfold waV;generalize yQ x e=r at C⊢;have hne:B≠w.heap.size:=by omega
 go_enter func172,ntmps172;go_wp2_with fail;refine(C _).mono ?_;rintro e w1 ⟨rfl,hb1⟩;have hB1:=GX hb1;clear C hb1;go_wp2_with fail;go_ret;exact⟨rfl,hB1⟩
theorem B30(x:Wa)(s:Int)(B:Nat)(w:FW)(h:w.cell? ⟨B,0,G5⟩=G6 (I0 s))(hB:B<w.heap.size):
  FZ prog 176 #[waV x,P0 B] w fun r w'=>r=.returned (.bool (decide (x.s=s)))/\B0 w w':=by
 obtain⟨xs,xk,xp⟩:=x;unfold waV;have hne:B≠w.heap.size:=by omega
 go_enter func176,ntmps176;go_wp2_with fail;go_ret;exact⟨rfl,G9 _ _⟩
def Z5(m:Nat):List FX:=(Builtin.zeroCells (Value.agg #[I0 0,I0 0,.string ⟨#[]⟩]).cells m).toList
theorem VL(m:Nat):(Z5 m).length=m*3:=by
 rw[Z5,Array.length_toList,size_zeroCells];rfl
theorem AM3(m:Nat):∀u∈Z5 m,u.oneCell'=true:=by
 intro u hu;simp only[Z5,Builtin.zeroCells,Value.cells,Array.toList_map,List.mem_map]at hu;obtain⟨i,_,rfl⟩:=hu;have:i%3<3:=Nat.mod_lt _ (by decide);show (#[I0 0,I0 0,.string ⟨#[]⟩][i%3]!).oneCell'=true;rcases(show i%3=0\/i%3=1\/i%3=2 by omega)with e|e|e<;>rw[e]<;>rfl
theorem AM4(w:FW)(ty:TypeId)(b o m c:Nat)(hm:0<m)(hc:∀j,j<m*3->(w.cell? ⟨b,o+j,G5⟩).isSome=true)(hf:∀j,j<m*3->w.frozen? ⟨b,o+j,G5⟩=false):
  (Builtin.clear_ #[38] ty #[FU (G6 ⟨b,o,G5⟩) m c]).run prog w=.ok (.tuple #[]) (w.setCells b o (Z5 m)):=by
 have hst:=run_storeCells_cells (P:=prog) b o (Z5 m) 0 w (by rw[VL];simpa using hc) (by rw[VL];simpa using hf) (AM3 m);simp only[Nat.add_zero]at hst;obtain⟨k,rfl⟩:∃k,m=k+1:=⟨m-1,by omega⟩;simp[Builtin.clear_,run_underlying underlying38];exact(by
  have:=hst;unfold Z5 at this⊢;rw[this];rfl)
structure CJ8(g:FuncId)(B:Nat)(q:Nat)(pr:Wa->Bool)(I:FW->Prop):Prop where
 two:g=172\/g=176
 keep:∀W V,I W->W.grownBy V (G6 q)->I V
 gives:∀W x,I W->FZ prog g #[.agg #[I0 x.s,I0 x.k,S0 x.p],P0 B] W fun r w'=>r=.returned (.bool (pr x))/\B0 W w'
theorem C52{g:FuncId}{B q:Nat}{pr:Wa->Bool}{I:FW->Prop}(C:CJ8 g B q pr I)(b off cap:Nat)(A:List Wa)(x:Wa)(R:List Wa)(w:FW)(hi:I w)(hb:b<w.heap.size)(hr:IC w b off (GI (A++x::R)))(hl:(A++x::R).length<=140737488355328)
  (hA:∀a∈A,pr a=false) (hx:pr x=true):
  FZ prog 201 #[FU (G6 ⟨b,off,G5⟩) (A++x::R).length cap,.func (.func g) #[] #[P0 B]] w (R0 w (I0 A.length)):=by
 have HR:=G8 (fun W (hW:B0 w W)=>hr.kept hW hb);have HC:=G8 C;have HI:=G8 (fun W (hW:B0 w W)=>C.keep w W hi (LK hW));have HX:=G8 hx;have HA:=G8 hA;have hAn:A.length<(A++x::R).length:=by simp
 obtain⟨n,hn⟩:∃n,(A++x::R).length=n:=⟨_,rfl⟩;rw[hn]at hl hAn⊢;have HN:=G8 hn;have two:=C.two;clear hr C hi hx hA hn;rcases two with rfl|rfl
 all_goals
  go_enter func201,ntmps201;go_wp2_with fail
  go_loopg [8] n (fun kx s8 wr=>∃k:Nat,s8=I0 k/\k<=A.length/\n-k<=kx/\Hid (B0 w wr))
  case atStart=>exact⟨0,rfl,AZ _,A8 _,G8 (AA _ _)⟩
  case round=>
   obtain⟨k,rfl,hk,hg,hB⟩:=hrel;have hlt:k<n:=by omega
   obtain⟨y,hy⟩:∃y,(A++x::R)[k]?=G6 y:=⟨_,AO (by rw[G7 HN];exact hlt)⟩;have qr:=G7 HR wr (G7 hB);have d0:=qr.w0 hy;have d1:=qr.w1 hy;have d2:=qr.w2 hy;have hbw:b<wr.heap.size:=AY hb (G7 hB).size;have CX:=(G7 HC).gives wr y (G7 HI wr (G7 hB));by_cases hka:k<A.length
   .have hp:pr y=false:=G7 HA y (by
     rw[List.getElem?_append_left hka]at hy;exact BA hy)
    rw[hp]at CX;clear qr hy hp;go_wp2_with fail;refine CX.mono ?_;rintro e w1 ⟨rfl,hb1⟩;have hB1:=GH (G7 hB) hb1;clear CX hb1;go_wp2_with fail
    go_roundg (n-(k+1))
    case measure=>omega
    case rel=>exact⟨k+1,rfl,by omega,A8 _,G8 hB1⟩
   .obtain rfl:k=A.length:=by omega
    have hp:pr y=true:=by
     have:(A++x::R)[A.length]?=G6 x:=by simp
     rw[this]at hy
     cases hy
     exact G7 HX
    rw[hp]at CX;clear qr hy hp;go_wp2_with fail;refine CX.mono ?_;rintro e w1 ⟨rfl,hb1⟩;have hB1:=GH (G7 hB) hb1;clear CX hb1;go_wp2_with fail;go_ret;exact⟨rfl,hB1⟩
theorem B31{g:FuncId}{I:FW->Prop}(C:CJ8 g B q pr I)(v:FX)(A:List Wa)(w:FW)(hi:I w)(hv:IL w v A)(hl:A.length<=140737488355328)(hA:∀a∈A,pr a=false):
  FZ prog 201 #[v,.func (.func g) #[] #[P0 B]] w (R0 w (I0 (-1))):=by
 have KR:∀W,B0 w W->∀k x,A[k]?=G6 x->∃b off cap,v=FU (G6 ⟨b,off,G5⟩) A.length cap/\b<w.heap.size/\IC W b off (GI A):=fun W hW k x hx=>by
  obtain⟨b,off,cap,e,hb,hr,_,_⟩:=MV hv (fun h0=>by obtain⟨h1,_⟩:=AV.1 hx;rw[h0]at h1;simp at h1);exact⟨b,off,cap,e,hb,hr.kept hW hb⟩
 have HKR:=G8 KR;have HC:=G8 C;have HI:=G8 (fun W (hW:B0 w W)=>C.keep w W hi (LK hW));have HA:=G8 hA;have two:=C.two;obtain⟨va,vc,rfl⟩:=GK hv;clear C hi hA KR hv;rcases two with rfl|rfl
 all_goals
  go_enter func201,ntmps201;go_wp2_with fail
  go_loopg [8] A.length (fun kx s8 wr=>∃k:Nat,s8=I0 k/\k<=A.length/\A.length-k<=kx/\Hid (B0 w wr))
  case atStart=>exact⟨0,rfl,AZ _,A8 _,G8 (AA _ _)⟩
  case round=>
   obtain⟨k,rfl,hk,hg,hB⟩:=hrel;by_cases hlt:k<A.length
   .obtain⟨y,hy⟩:∃y,A[k]?=G6 y:=⟨_,AO hlt⟩;obtain⟨b,off,cap,he,hb,qr⟩:=G7 HKR wr (G7 hB) k y hy;simp only[AQ]at he;obtain⟨rfl,_,rfl⟩:=he;have d0:=qr.w0 hy;have d1:=qr.w1 hy;have d2:=qr.w2 hy;have hbw:b<wr.heap.size:=AY hb (G7 hB).size;have CX:=(G7 HC).gives wr y (G7 HI wr (G7 hB));have hp:pr y=false:=G7 HA y (BA hy);rw[hp]at CX;clear qr hy hp;go_wp2_with fail;refine CX.mono ?_;rintro e w1 ⟨rfl,hb1⟩;have hB1:=GH (G7 hB) hb1;clear CX hb1;go_wp2_with fail
    go_roundg (A.length-(k+1))
    case measure=>omega
    case rel=>exact⟨k+1,rfl,by omega,A8 _,G8 hB1⟩
   .obtain rfl:k=A.length:=by omega
    go_wp2_with fail;go_ret;exact⟨rfl,G7 hB⟩
theorem kJ[Lay α]{C:Nat}{v:FX}{xs:List α}(h:GZ W C v xs)(hB:∀k,v.ownBlock=G6 k->B<=k):GZ W B v xs:=by
 rcases h with h|⟨g,cap,rfl,_,h⟩
 .exact .inl h
 .exact .inr ⟨g,cap,rfl,hB g rfl,h⟩
theorem dX[Lay α]{v:FX}{xs:List α}(h:GZ W B v xs):∀k,v.ownBlock=G6 k->B<=k:=by
 rcases h with⟨rfl,_⟩|⟨g,cap,rfl,h1,h⟩
 .intro k hk;cases hk
 .intro k hk;simp only[DJ,Option.some.injEq]at hk;omega
theorem BM8(w:FW)(n:Nt):JQ (w.alloc (FV #[I0 n.s,I0 n.k,S0 n.p] 76)) w.heap.size n:=heap_alloc_new w _
theorem A24{w:FW}{ops:Array Oper}{o:Oper}{a:Act}{K:Act->FW->Prop}{Q:Exit->Act->FW->Prop}{E:Prop}(hgd:Region.wanted o (yielded ops a.tmps)=true)(s x:Operand)
  (ho:o.op=.call {callee:=.builtin .append,args:=#[s,x],argTypes:=#[51,51]})
  (v:FX) (ns:List Nt) (hs:a.eval s=v) (hown:GZ w 0 v ns)
  (q:Nat) (hx:a.eval x=FU (G6 ⟨q,0,G5⟩) 1 1) (t:Nt) (hnews:JQ w q t) (hl:(ns.length+1)*32<=140737488355328)
  (h:∀a' c' w',GZ w' 0 (FU a' (ns.length+1) c') (ns++[t])->w.grownBy w' v.ownBlock->((Value.slice a' (ns.length+1) c').ownBlock=v.ownBlock\/(Value.slice a' (ns.length+1) c').ownBlock=G6 w.heap.size)->K (a.put o.dst (FU a' (ns.length+1) c')) w'):
  if Region.wanted o (yielded ops a.tmps)=true then Oper.wp prog o a w K Q else E:=by
 rw[if_pos hgd];obtain⟨i0,hi0,hz0,hz1,hz2⟩:=AY2;obtain⟨v',w',hr,h2,h3,_,h5⟩:=run_append_own_at (P:=prog) w 0 51 o.type 76 i0 _ 3 32 underlying51 hi0 hz0 hz1 hz2 rfl (by decide) v ns.length (GI ns) hown.row ⟨q,0,G5⟩ 1 1 (zY t) rfl (RP hnews) (Lay.one t) (by simp only[maxLen];omega) hl (AZ _);have h2':GZ w' 0 v' (ns++[t]):=GZ.L9 (by rw[AP,JH];exact h2);obtain⟨a',c',rfl,_⟩:=h2'.slice;have hlen:(ns++[t]).length=ns.length+1:=by simp
 rw[hlen]at h2' hr h5;unfold Oper.wp execOp;simp only[ho,resolve,invoke,builtin,EC,EO,EG,List.map_toArray,List.map_cons,List.map_nil,hs,hx,hr];exact h a' c' w' h2' h3 h5
theorem B32{k:Nat}{e:Ev}(h:ws[k]?=G6 x):U0 (ws.take (k+1)) e=U0 (ws.take k) e++(if yQ x e=true then [AX3 e x]else []):=by
 rw[PD h];simp only[U0,F5,List.map_append]
 cases hx:yQ x e<;>simp[hx]
theorem C53(ws:List Wa)(e:Ev)(k:Nat):(U0 (ws.take k) e).length<=k:=by
 have:=qL (ws.take k) e;have h2:(ws.take k).length<=k:=by simp;omega
 omega
theorem BM9(q cap B:Nat)(ws:List Wa)(e:Ev)(w:FW)(hq:q<w.heap.size)(hr:IC w q 0 (GI ws))(hE:JQ w B e)(hl:ws.length*32<=140737488351232)(hp:e.p.length<=140737488355328):
  FZ prog 174 #[FU (G6 ⟨q,0,G5⟩) ws.length cap,evV e,.func (.func 172) #[] #[P0 B]] w fun r w'=>
   ∃v',r=.returned v'/\GZ w' w.heap.size v' (U0 ws e)/\B0 w w':=by
 obtain⟨w0,hw0⟩:∃w0,w.alloc (FV #[I0 e.k,S0 e.p] 74)=w0:=⟨_,rfl⟩;have hz0:w0.heap.size=w.heap.size+1:=by rw[<-hw0];simp
 have hb0:B0 w w0:=by rw[<-hw0];exact G9 _ _
 have X0:JQ w0 w.heap.size e:=by rw[<-hw0];exact zU w e.k e.p
 have HR:=G8 (fun W (hW:B0 w0 W)=>(hr.kept hb0 hq).kept hW (by omega));have HX:=G8 (fun W (hW:B0 w0 W)=>(⟨by simpa using (JQ.row ((hW.block _ (by omega)).trans X0) 0 _ rfl),by simpa using (JQ.row ((hW.block _ (by omega)).trans X0) 1 _ rfl)⟩:W.cell? ⟨w.heap.size,0,G5⟩=G6 (I0 e.k)/\W.cell? ⟨w.heap.size,1,G5⟩=G6 (S0 e.p)));have CF:=G8 (fun W (hW:B0 w0 W) x=>wK x e B W ((hW.block _ (by have:=(AL.1 hE).1;omega)).trans ((hb0.block _ (AL.1 hE).1).trans hE)));have CC:=fun W=>oI e.p W (by omega);have HB0:=G8 hb0;clear hr hE X0 hb0;unfold evV;unfold waV at CF;go_enter func174,ntmps174;go_wp2_with fail
 try rw[hw0]
 go_loopg [7,12] ws.length (fun kx s7 s12 wr=>∃ (k:Nat) (va:Option Addr) (vc:Nat),s12=I0 k/\s7=FU va (U0 (ws.take k) e).length vc/\k<=ws.length/\ws.length-k<=kx/\Hid (GZ wr w0.heap.size (FU va (U0 (ws.take k) e).length vc) (U0 (ws.take k) e))/\Hid (B0 w0 wr))
 case atStart=>exact⟨0,G5,0,rfl,rfl,AZ _,A8 _,G8 (.inl ⟨rfl,rfl⟩),G8 (AA _ _)⟩
 case round=>
  obtain⟨k,va,vc,rfl,rfl,hk,hg,hO,hB⟩:=hrel;by_cases hlt:k<ws.length
  .obtain⟨x,hx⟩:∃x,ws[k]?=G6 x:=⟨_,AO hlt⟩;have qr:=G7 HR wr (G7 hB);have d0:=qr.w0 hx;have d1:=qr.w1 hx;have d2:=qr.w2 hx;simp only[BJ]at d0 d1 d2;have hqw:q<wr.heap.size:=by have:=(G7 hB).size;omega
   have hts:=B32 (e:=e) hx;have hnl:=C53 ws e k;obtain⟨N,hN⟩:∃N,U0 (ws.take k) e=N:=⟨_,rfl⟩;rw[hN]at hO hts hnl;have hB1:=GH (G7 hB) (G9 wr (FV #[I0 x.s,I0 x.k,S0 x.p] 83));have CX:=G7 CF _ hB1 x;have HB1:=G8 hB1;rw[hN];clear qr hx hN hB1
   cases hpx:yQ x e
   .rw[hpx]at CX hts;simp only[Bool.false_eq_true,if_false,DU]at hts;have HTS:=G8 hts;clear hts hpx;go_wp2_with fail;refine CX.mono ?_;rintro r w1 ⟨rfl,hb1⟩;have HB2:=G8 (GH (G7 HB1) hb1);have HO2:=G8 (((G7 hO).next (G9 wr (FV #[I0 x.s,I0 x.k,S0 x.p] 83))).next hb1);clear CX hb1;go_wp2_with fail
    go_roundg (ws.length-(k+1))
    case measure=>omega
    case rel=>exact⟨k+1,va,vc,rfl,by rw[G7 HTS],by omega,A8 _,by rw[G7 HTS];exact HO2,HB2⟩
   .rw[hpx]at CX hts;simp only[if_true]at hts;have HTS:=G8 hts;clear hts hpx;go_wp2_with fail;refine CX.mono ?_;rintro r w1 ⟨rfl,hb1⟩;have HB2:=G8 (GH (G7 HB1) hb1);have O2:=((G7 hO).next (G9 wr (FV #[I0 x.s,I0 x.k,S0 x.p] 83))).next hb1;have K1:∀w2,B0 w1 w2->w2.cell? ⟨wr.heap.size,0,G5⟩=G6 (I0 x.s)/\w2.cell? ⟨w.heap.size,0,G5⟩=G6 (I0 e.k)/\w2.cell? ⟨w.heap.size,1,G5⟩=G6 (S0 e.p):=by
     intro w2 hb2;have hbb:=GH (G7 HB2) hb2;refine⟨?_,(G7 HX w2 hbb).1,(G7 HX w2 hbb).2⟩;have hz:wr.heap.size<w1.heap.size:=by have:=hb1.size;simp at this;omega
     rw[hb2.cell (p:=⟨wr.heap.size,0,G5⟩) hz,hb1.cell (p:=⟨wr.heap.size,0,G5⟩) (by simp)];simp
    obtain⟨m0,m1,m2⟩:=K1 w1 (AA _ _);have HK1:=G8 K1;have KE:=G8 (fun w2 (hb2:B0 w1 w2)=>((O2.next hb2).next (G9 w2 (FV #[I0 x.s,I0 e.k,S0 e.p] 76))).lower (AZ w0.heap.size));have KA:=G8 (dX O2);have K2:∀ (w2 w3:FW) (a3:Option Addr) (c3:Nat),B0 w1 w2->GZ w3 0 (FU a3 (N.length+1) c3) (N++[⟨x.s,e.k,e.p⟩])->(w2.alloc (FV #[I0 x.s,I0 e.k,S0 e.p] 76)).grownBy w3 (Value.slice va N.length vc).ownBlock->
      ((Value.slice a3 (N.length+1) c3).ownBlock=(Value.slice va N.length vc).ownBlock\/(Value.slice a3 (N.length+1) c3).ownBlock=G6 (w2.alloc (FV #[I0 x.s,I0 e.k,S0 e.p] 76)).heap.size)->
      GZ w3 w0.heap.size (FU a3 (N.length+1) c3) (N++[⟨x.s,e.k,e.p⟩])/\B0 w0 w3:=by
     intro w2 w3 a3 c3 hb2 ho3 hg3 hl3;have hbb:=GH (GH (G7 HB2) hb2) (G9 w2 (FV #[I0 x.s,I0 e.k,S0 e.p] 76));refine⟨kJ ho3 (fun j hj=>?_),hbb.grown hg3 hbb.size (G7 KA)⟩;rcases hl3 with h|h
     .rw[h]at hj;exact G7 KA j hj
     .rw[h]at hj;cases hj;exact hbb.size
    have HK2:=G8 K2;have hsz1:wr.heap.size<w1.heap.size:=by have:=hb1.size;simp at this;omega
    have hsz2:w.heap.size<w1.heap.size:=by have:=(G7 HB2).size;omega
    have hNl:(N.length+1)*32<=140737488355328:=by omega
    clear CX hb1 K1 K2 O2;go_wp2_with fail
    go_region_law (first
     |(refine A24 (by kernel_rfl) _ _ (by rfl) (FU va N.length vc) N (by rfl) (G7 KE w2 (G7 HB3)) w2.heap.size (by rfl) ⟨x.s,e.k,e.p⟩ (BM8 w2 ⟨x.s,e.k,e.p⟩) hNl ?_;intro a3 c3 w3 ho3 hg3 hl3;obtain⟨o3,b3⟩:=G7 HK2 w2 w3 a3 c3 (G7 HB3) ho3 hg3 hl3;have HO3:=G8 o3;have HB4:=G8 b3;clear ho3 hg3 hl3 o3 b3)
     |(go_simp;refine(CC _).mono ?_;rintro r w2 ⟨rfl,hb2⟩;have HB3:Hid (B0 w1 w2):=(by first|exact hb2|exact IB hb2);obtain⟨p0,p1,p2⟩:=G7 HK1 w2 (G7 HB3);clear hb2))
    all_goals
     go_wp2_with fail
     go_roundg (ws.length-(k+1))
     case measure=>omega
     case rel=>exact⟨k+1,_,_,rfl,by rw[G7 HTS,AP];rfl,by omega,A8 _,by rw[G7 HTS,AP];exact HO3,HB4⟩
  .obtain rfl:k=ws.length:=by omega
   rw[DW]at hO⊢;have HB:=G8 (GH (G7 HB0) (G7 hB));have hO2:Hid (GZ wr w.heap.size (FU va (U0 ws e).length vc) (U0 ws e)):=G8 ((G7 hO).lower (by omega));clear hO;go_wp2_with fail;go_ret;exact⟨_,rfl,G7 hO2,G7 HB⟩
theorem AB4(pr:Wa->Bool):∀ws:List Wa,(∀a∈ws,pr a=false)\/∃A x R,ws=A++x::R/\(∀a∈A,pr a=false)/\pr x=true
 |[]=>.inl (by simp)
 |y::r=>by
  cases h:pr y
  .rcases AB4 pr r with h1|⟨A,x,R,rfl,h1,h2⟩
   .exact .inl (by intro a ha;rcases BQ.1 ha with rfl|ha;exact h;exact h1 a ha)
   .exact .inr ⟨y::A,x,R,rfl,(by intro a ha;rcases BQ.1 ha with rfl|ha;exact h;exact h1 a ha),h2⟩
  .exact .inr ⟨[],y,r,rfl,by simp,h⟩
theorem wM(h:∀a∈ws,pr a=false):ws.filter (fun x=> !pr x)=ws:=by
 rw[List.filter_eq_self];intro a ha;simp[h a ha]
theorem AB5{g:FuncId}{I:FW->Prop}(C:CJ8 g B q pr I)(cap:Nat)(ws:List Wa)(w:FW)(hi:I w)(ho:JA w q cap ws)(hl:ws.length<=140737488355328):
  FZ prog 175 #[FU (G6 ⟨q,0,G5⟩) ws.length cap,.func (.func g) #[] #[P0 B]] w fun e w'=>
   e=.returned (FU (G6 ⟨q,0,G5⟩) (ws.filter (fun x=> !pr x)).length cap)/\JA w' q cap (ws.filter (fun x=> !pr x))/\w.grownBy w' (G6 q):=by
 rcases AB4 pr ws with hA|⟨A,x,R,hws,hA,hx⟩
 .rw[wM hA];have CN:=B31 C _ ws w hi (GZ.seq (.inr ⟨q,cap,rfl,AZ _,ho⟩)) hl hA;have HO:=G8 ho;have two:=C.two;clear C hA hi ho;rcases two with rfl|rfl
  all_goals
   go_enter func175,ntmps175;go_wp2_with fail;refine CN.mono ?_;rintro e w1 ⟨rfl,hb1⟩;have HB:=G8 hb1;clear CN hb1;go_wp2_with fail;go_ret;exact⟨rfl,(G7 HO).next (G7 HB),LK (G7 HB)⟩
 .obtain⟨n,hn⟩:∃n,ws.length=n:=⟨_,rfl⟩;have hAn:A.length<n:=by rw[<-hn,hws];simp
  have hnc:n<=cap:=by rw[<-hn];exact ho.le
  have hcl:=ho.capLe;simp only[maxLen]at hcl;have CA:=C52 C q 0 cap A x R w hi ho.lt (by rw[<-hws];exact ho.row) (by rw[<-hws];exact hl) hA hx;rw[<-hws,hn]at CA;obtain⟨T,hT⟩:∃T,ws.filter (fun x=> !pr x)=T:=⟨_,rfl⟩;rw[hn]at hl⊢;rw[hT];have HTk:Hid (∀j,n<=j->(ws.take j).filter (fun x=> !pr x)=T):=G8 (fun j hj=>by rw[BN (by omega)];exact hT);have HF0:Hid ((ws.take (A.length+1)).filter (fun x=> !pr x)=A):=G8 (by
   rw[hws,List.take_append,BN (by omega),F5,wM hA];simp[hx])
  have HG0:Hid (ws=A++[x]++ws.drop (A.length+1)):=G8 (by
   rw[hws];simp)
  have HN:=G8 hn;have HO:=G8 ho;have HC:=G8 C;have HI:=G8 (fun W (hW:w.grownBy W (G6 q))=>C.keep w W hi hW);have two:=C.two;clear hn hws hA hx ho C hT hi;rcases two with rfl|rfl
  all_goals
   go_enter func175,ntmps175;go_wp2_with fail;refine CA.mono ?_;rintro e w1 ⟨rfl,hb1⟩;have HB:=G8 hb1;clear CA hb1;go_wp2_with fail
   go_loopg [5,6] n (fun kx s5 s6 wr=>∃ (j:Nat) (F G:List Wa),s5=I0 F.length/\s6=I0 j/\j<=n/\n-j<=kx/\F.length+G.length=j/\0<G.length/\Hid ((ws.take j).filter (fun x=> !pr x)=F)/\Hid (JA wr q cap (F++G++ws.drop j))/\Hid (w.grownBy wr (G6 q)))
   case atStart=>exact⟨A.length+1,A,[x],rfl,rfl,by omega,by omega,rfl,by simp,HF0,G8 (by rw[<-G7 HG0];exact(G7 HO).next (G7 HB)),G8 (LK (G7 HB))⟩
   case round=>
    obtain⟨j,F,G,rfl,rfl,hj,hg,hFG,hG0,hF,hO,hW⟩:=hrel;have hFj:F.length<j:=by omega
    by_cases hlt:j<n
    .obtain⟨y,hy⟩:∃y,ws[j]?=G6 y:=⟨_,AO (by rw[G7 HN];exact hlt)⟩;have hd:ws.drop j=y::ws.drop (j+1):=by
      obtain⟨h1,h2⟩:=AV.1 hy;rw[List.drop_eq_getElem_cons h1,h2]
     have hf:(ws.take (j+1)).filter (fun x=> !pr x)=F++(if pr y=true then []else [y]):=by
      rw[PD hy,F5,G7 hF]
      cases hpy:pr y<;>simp[hpy]
     rw[hd]at hO;have hyr:(F++G++y::ws.drop (j+1))[j]?=G6 y:=by
      rw[List.getElem?_append_right (by simp;omega)];simp[hFG]
     obtain⟨z,G',rfl⟩:∃z G',G=z::G':=by
      cases G with
      |nil=>simp at hG0
      |cons z G'=>exact⟨z,G',rfl⟩
     have hzr:(F++z::G'++y::ws.drop (j+1))[F.length]?=G6 z:=by simp
     have d0:=(G7 hO).row.w0 hyr;have d1:=(G7 hO).row.w1 hyr;have d2:=(G7 hO).row.w2 hyr;have hq:=(G7 hO).lt;have hqn:q≠wr.heap.size:=by omega
     simp only[BJ]at d0 d1 d2;have HW1:=G8 (IQ (G7 hW) (LK (G9 wr (FV #[I0 y.s,I0 y.k,S0 y.p] 83))));have CX:=(G7 HC).gives _ y (G7 HI _ (G7 HW1));have hjn:(j:Int)<(n:Int):=by omega
     by_cases hp:pr y=true
     .rw[hp]at CX hf;rw[if_pos rfl,DU]at hf;have HF:=G8 hf;clear hy hd hf hyr hp hzr;go_wp2_with fail;refine CX.mono ?_;rintro e w2 ⟨rfl,hb2⟩;have HO2:Hid (JA w2 q cap (F++(z::G'++[y])++ws.drop (j+1))):=G8 (by
       have:=((G7 hO).next (G9 wr (FV #[I0 y.s,I0 y.k,S0 y.p] 83))).next hb2;simpa using this)
      have HW2:=G8 (IQ (G7 HW1) (LK hb2));clear CX hb2;go_wp2_with fail
      go_roundg (n-(j+1))
      case measure=>omega
      case rel=>exact⟨j+1,F,z::G'++[y],rfl,rfl,by omega,A8 _,by simp at hFG⊢;omega,by simp,HF,HO2,HW2⟩
     .have hp':pr y=false:=by simpa using hp
      rw[hp']at CX;rw[if_neg hp]at hf;have HF:=G8 hf;clear hy hd hf hyr hp hp';have hFn:(F.length:Int)<(n:Int):=by omega
      go_wp2_with fail;refine CX.mono ?_;rintro e w2 ⟨rfl,hb2⟩;have O2:=((G7 hO).next (G9 wr (FV #[I0 y.s,I0 y.k,S0 y.p] 83))).next hb2;have c0:w2.cell? ⟨wr.heap.size,0,G5⟩=G6 (I0 y.s):=by rw[hb2.cell (p:=⟨wr.heap.size,0,G5⟩) (by simp)];simp
      have c1:w2.cell? ⟨wr.heap.size,1,G5⟩=G6 (I0 y.k):=by rw[hb2.cell (p:=⟨wr.heap.size,1,G5⟩) (by simp)];simp
      have c2:w2.cell? ⟨wr.heap.size,2,G5⟩=G6 (S0 y.p):=by rw[hb2.cell (p:=⟨wr.heap.size,2,G5⟩) (by simp)];simp
      have e0:=O2.row.w0 hzr;have e1:=O2.row.w1 hzr;have e2:=O2.row.w2 hzr;simp only[BJ]at e0 e1 e2;have f0:=O2.frozen (F.length*3);have f1:=O2.frozen (F.length*3+1);have f2:=O2.frozen (F.length*3+2);have hz2:wr.heap.size<w2.heap.size:=by have:=hb2.size;simp at this;omega
      have HO3:Hid (JA (((w2.setCell ⟨q,F.length*3,G5⟩ (I0 y.s)).setCell ⟨q,F.length*3+1,G5⟩ (I0 y.k)).setCell ⟨q,F.length*3+2,G5⟩ (S0 y.p)) q cap ((F++[y])++(G'++[y])++ws.drop (j+1))):=G8 (by
       have O2':JA w2 q cap (F++z::(G'++y::ws.drop (j+1))):=by simpa using O2
       have:=O2'.vC y;have e:F++[y]++(G'++[y])++ws.drop (j+1)=F++y::(G'++y::ws.drop (j+1)):=by simp
       rw[e];exact this)
      have HW3:Hid (w.grownBy (((w2.setCell ⟨q,F.length*3,G5⟩ (I0 y.s)).setCell ⟨q,F.length*3+1,G5⟩ (I0 y.k)).setCell ⟨q,F.length*3+2,G5⟩ (S0 y.p)) (G6 q)):=
       G8 (IQ (IQ (IQ (IQ (G7 HW1) (LK hb2)) (PX _)) (PX _)) (PX _))
      clear CX hb2 O2 hzr;go_wp2_with fail
      go_roundg (n-(j+1))
      case measure=>omega
      case rel=>exact⟨j+1,F++[y],G'++[y],by rw[AP];rfl,rfl,by omega,A8 _,by simp at hFG⊢;omega,by simp,HF,HO3,HW3⟩
    .obtain rfl:j=n:=by omega
     have hTF:T=F:=((G7 HTk j (A8 _)).symm.trans (G7 hF));have OF:JA wr q cap F:=JA.head (B:=G++ws.drop j) (by have:=G7 hO;rwa[BU]at this);have CS5:∀ty c,(Builtin.clear_ #[38] ty #[FU (G6 ⟨q,F.length*3,G5⟩) (j-F.length) c]).run prog wr=.ok (.tuple #[]) (wr.setCells q (F.length*3) (Z5 (j-F.length))):=fun ty c=>
      AM4 wr ty q _ _ c (by omega) (fun i hi=>OF.some (show F.length*3+i<cap*3 by omega)) (fun i hi=>OF.frozen _)
     have FIN:Hid (JA (wr.setCells q (F.length*3) (Z5 (j-F.length))) q cap F/\w.grownBy (wr.setCells q (F.length*3) (Z5 (j-F.length))) (G6 q)):=
      G8 ⟨OF.spare _ _ (A8 _) (by rw[VL];show _<=cap*3;omega),IQ (G7 hW) (I8 _ _ _)⟩
     have hcn:¬ (cap=F.length):=by omega
     have hFc:F.length<=cap:=by omega
     have hFn:F.length<=j:=by omega
     have hjj:¬ ((j:Int)<(j:Int)):=by omega
     clear OF hO hW hF HTk HF0 HG0;subst hTF;go_wp2_with fail;go_ret;exact⟨rfl,(G7 FIN).1,(G7 FIN).2⟩
theorem AM5(ws:List Wa)(es:List Ev)(k:Nat)(e:Ev)(h:es[k]?=G6 e):OV ws (es.take (k+1))=OV ws (es.take k)++U0 (LC ws (es.take k)) e:=by
 rw[PD h,AX4];simp[OV]
theorem AM6(ws:List Wa)(es:List Ev)(k:Nat)(e:Ev)(h:es[k]?=G6 e):LC ws (es.take (k+1))=mO (LC ws (es.take k)) e:=by
 rw[PD h,AX5];simp[LC]
theorem mX{w:FW}{ops:Array Oper}{rest:List Oper}{o:Oper}{a:Act}{Q:Exit->Act->FW->Prop}(hgd:o.guard=G5)(s x:Operand)
  (ho:o.op=.call {callee:=.builtin .append,args:=#[s,x],argTypes:=#[51,51]})
  (v u:FX) (ns ms:List Nt) (C:Nat) (hs:a.eval s=v) (hown:GZ w 0 v ns) (hx:a.eval x=u) (hu:GZ w C u ms) (hl:(ns.length+ms.length)*32<=140737488355328)
  (h:∀a' c' w',GZ w' 0 (FU a' (ns.length+ms.length) c') (ns++ms)->w.grownBy w' v.ownBlock->((Value.slice a' (ns.length+ms.length) c').ownBlock=v.ownBlock\/(Value.slice a' (ns.length+ms.length) c').ownBlock=G6 w.heap.size)->wpList prog ops Q rest (a.put o.dst (FU a' (ns.length+ms.length) c')) w'):
  wpList prog ops Q (o::rest) a w:=by
 refine wpList_plain hgd fun K hK=>?_;obtain⟨i0,hi0,hz0,hz1,hz2⟩:=AY2;rcases hu with⟨rfl,rfl⟩|⟨g,cap,rfl,_,hr⟩
 .obtain⟨a',c',rfl,_⟩:=hown.slice;have hrun:=run_append_owned_none (P:=prog) (w:=w) 0 51 o.type 76 i0 3 underlying51 hi0 _ ns.length (GI ns) hown.row;unfold Oper.wp execOp;simp only[ho,resolve,invoke,builtin,EC,EO,EG,List.map_toArray,List.map_cons,List.map_nil,hs,hx,hrun];exact hK _ _ (h a' c' w (by rw[DU];exact hown) (World.grownBy.refl _ _) (.inl rfl))
 .obtain⟨v',w',hrun,h2,h3,_,h5⟩:=run_append_own_at (P:=prog) w 0 51 o.type 76 i0 _ 3 32 underlying51 hi0 hz0 hz1 hz2 rfl (by decide) v ns.length (GI ns) hown.row ⟨g,0,G5⟩ ms.length cap (GI ms) (H6 ms) (fun j y hj=>by rw[Addr.add_lit];exact hr.row j y hj) (JO ms) (by simp only[maxLen];omega) hl (AZ _);have h2':GZ w' 0 v' (ns++ms):=GZ.L9 (by rw[AP,I5];exact h2);obtain⟨a',c',rfl,_⟩:=h2'.slice;rw[AP]at h2' hrun h5;unfold Oper.wp execOp;simp only[ho,resolve,invoke,builtin,EC,EO,EG,List.map_toArray,List.map_cons,List.map_nil,hs,hx,hrun];exact hK _ _ (h a' c' w' h2' h3 h5)
theorem JQ.grown{V:FW}{e:Ev}(h:JQ W B e)(hg:W.grownBy V (G6 q))(hne:B≠q):JQ V B e:=
 (hg.block B (AL.1 h).1 (by simp[hne])).trans h
theorem AM7(B q:Nat)(e:Ev)(hne:B≠q):CJ8 172 B q (fun x=>yQ x e) (fun W=>JQ W B e):=
 ⟨.inl rfl,fun _ _ h hg=>h.grown hg hne,fun W x h=>wK x e B W h⟩
theorem BN0(v u:FX)(ws:List Wa)(es:List Ev)(w:FW)(hv:IL w v ws)(hu:IL w u es)(hs:mV ws)(he:BX3 es)(hl:ws.length*32<=140737488351232)(hle:es.length<=140737488355328):
  FZ prog 120 #[v,u] w fun r w'=>∃vn vl,r=.returned (.tuple #[vn,vl])/\GZ w' w.heap.size vn (OV ws es)/\(∃g,vl=FU (G6 ⟨g,0,G5⟩) (LC ws es).length (ws.length+1)/\w.heap.size<=g/\JA w' g (ws.length+1) (LC ws es))/\B0 w w':=by
 have CC:=ZO v ws w hv hs hl;have KR:∀W,B0 w W->∀k x,es[k]?=G6 x->∃b off cap,u=FU (G6 ⟨b,off,G5⟩) es.length cap/\b<w.heap.size/\IC W b off (GI es):=fun W hW k x hx=>by
  obtain⟨b,off,cap,e,hb,hr,_,_⟩:=MV hu (fun h0=>by obtain⟨h1,_⟩:=AV.1 hx;rw[h0]at h1;simp at h1);exact⟨b,off,cap,e,hb,hr.kept hW hb⟩
 have HKR:=G8 KR;have HE:=G8 he;obtain⟨va,vc,rfl⟩:=GK hv;obtain⟨ua,uc,rfl⟩:=GK hu;obtain⟨i0,hi0,hz0,hz1,hz2⟩:=AY2;clear hv hu hs he KR;go_enter func120,ntmps120;go_wp2_with fail;refine CC.mono ?_;rintro r w0 ⟨q,rfl,hq,ho,hb⟩;have HO:Hid (JA w0 q (ws.length+1) ws):=G8 ho;have HB:=G8 hb;clear CC ho hb;go_wp2_with fail
 go_loopg [6,7,15] es.length (fun kx s6 s7 s15 wr=>∃ (k:Nat) (na:Option Addr) (nc:Nat),s15=I0 k/\s6=FU na (OV ws (es.take k)).length nc/\s7=FU (G6 ⟨q,0,G5⟩) (LC ws (es.take k)).length (ws.length+1)/\k<=es.length/\es.length-k<=kx/\
  Hid (GZ wr w.heap.size (FU na (OV ws (es.take k)).length nc) (OV ws (es.take k)))/\Hid ((Value.slice na (OV ws (es.take k)).length nc).ownBlock≠G6 q)/\Hid (JA wr q (ws.length+1) (LC ws (es.take k)))/\Hid (B0 w wr))
 case atStart=>exact⟨0,G5,0,rfl,rfl,rfl,AZ _,A8 _,G8 (.inl ⟨rfl,rfl⟩),G8 (by simp[DJ]),HO,HB⟩
 case round=>
  obtain⟨k,na,nc,rfl,rfl,rfl,hk,hg,hN,hnq,hO,hB⟩:=hrel;by_cases hlt:k<es.length
  .obtain⟨e,hx⟩:∃e,es[k]?=G6 e:=⟨_,AO hlt⟩;obtain⟨b,off,cap,he,hb,qr⟩:=G7 HKR wr (G7 hB) k e hx;simp only[AQ]at he;obtain⟨rfl,_,rfl⟩:=he;have d0:=qr.e0 hx;have d1:=qr.e1 hx;have hep:=G7 HE e (BA hx);have hbw:b<wr.heap.size:=AY hb (G7 hB).size;have HTN:=G8 (AM5 ws es k e hx);have HTW:=G8 (AM6 ws es k e hx);have hfl:=iD (es.take k) ws;obtain⟨N,hN'⟩:∃N,OV ws (es.take k)=N:=⟨_,rfl⟩;obtain⟨L,hL'⟩:∃L,LC ws (es.take k)=L:=⟨_,rfl⟩;rw[hN']at hN hnq HTN hfl⊢;rw[hL']at hO HTN HTW hfl⊢;have htl:=qL L e;clear qr hx hN' hL';obtain⟨wx,hwx⟩:∃wx,wr.alloc (FV #[I0 e.k,S0 e.p] 74)=wx:=⟨_,rfl⟩;have hbx:B0 wr wx:=by rw[<-hwx];exact G9 _ _
   have hzx:wx.heap.size=wr.heap.size+1:=by rw[<-hwx];simp
   have X:JQ wx wr.heap.size e:=by rw[<-hwx];exact zU wr e.k e.p
   have hqr:=(G7 hO).lt;have x0:wx.cell? ⟨wr.heap.size,0,G5⟩=G6 (I0 e.k):=by simpa using X.row 0 _ rfl
   have x1:wx.cell? ⟨wr.heap.size,1,G5⟩=G6 (S0 e.p):=by simpa using X.row 1 _ rfl
   have CT:=BM9 q (ws.length+1) wr.heap.size L e wx (by omega) ((G7 hO).next hbx).row X (by omega) hep;unfold evV at CT;have KT:∀w2 v2,GZ w2 wx.heap.size v2 (U0 L e)->B0 wx w2->
     GZ w2 w.heap.size (FU na N.length nc) N/\JA w2 q (ws.length+1) L/\JQ w2 wr.heap.size e/\B0 w w2/\(∀j,v2.ownBlock=G6 j->j≠q/\w.heap.size<=j/\j≠wr.heap.size)/\IL w2 v2 (U0 L e):=by
    intro w2 v2 h2 hb2;have hb3:=GH hbx hb2;refine⟨(G7 hN).next hb3,(G7 hO).next hb3,(hb2.block _ (by omega)).trans X,GH (G7 hB) hb3,fun j hj=>?_,h2.seq⟩;have:=dX h2 j hj;have:=(G7 hB).size;omega
   have HKT:=G8 KT;have HXZ:=G8 hzx;have hno:(Value.slice na N.length nc).ownBlock≠G6 wr.heap.size:=fun h=>by have:=(G7 hN).low _ h;omega
   have HNO:=G8 hno;clear KT X hno;go_wp2_with fail;refine CT.mono ?_;rintro r w2 ⟨v2,rfl,ho2,hb2⟩;obtain⟨n2,o2,x2,b2,k2,s2⟩:=G7 HKT w2 v2 ho2 hb2;have hzz:wr.heap.size<w2.heap.size:=by have:=hb2.size;omega
   have hq2:=o2.lt;have HQ:=G8 (show wr.heap.size≠q by omega);have HN2:=G8 n2;have HO2:=G8 o2;have HX2:=G8 x2;have HB2:=G8 b2;have HV2:=G8 ho2;have hml:(N.length+(U0 L e).length)*32<=140737488355328:=by omega
   have hLl:L.length<=140737488355328:=by omega
   obtain⟨M,hM⟩:∃M,U0 L e=M:=⟨_,rfl⟩;rw[hM]at HV2 hml HTN;have HTL:Hid (∀L',L.filter (fun x=> !yQ x e)=L'->LC ws (es.take (k+1))=L'):=G8 (fun L' h=>(G7 HTW).trans h);obtain⟨v2a,v2c,rfl,_⟩:=(G7 HV2).slice;clear n2 o2 x2 b2 k2 s2 ho2 hb2 CT hM hfl htl hbx hzx hep HKT x0 x1 hwx;go_wp2_with (at_builtin;refine mX rfl _ _ rfl (FU na N.length nc) (FU v2a M.length v2c) N M wx.heap.size rfl ((G7 HN2).lower (AZ _)) rfl (G7 HV2) hml ?_);intro a3 c3 w3 ho3 hg3 hl3;have hab:=dX (G7 HN2);have B3:B0 w w3:=(G7 HB2).grown hg3 (G7 HB2).size hab;have N3:GZ w3 w.heap.size (FU a3 (N.length+M.length) c3) (N++M):=kJ ho3 (fun j hj=>by
    rcases hl3 with h|h
    .rw[h]at hj;exact hab j hj
    .rw[h]at hj;cases hj;exact(G7 HB2).size)
   have Q3:(Value.slice a3 (N.length+M.length) c3).ownBlock≠G6 q:=by
    rcases hl3 with h|h
    .rw[h];exact G7 hnq
    .rw[h];intro h';cases h';omega
   have O3:JA w3 q (ws.length+1) L:=by
    obtain⟨rest,h1,h2⟩:=G7 HO2;exact⟨rest,(hg3.block q hq2 (fun h=>G7 hnq h.symm)).trans h1,h2⟩
   have X3:JQ w3 wr.heap.size e:=(hg3.block _ hzz (fun h=>G7 HNO h.symm)).trans (G7 HX2);have CD:=AB5 (AM7 wr.heap.size q e (G7 HQ)) (ws.length+1) L w3 X3 O3 hLl;have HB3:=G8 B3;have HN3:=G8 N3;have HQ3:=G8 Q3;obtain⟨L',hL'⟩:∃L',L.filter (fun x=> !yQ x e)=L':=⟨_,rfl⟩;have HL':=G8 (G7 HTL L' hL');rw[hL']at CD;clear ho3 hg3 hl3 hab B3 N3 Q3 O3 X3 hL';go_wp2_with fail;refine CD.mono ?_;rintro r w4 ⟨rfl,ho4,hg4⟩;have HB4:=G8 ((G7 HB3).grown hg4 (G7 HB3).size (fun j hj=>by cases hj;exact hq));have HN4:=G8 ((G7 HN3).grown hg4 (fun j hj h=>G7 HQ3 (hj.trans h)));have HO4:=G8 ho4;clear CD ho4 hg4;go_wp2_with fail
   go_roundg (es.length-(k+1))
   case measure=>omega
   case rel=>
    refine⟨k+1,a3,c3,rfl,?_,?_,by omega,A8 _,?_,?_,?_,HB4⟩
    .rw[G7 HTN,AP]
    .rw[G7 HL']
    .rw[G7 HTN,AP];exact HN4
    .rw[G7 HTN,AP];exact HQ3
    .rw[G7 HL'];exact HO4
  .obtain rfl:k=es.length:=by omega
   rw[DW]at hN hnq hO⊢;go_wp2_with fail
   go_ret2
   exact⟨_,_,rfl,G7 hN,⟨q,rfl,hq,G7 hO⟩,G7 hB⟩
theorem BN1(v:FX)(s:Int)(ws:List Wa)(w:FW)(hv:IL w v ws)(hs:mV ws)(hl:ws.length*32<=140737488351232):
  FZ prog 121 #[v,I0 s] w fun r w'=>∃g,r=.returned (FU (G6 ⟨g,0,G5⟩) (mP ws s).length (ws.length+1))/\w.heap.size<=g/\JA w' g (ws.length+1) (mP ws s)/\B0 w w':=by
 have CC:=ZO v ws (w.alloc (FV #[I0 s] 3)) (hv.next (G9 _ _)) hs hl;obtain⟨va,vc,rfl⟩:=GK hv;have hLl:ws.length<=140737488355328:=by omega
 obtain⟨D,hD⟩:∃D,mP ws s=D:=⟨_,rfl⟩;rw[hD];have HD:Hid (ws.filter (fun x=> !decide (x.s=s))=D):=G8 hD;clear hv hs hD;go_enter func121,ntmps121;go_wp2_with fail;refine CC.mono ?_;rintro r w1 ⟨q,rfl,hq,ho,hb⟩;have hq1:w.heap.size+1<=q:=by simpa using hq
 have c1:w1.cell? ⟨w.heap.size,0,G5⟩=G6 (I0 s):=by rw[hb.cell (p:=⟨w.heap.size,0,G5⟩) (by simp)];simp
 have hz1:w.heap.size<w1.heap.size:=by have:=hb.size;simp at this;omega
 have K:CJ8 176 w.heap.size q (fun x=>decide (x.s=s)) (fun W=>W.cell? ⟨w.heap.size,0,G5⟩=G6 (I0 s)/\w.heap.size<W.heap.size):=
  ⟨.inr rfl,fun _ _ h hg=>⟨hg.cell h.1 (by show G6 w.heap.size≠G6 q;simp;omega),AY h.2 hg.size⟩,fun W x h=>B30 x s w.heap.size W h.1 h.2⟩
 have CD:=AB5 K (ws.length+1) ws w1 ⟨c1,hz1⟩ ho hLl;have HB:=G8 (GX hb);rw[G7 HD]at CD;clear CC K ho hb c1 hq;go_wp2_with fail;refine CD.mono ?_;rintro r w2 ⟨rfl,ho2,hg2⟩;have HB2:=G8 ((G7 HB).grown hg2 (G7 HB).size (fun j hj=>by cases hj;omega));clear CD hg2;go_wp2_with fail;go_ret;exact⟨q,rfl,by omega,ho2,G7 HB2⟩
def eqW(x y:Wa):Bool:=x.s==y.s&&x.k==y.k&&x.p==y.p
theorem A39{y:Wa}:eqW x y=true↔x=y:=by
 obtain⟨a,b,c⟩:=x;obtain⟨d,e,f⟩:=y;simp[eqW,and_assoc]
def xJ(ws:List Wa)(x:Wa):Bool:=ws.any (fun y=>eqW x y)
theorem BP2:xJ ws x=true↔x∈ws:=by
 simp only[xJ,List.any_eq_true];exact⟨fun⟨y,hy,h⟩=>by rw[A39.1 h];exact hy,fun h=>⟨x,h,A39.2 rfl⟩⟩
def tN(x:Wa):Int:=if x.k≠1/\x.k≠2 then 4 else if J6 x.p=false then 2 else if x.s<1\/2147483647<x.s then 3 else 0
def bW(ws:List Wa)(x:Wa):Int:=if tN x≠0 then tN x else if xJ ws x=true then 0 else if 400<=ws.length then 6 else 0
def oU(ws:List Wa)(x:Wa):List Wa:=if bW ws x≠0 then []else if xJ ws x=true then ws else ws++[x]
theorem C78(x y:Wa)(w:FW):(binOp .eql 83 (waV x) (waV y)).run prog w=.ok (.bool (eqW x y)) w:=by
 have u3:=underlying3;have a3:=isAgg3;have z3:=sizeOf3;have u9:=underlying9;have a9:=isAgg9;have z9:=sizeOf9;have hS:prog.underlying 83=G6 (.struct (prog.fieldsOf 83)):=by kernel_rfl
 have hp:prog.stoodInHeld 83=false:=by kernel_rfl
 simp only[waV];rw[run_eql_struct,show (10000:Nat)=9999+1 from rfl,run_equalIn_agg w 9999 83 _ _ hS hp];simp only[Program.fieldsOf,underlying83];go_simp;unfold eqW;by_cases h1:x.s=y.s<;>by_cases h2:x.k=y.k<;>by_cases h3:x.p=y.p<;>simp[h1,h2,h3]
theorem CL8(h:Below (w.heap.size+1) (w.alloc (FV #[I0 x.s,I0 x.k,S0 x.p] 83)) W):W.cell? ⟨w.heap.size,0,G5⟩=G6 (I0 x.s)/\W.cell? ⟨w.heap.size,1,G5⟩=G6 (I0 x.k)/\W.cell? ⟨w.heap.size,2,G5⟩=G6 (S0 x.p):=by
 have hb:W.heap[w.heap.size]?=G6 (FV #[I0 x.s,I0 x.k,S0 x.p] 83 (0,0)):=(h.block _ (by omega)).trans (heap_alloc_new w _);refine⟨?_,?_,?_⟩<;>simp[World.cell?,hb]
theorem C79(v:FX)(ws:List Wa)(x:Wa)(w:FW)(hv:IL w v ws)(hl:ws.length<=140737488355328):
  FZ prog 127 #[v,waV x] w fun e w'=>(∃i:Int,e=.returned (I0 i)/\decide (0<=i)=xJ ws x)/\B0 w w':=by
 have KR:∀W,B0 w W->∀ (k:Nat) (y:Wa),ws[k]?=G6 y->∃b off cap,v=FU (G6 ⟨b,off,G5⟩) ws.length cap/\b<w.heap.size/\IC W b off (GI ws):=fun W hW k y hx=>by
  obtain⟨b,off,cap,e,hb,hr,_,_⟩:=MV hv (fun h0=>by obtain⟨h1,_⟩:=AV.1 hx;rw[h0]at h1;simp at h1);exact⟨b,off,cap,e,hb,hr.kept hW hb⟩
 have HKR:=G8 KR;have B0:B0 w (w.alloc (FV #[I0 x.s,I0 x.k,S0 x.p] 83)):=G9 _ _;have HB0:=G8 B0;obtain⟨va,vc,rfl⟩:=GK hv;have HQ:=G8 (fun y W=>C78 x y W);have HBX:=G8 (fun W (h:Below (w.heap.size+1) (w.alloc (FV #[I0 x.s,I0 x.k,S0 x.p] 83)) W)=>CL8 h);clear hv KR B0;unfold waV at HQ;unfold waV;go_enter func127,ntmps127;go_wp2_with fail
 go_loopg [8] ws.length (fun kx s8 wr=>∃k:Nat,s8=I0 k/\k<=ws.length/\ws.length-k<=kx/\Hid (xJ (ws.take k) x=false)/\Hid (Below (w.heap.size+1) (w.alloc (FV #[I0 x.s,I0 x.k,S0 x.p] 83)) wr))
 case atStart=>exact⟨0,rfl,AZ _,A8 _,G8 (by simp[xJ]),G8 (AA _ _)⟩
 case round=>
  obtain⟨k,rfl,hk,hg,hh,hB⟩:=hrel;have HBw:Hid (B0 w wr):=G8 ((G7 HB0).trans ((G7 hB).mono (Nat.le_succ _)));obtain⟨c0,c1,c2⟩:=G7 HBX wr (G7 hB);by_cases hlt:k<ws.length
  .obtain⟨y,hy⟩:∃y,ws[k]?=G6 y:=⟨_,AO hlt⟩;obtain⟨b,off,cap,he,hb,q⟩:=G7 HKR wr (G7 HBw) k y hy;simp only[AQ]at he;obtain⟨rfl,_,rfl⟩:=he;have d0:=q.w0 hy;have d1:=q.w1 hy;have d2:=q.w2 hy;have hkk:(k:Int)<(ws.length:Int):=by omega
   have qe:=G7 HQ y;have hms:xJ (ws.take (k+1)) x=eqW x y:=by
    rw[PD hy,xJ,List.any_append];have:=G7 hh;rw[xJ]at this;rw[this];simp
   have HY:Hid (y∈ws):=G8 (BA hy);clear q hy
   cases hxy:eqW x y
   .rw[hxy]at qe hms;have HMS:=G8 hms;clear hms hxy;go_wp2_with fail
    go_quiet (fail)
    go_wp2_with fail
    go_roundg (ws.length-(k+1))
    case measure=>omega
    case rel=>exact⟨k+1,rfl,by omega,A8 _,HMS,G8 ((G7 hB).trans ⟨rfl,rfl,rfl,A8 _,fun _ _=>rfl⟩)⟩
   .rw[hxy]at qe;have HH:Hid (xJ ws x=true):=G8 (by
     rw[BP2,A39.1 hxy];exact G7 HY)
    clear hms hxy;go_wp2_with fail
    go_quiet (fail)
    go_wp2_with fail;go_ret;exact⟨⟨k,rfl,by rw[G7 HH];simp⟩,(G7 HBw).trans ⟨rfl,rfl,rfl,A8 _,fun _ _=>rfl⟩⟩
  .obtain rfl:k=ws.length:=by omega
   rw[DW]at hh;go_wp2_with fail;go_ret;exact⟨⟨-1,rfl,by rw[G7 hh];rfl⟩,G7 HBw⟩
theorem BP3(v:FX)(ws:List Wa)(x:Wa)(w:FW)(hv:IL w v ws)(hl:ws.length<=140737488355328):
  FZ prog 84 #[v,waV x] w (R0 w (.bool (xJ ws x))):=by
 have C:=C79 v ws x (w.alloc (FV #[I0 x.s,I0 x.k,S0 x.p] 83)) (hv.alloc _) hl;obtain⟨va,vc,rfl⟩:=GK hv;generalize xJ ws x=r at C⊢;clear hv;unfold waV at C;unfold waV;go_enter func84,ntmps84;go_wp2_with fail;refine C.mono ?_;rintro e w1 ⟨⟨i,rfl,hi⟩,hb1⟩;have HB:=G8 (GX hb1);have HI:=G8 hi;clear C hb1 hi;go_wp2_with fail;go_ret;exact⟨SX (G7 HI),G7 HB⟩
theorem BP4(x:Wa)(w:FW):
  FZ prog 83 #[waV x] w (R0 w (I0 (tN x))):=by
 obtain⟨s,k,p⟩:=x;have C:=fun W=>LX ⟨p.toArray⟩ W;have HE:=G8 (show ∀r:Int,r=(if k≠1/\k≠2 then 4 else if J6 p=false then 2 else if s<1\/2147483647<s then 3 else 0)->r=tN ⟨s,k,p⟩from fun r h=>h);unfold waV;simp only;obtain⟨r,hr⟩:∃r,tN ⟨s,k,p⟩=r:=⟨_,rfl⟩;have HR:=G8 hr;rw[hr];clear hr;rw[G7 HR]at HE;by_cases hk:k≠1/\k≠2
 .have h1:(k !=1)=true:=by simpa using hk.1
  have h2:(k !=2)=true:=by simpa using hk.2
  have h12:(k !=1&&k !=2)=true:=by rw[h1,h2];rfl
  have h3:r=4:=(G7 HE 4 (by rw[if_pos hk])).symm;subst h3;clear hk;go_enter func83,ntmps83;go_wp2_with fail;go_ret;exact⟨rfl,G9 _ _⟩
 .have hkk:k=1\/k=2:=by
   by_cases h:k=1
   .exact .inl h
   .by_cases h':k=2
    .exact .inr h'
    .exact absurd ⟨h,h'⟩ hk
  have HE2:=G8 (fun r' (h:r'=(if J6 p=false then 2 else if s<1\/2147483647<s then 3 else 0))=>G7 HE r' (by rw[if_neg hk];exact h));clear HE hk
  cases hg:J6 p
  .have h3:r=2:=(G7 HE2 2 (by rw[hg];rfl)).symm;subst h3;have Hg:=G8 hg;clear hg;rcases hkk with rfl|rfl
   all_goals
    go_enter func83,ntmps83;go_wp2_with fail;refine(C _).mono ?_;rintro e w1 ⟨rfl,hb1⟩;have HB:=G8 (GX hb1);rw[G7 Hg];clear hb1;go_wp2_with fail;go_ret;exact⟨rfl,G7 HB⟩
  .have h3:=G7 HE2;rw[hg]at h3;simp only[Bool.true_eq_false,if_false]at h3;have Hg:=G8 hg;clear hg HE2;by_cases hs1:s<1
   .have h4:r=3:=(h3 3 (by rw[if_pos (.inl hs1)])).symm;subst h4;clear h3;rcases hkk with rfl|rfl
    all_goals
     go_enter func83,ntmps83;go_wp2_with fail;refine(C _).mono ?_;rintro e w1 ⟨rfl,hb1⟩;have HB:=G8 (GX hb1);have c0:w1.cell? ⟨w.heap.size,0,G5⟩=G6 (I0 s):=by rw[hb1.cell (p:=⟨w.heap.size,0,G5⟩) (by simp)];simp
     rw[G7 Hg];clear hb1;go_wp2_with fail;go_ret;exact⟨rfl,G7 HB⟩
   .by_cases hs2:2147483647<s
    .have h4:r=3:=(h3 3 (by rw[if_pos (.inr hs2)])).symm;subst h4;clear h3;rcases hkk with rfl|rfl
     all_goals
      go_enter func83,ntmps83;go_wp2_with fail;refine(C _).mono ?_;rintro e w1 ⟨rfl,hb1⟩;have HB:=G8 (GX hb1);have c0:w1.cell? ⟨w.heap.size,0,G5⟩=G6 (I0 s):=by rw[hb1.cell (p:=⟨w.heap.size,0,G5⟩) (by simp)];simp
      rw[G7 Hg];clear hb1;go_wp2_with fail;go_ret;exact⟨rfl,G7 HB⟩
    .have h4:r=0:=(h3 0 (by rw[if_neg (by omega)])).symm;subst h4;clear h3;rcases hkk with rfl|rfl
     all_goals
      go_enter func83,ntmps83;go_wp2_with fail;refine(C _).mono ?_;rintro e w1 ⟨rfl,hb1⟩;have HB:=G8 (GX hb1);have c0:w1.cell? ⟨w.heap.size,0,G5⟩=G6 (I0 s):=by rw[hb1.cell (p:=⟨w.heap.size,0,G5⟩) (by simp)];simp
      rw[G7 Hg];clear hb1;go_wp2_with fail;go_ret;exact⟨rfl,G7 HB⟩
