/-
  Part.
-/
import Derived.Test.YtnlikdglijgjpaaGreatDoorLOC
import Derived.Deep.RegionHeld3
import Derived.Lib.AppendZerosOnto
import Derived.Laws.AppendOwnNone
set_option maxRecDepth 20000
set_option maxHeartbeats 8000000
namespace Go.Proofs.YtnlikdglijgjpaaGreatDoor
open Go.RowKit Go.Proofs.Tryz
open _root_.Nat renaming le_refl->A8,lt_of_lt_of_le->AX,zero_le->AY,zero_add->BI,add_assoc->EJ
open Go.RowKit.Below renaming refl->AA
open _root_.Array renaming getElem?_eq_some_iff->AB
open _root_.List renaming getElem?_eq_getElem->AL,length_append->AO,getElem?_eq_some_iff->AU,mem_of_getElem?->AZ,take_of_length_le->BM,mem_cons->BP,append_assoc->BR,append_nil->DN,take_length->DV,filter_append->EZ
open Go.Value.slice renaming injEq->AP
open Go.Value renaming ownBlock->DC,slice->FT
open Go.Sem renaming run_bind->DY,run_pure->EN
open Go.Result renaming andThen_ok->EC
open Go.Region renaming wanted->FK
open _root_.Option renaming map_eq_some_iff->FM,none->FZ,some->G5
open Go.Obj renaming cells->FU
open Go renaming World->FV,Value->FW,Calls->FX
variable{w W:FV}{b off i g cap B q:Nat}{xs ws:List Wa}{x:Wa}{α:Type}{pr:Wa->Bool}
def A86(w:Wa):List FW:=[I0 w.s,I0 w.k,S0 w.p]
def zH(n:Nt):List FW:=[I0 n.s,I0 n.k,S0 n.p]
def waV(w:Wa):FW:=.agg #[I0 w.s,I0 w.k,S0 w.p]
instance layW:Lay Wa:=⟨3,A86,71,fun _=>rfl,fun x u hu=>by simp[A86]at hu;rcases hu with rfl|rfl|rfl<;>rfl⟩
instance layT:Lay Nt:=⟨3,zH,48,fun _=>rfl,fun x u hu=>by simp[zH]at hu;rcases hu with rfl|rfl|rfl<;>rfl⟩
theorem IC.w0(h:IC w b off (GH xs))(hi:xs[i]?=G5 x):w.cell? ⟨b,off+i*3,FZ⟩=G5 (I0 x.s):=
 h (i*3) _ (GV xs i x hi 0 (by decide))
theorem IC.w1(h:IC w b off (GH xs))(hi:xs[i]?=G5 x):w.cell? ⟨b,off+i*3+1,FZ⟩=G5 (I0 x.k):=by
 rw[EJ];exact h (i*3+1) _ (GV xs i x hi 1 (by decide))
theorem IC.w2(h:IC w b off (GH xs))(hi:xs[i]?=G5 x):w.cell? ⟨b,off+i*3+2,FZ⟩=G5 (S0 x.p):=by
 rw[EJ];exact h (i*3+2) _ (GV xs i x hi 2 (by decide))
theorem IC.t0{xs:List Nt}(h:IC w b off (GH xs)){x:Nt}(hi:xs[i]?=G5 x):w.cell? ⟨b,off+i*3,FZ⟩=G5 (I0 x.s):=
 h (i*3) _ (GV xs i x hi 0 (by decide))
theorem IC.t1{xs:List Nt}(h:IC w b off (GH xs)){x:Nt}(hi:xs[i]?=G5 x):w.cell? ⟨b,off+i*3+1,FZ⟩=G5 (I0 x.k):=by
 rw[EJ];exact h (i*3+1) _ (GV xs i x hi 1 (by decide))
theorem IC.t2{xs:List Nt}(h:IC w b off (GH xs)){x:Nt}(hi:xs[i]?=G5 x):w.cell? ⟨b,off+i*3+2,FZ⟩=G5 (S0 x.p):=by
 rw[EJ];exact h (i*3+2) _ (GV xs i x hi 2 (by decide))
theorem CG8:(prog.info? 71).map (fun i=>(i.zero,i.size,i.bytes))=G5 (G5 (.agg #[I0 0,I0 0,.string ⟨#[]⟩]),3,32):=by kernel_rfl
theorem C14:∃i0,prog.info? 71=G5 i0/\i0.zero=G5 (.agg #[I0 0,I0 0,.string ⟨#[]⟩])/\i0.size=3/\i0.bytes=32:=by
 obtain⟨i0,h,e⟩:=FM.1 CG8;simp only[Prod.mk.injEq]at e;exact⟨i0,h,e⟩
theorem CG9:(prog.info? 48).map (fun i=>(i.zero,i.size,i.bytes))=G5 (G5 (.agg #[I0 0,I0 0,.string ⟨#[]⟩]),3,32):=by kernel_rfl
theorem AX6:∃i0,prog.info? 48=G5 i0/\i0.zero=G5 (.agg #[I0 0,I0 0,.string ⟨#[]⟩])/\i0.size=3/\i0.bytes=32:=by
 obtain⟨i0,h,e⟩:=FM.1 CG9;simp only[Prod.mk.injEq]at e;exact⟨i0,h,e⟩
def lN(ws:List Wa):Prop:=∀x∈ws,x.p.length<=140737488355328
def BV7(es:List Ev):Prop:=∀x∈es,x.p.length<=140737488355328
theorem B18[Lay α]{xs:List α}(h:J9 W g cap xs)(B:Nat)(hB:B<=g):W.ownsRow B (Lay.ty α) (Lay.k α) (FT (G5 ⟨g,0,FZ⟩) xs.length cap) xs.length (GH xs):=
 H7.row (.inr ⟨g,cap,rfl,hB,h⟩)
theorem B19[Lay α]{n:Nat}{xs:List α}(h:W.ownsRow B (Lay.ty α) (Lay.k α) (FT (G5 ⟨g,0,FZ⟩) n cap) n (GH xs))(hn:n=xs.length):J9 W g cap xs:=by
 subst hn;rcases H7.L9 h with⟨h1,_⟩|⟨g',cap',h1,_,h2⟩
 .simp at h1
 .simp only[AP,Option.some.injEq,Addr.mk.injEq,and_true,true_and]at h1;obtain⟨rfl,rfl⟩:=h1;exact h2
theorem P6{xs:List α}{k:Nat}{x:α}(h:xs[k]?=G5 x):xs.take (k+1)=xs.take k++[x]:=by rw[List.take_add_one,h];rfl
theorem AY5{w':FV}{r:Option Nat}(h:w.grownBy w' r)(B:Nat)(hB:B<=w.heap.size)(hr:∀k,r=G5 k->B<=k):Below B w w':=(AA _ _).grown h hB hr
theorem LK{w':FV}{r:Option Nat}(h:B0 w w'):w.grownBy w' r:=⟨h.os,h.tape,h.output,h.size,fun k hk _=>h.block k hk⟩
theorem J9.head[Lay α]{A B:List α}(h:J9 W g cap (A++B)):J9 W g cap A:=by
 obtain⟨rest,h1,h2,h4,h3⟩:=h;refine⟨GH B++rest,by rw[h1,H6,BR],?_,?_,h3⟩
 .rw[AO,GN B];rw[AO,Nat.add_mul]at h2;omega
 .rw[AO]at h4;omega
theorem nK(s:List UInt8)(w:FV)(hs:s.length<=281474976710656):
  FX prog 65 #[S0 s] w (R0 w (S0 s)):=by
 have C:=fun W=>stringslite_Clone ⟨s.toArray⟩ W (show (ByteArray.mk s.toArray).size<=_ from hs);go_enter func65,ntmps65;go_wp2_with fail;refine(C _).mono ?_;rintro e w1 ⟨rfl,hb1⟩;go_wp2_with fail;go_ret;exact⟨rfl,hb1⟩
theorem AA5(x:Wa)(w:FV)(hx:x.p.length<=140737488355328):
  FX prog 92 #[waV x] w (R0 w (waV x)):=by
 obtain⟨s,k,p⟩:=x;unfold waV;have C:=fun W=>nK p W (by simp only at hx;omega);go_enter func92,ntmps92;go_wp2_with fail;refine(C _).mono ?_;rintro e w1 ⟨rfl,hb1⟩;have hB:=GY (GY hb1);have c0:w1.cell? ⟨w.heap.size,0,FZ⟩=G5 (I0 s):=by rw[hb1.cell (p:=⟨w.heap.size,0,FZ⟩) (by simp;omega)];simp
 have c1:w1.cell? ⟨w.heap.size,1,FZ⟩=G5 (I0 k):=by rw[hb1.cell (p:=⟨w.heap.size,1,FZ⟩) (by simp;omega)];simp
 have c2:w1.cell? ⟨w.heap.size,2,FZ⟩=G5 (S0 p):=by rw[hb1.cell (p:=⟨w.heap.size,2,FZ⟩) (by simp;omega)];simp
 have f2:w1.frozen? ⟨w.heap.size,2,FZ⟩=false:=by rw[hb1.frozen (p:=⟨w.heap.size,2,FZ⟩) (by simp;omega)];simp
 have d0:w1.cell? ⟨w.heap.size+1,0,FZ⟩=G5 (I0 0):=by rw[hb1.cell (p:=⟨w.heap.size+1,0,FZ⟩) (by simp)];simp
 have d1:w1.cell? ⟨w.heap.size+1,1,FZ⟩=G5 (I0 0):=by rw[hb1.cell (p:=⟨w.heap.size+1,1,FZ⟩) (by simp)];simp
 have d2:w1.cell? ⟨w.heap.size+1,2,FZ⟩=G5 (.string ⟨#[]⟩):=by rw[hb1.cell (p:=⟨w.heap.size+1,2,FZ⟩) (by simp)];simp
 have g0:w1.frozen? ⟨w.heap.size+1,0,FZ⟩=false:=by rw[hb1.frozen (p:=⟨w.heap.size+1,0,FZ⟩) (by simp)];simp
 have g1:w1.frozen? ⟨w.heap.size+1,1,FZ⟩=false:=by rw[hb1.frozen (p:=⟨w.heap.size+1,1,FZ⟩) (by simp)];simp
 have g2:w1.frozen? ⟨w.heap.size+1,2,FZ⟩=false:=by rw[hb1.frozen (p:=⟨w.heap.size+1,2,FZ⟩) (by simp)];simp
 have s2:w1.setCell ⟨w.heap.size,2,FZ⟩ (S0 p)=w1:=I8 c2;clear hb1 C;go_wp2_with fail;refine bodyPost_ret (v:=.agg #[I0 s,I0 k,S0 p]) (by simp[results,results92,go_sem,d0,d1,d2]) rfl ⟨rfl,?_⟩;exact((hB.setCell (by simp) _).setCell (by simp) _).setCell (by simp) _
theorem AA6(w:FV)(x:Wa):JM (w.alloc (FU #[I0 x.s,I0 x.k,S0 x.p] 71)) w.heap.size x:=heap_alloc_new w _
theorem YZ(v:FW)(ws:List Wa)(w:FV)(hv:IE w v ws)(hs:lN ws)(hl:ws.length*32<=140737488351232):
  FX prog 91 #[v] w fun e w'=>∃g,e=.returned (FT (G5 ⟨g,0,FZ⟩) ws.length (ws.length+1))/\w.heap.size<=g/\J9 w' g (ws.length+1) ws/\B0 w w':=by
 have KR:∀W,B0 w W->∀k x,ws[k]?=G5 x->∃b off cap,v=FT (G5 ⟨b,off,FZ⟩) ws.length cap/\b<w.heap.size/\IC W b off (GH ws):=fun W hW k x hx=>by
  obtain⟨b,off,cap,e,hb,hr,_,_⟩:=N8 hv (fun h0=>by obtain⟨h1,_⟩:=AU.1 hx;rw[h0]at h1;simp at h1);exact⟨b,off,cap,e,hb,hr.kept hW hb⟩
 have HKR:=G7 KR;have HS:=G7 hs;obtain⟨va,vc,rfl⟩:=GL hv;obtain⟨i0,hi0,hz0,hz1,hz2⟩:=C14;clear hv hs KR;go_enter func91,ntmps91;go_wp2_with (at_make;refine wpList_make_own _ rfl _ _ 59 rfl w.heap.size 71 i0 _ 3 underlying59 hi0 hz0 hz1 .i64 .i64 _ (ws.length+1) rfl rfl (by omega) ?m1 ?m2 (A8 _) ?_)
 case m1=>rw[hz2];omega
 case m2=>simp only[maxLen];omega
 intro w0 ho0 hg0;have HO:Hid (J9 w0 w.heap.size (ws.length+1) (ws.take 0)):=G7 (B19 (α:=Wa) (xs:=ws.take 0) ho0 rfl);have HB:Hid (B0 w w0):=G7 (AY5 hg0 _ (A8 _) (by simp));clear ho0 hg0;go_wp2_with fail
 go_loopg [3,12] ws.length (fun kx s3 s12 wr=>∃k:Nat,s12=I0 k/\s3=FT (G5 ⟨w.heap.size,0,FZ⟩) k (ws.length+1)/\k<=ws.length/\ws.length-k<=kx/\Hid (J9 wr w.heap.size (ws.length+1) (ws.take k))/\Hid (B0 w wr))
 case atStart=>exact⟨0,rfl,rfl,AY _,A8 _,HO,HB⟩
 case round=>
  obtain⟨k,rfl,rfl,hk,hg,hO,hB⟩:=hrel;by_cases hlt:k<ws.length
  .obtain⟨x,hx⟩:∃x,ws[k]?=G5 x:=⟨_,AL hlt⟩;obtain⟨b,off,cap,he,hb,q⟩:=G6 HKR wr (G6 hB) k x hx;simp only[AP]at he;obtain⟨rfl,_,rfl⟩:=he;have d0:=q.w0 hx;have d1:=q.w1 hx;have d2:=q.w2 hx;have hbw:b<wr.heap.size:=AX hb (G6 hB).size;have hgl:=(G6 hO).lt;have CX:=fun W=>AA5 x W (G6 HS x (AZ hx));unfold waV at CX;have HT1:=G7 (P6 hx);have hlk:(ws.take k).length=k:=by simp;omega
   clear q hx;go_wp2_with fail;refine(CX _).mono ?_;rintro e w1 ⟨rfl,hb1⟩;have hb2:=GY hb1;have HO1:=G7 (((G6 hO).next hb2).next (G8 w1 (FU #[I0 x.s,I0 x.k,S0 x.p] 71)));have HB1:=G7 (G9 (G6 hB) (G9 hb2 (G8 w1 (FU #[I0 x.s,I0 x.k,S0 x.p] 71))));clear CX hb1 hb2;go_wp2_with (at_builtin;refine wpList_append_fits _ rfl _ _ 59 rfl w.heap.size 71 i0 3 underlying59 hi0 hz1 w.heap.size k (ws.length+1) (GH (ws.take k)) rfl ?a1 ⟨w1.heap.size,0,FZ⟩ 1 1 (A86 x) rfl rfl ?a2 (Lay.one x) (by omega) ?_)
   case a1=>
    have:=B18 (G6 HO1) w.heap.size (A8 _);rw[hlk]at this;exact this
   case a2=>exact Q8 (AA6 w1 x)
   intro w2 ho2 hg2;have HO2:Hid (J9 w2 w.heap.size (ws.length+1) (ws.take (k+1))):=G7 (by
    rw[G6 HT1];refine B19 (α:=Wa) (B:=w.heap.size) (n:=k+1) ?_ (by simp;omega);rw[J8];exact ho2)
   have HB2:Hid (B0 w w2):=G7 ((G6 HB1).grown hg2 (G6 HB1).size (by intro k hk;cases hk;exact A8 _));clear ho2 hg2;go_wp2_with fail
   go_roundg (ws.length-(k+1))
   case measure=>omega
   case rel=>exact⟨k+1,rfl,rfl,by omega,A8 _,HO2,HB2⟩
  .obtain rfl:k=ws.length:=by omega
   rw[DV]at hO;go_wp2_with fail;go_ret;exact⟨_,rfl,A8 _,G6 hO,G6 hB⟩
theorem SH{a b:Bool}(h:a=b):Ending.returned (.bool a)=.returned (.bool b):=by rw[h]
theorem AL5(x:Wa)(e:Ev)(w:FV):
  FX prog 171 #[waV x,evV e] w fun r w'=>r=.returned (.bool (yF x e))/\B0 w w':=by
 obtain⟨s,k,p⟩:=x;obtain⟨ek,ep⟩:=e;have HB:=G7 (G9 (G8 w (FU #[I0 s,I0 k,S0 p] 71)) (G8 _ (FU #[I0 ek,S0 ep] 46)));have HO:=G7 (show ∀r:Bool,r=(decide (p=ep)&&(if k=2 then decide (ek=4)||decide (ek=2)else decide (ek=1)||decide (ek=2)||decide (ek=3)))->r=yF ⟨s,k,p⟩ ⟨ek,ep⟩from fun r h=>h);unfold waV evV;simp only;by_cases hp:p=ep
 .have hpb:(p==ep)=true:=by simpa using hp
  have HP:=G7 hp;clear hp;by_cases hk:k=2
  .subst hk;by_cases h4:ek=4
   .subst h4;go_enter func171,ntmps171;go_wp2_with fail;go_ret;exact⟨SH (G6 HO _ (by simp[G6 HP])),G6 HB⟩
   .go_enter func171,ntmps171;go_wp2_with fail;go_ret;exact⟨SH (G6 HO _ (by by_cases h:ek=2<;>simp[G6 HP,h,h4])),G6 HB⟩
  .by_cases h1:ek=1
   .subst h1;go_enter func171,ntmps171;go_wp2_with fail;go_ret;exact⟨SH (G6 HO _ (by simp[G6 HP,hk])),G6 HB⟩
   .by_cases h2:ek=2
    .subst h2;go_enter func171,ntmps171;go_wp2_with fail;go_ret;exact⟨SH (G6 HO _ (by simp[G6 HP,hk])),G6 HB⟩
    .go_enter func171,ntmps171;go_wp2_with fail;go_ret;exact⟨SH (G6 HO _ (by by_cases h:ek=3<;>simp[G6 HP,hk,h,h1,h2])),G6 HB⟩
 .have hpb:(p==ep)=false:=by simpa using hp
  go_enter func171,ntmps171;go_wp2_with fail;go_ret;exact⟨SH (G6 HO _ (by simp[hp])),G6 HB⟩
theorem vS(x:Wa)(e:Ev)(B:Nat)(w:FV)(h:JM w B e):
  FX prog 170 #[waV x,P0 B] w fun r w'=>r=.returned (.bool (yF x e))/\B0 w w':=by
 have C:=fun W=>AL5 x e W;have hB:B<w.heap.size:=(AB.1 h).1;have c0:w.cell? ⟨B,0,FZ⟩=G5 (I0 e.k):=by simpa using h.row 0 _ rfl
 have c1:w.cell? ⟨B,1,FZ⟩=G5 (S0 e.p):=by simpa using h.row 1 _ rfl
 clear h;unfold waV evV at C;unfold waV;generalize yF x e=r at C⊢;have hne:B≠w.heap.size:=by omega
 go_enter func170,ntmps170;go_wp2_with fail;refine(C _).mono ?_;rintro e w1 ⟨rfl,hb1⟩;have hB1:=GY hb1;clear C hb1;go_wp2_with fail;go_ret;exact⟨rfl,hB1⟩
theorem B20(x:Wa)(s:Int)(B:Nat)(w:FV)(h:w.cell? ⟨B,0,FZ⟩=G5 (I0 s))(hB:B<w.heap.size):
  FX prog 174 #[waV x,P0 B] w fun r w'=>r=.returned (.bool (decide (x.s=s)))/\B0 w w':=by
 obtain⟨xs,xk,xp⟩:=x;unfold waV;have hne:B≠w.heap.size:=by omega
 go_enter func174,ntmps174;go_wp2_with fail;go_ret;exact⟨rfl,G8 _ _⟩
def YG(m:Nat):List FW:=(Builtin.zeroCells (Value.agg #[I0 0,I0 0,.string ⟨#[]⟩]).cells m).toList
theorem UW(m:Nat):(YG m).length=m*3:=by
 rw[YG,Array.length_toList,size_zeroCells];rfl
theorem AL6(m:Nat):∀u∈YG m,u.oneCell'=true:=by
 intro u hu;simp only[YG,Builtin.zeroCells,Value.cells,Array.toList_map,List.mem_map]at hu;obtain⟨i,_,rfl⟩:=hu;have:i%3<3:=Nat.mod_lt _ (by decide);show (#[I0 0,I0 0,.string ⟨#[]⟩][i%3]!).oneCell'=true;rcases(show i%3=0\/i%3=1\/i%3=2 by omega)with e|e|e<;>rw[e]<;>rfl
theorem AL7(w:FV)(ty:TypeId)(b o m c:Nat)(hm:0<m)(hc:∀j,j<m*3->(w.cell? ⟨b,o+j,FZ⟩).isSome=true)(hf:∀j,j<m*3->w.frozen? ⟨b,o+j,FZ⟩=false):
  (Builtin.clear_ #[59] ty #[FT (G5 ⟨b,o,FZ⟩) m c]).run prog w=.ok (.tuple #[]) (w.setCells b o (YG m)):=by
 have hst:=run_storeCells_cells (P:=prog) b o (YG m) 0 w (by rw[UW];simpa using hc) (by rw[UW];simpa using hf) (AL6 m);simp only[Nat.add_zero]at hst;obtain⟨k,rfl⟩:∃k,m=k+1:=⟨m-1,by omega⟩;simp[Builtin.clear_,run_underlying underlying59];exact(by
  have:=hst;unfold YG at this⊢;rw[this];rfl)
structure CI8(g:FuncId)(B:Nat)(q:Nat)(pr:Wa->Bool)(I:FV->Prop):Prop where
 two:g=170\/g=174
 keep:∀W V,I W->W.grownBy V (G5 q)->I V
 gives:∀W x,I W->FX prog g #[.agg #[I0 x.s,I0 x.k,S0 x.p],P0 B] W fun r w'=>r=.returned (.bool (pr x))/\B0 W w'
theorem C40{g:FuncId}{B q:Nat}{pr:Wa->Bool}{I:FV->Prop}(C:CI8 g B q pr I)(b off cap:Nat)(A:List Wa)(x:Wa)(R:List Wa)(w:FV)(hi:I w)(hb:b<w.heap.size)(hr:IC w b off (GH (A++x::R)))(hl:(A++x::R).length<=140737488355328)
  (hA:∀a∈A,pr a=false) (hx:pr x=true):
  FX prog 204 #[FT (G5 ⟨b,off,FZ⟩) (A++x::R).length cap,.func (.func g) #[] #[P0 B]] w (R0 w (I0 A.length)):=by
 have HR:=G7 (fun W (hW:B0 w W)=>hr.kept hW hb);have HC:=G7 C;have HI:=G7 (fun W (hW:B0 w W)=>C.keep w W hi (LK hW));have HX:=G7 hx;have HA:=G7 hA;have hAn:A.length<(A++x::R).length:=by simp
 obtain⟨n,hn⟩:∃n,(A++x::R).length=n:=⟨_,rfl⟩;rw[hn]at hl hAn⊢;have HN:=G7 hn;have two:=C.two;clear hr C hi hx hA hn;rcases two with rfl|rfl
 all_goals
  go_enter func204,ntmps204;go_wp2_with fail
  go_loopg [8] n (fun kx s8 wr=>∃k:Nat,s8=I0 k/\k<=A.length/\n-k<=kx/\Hid (B0 w wr))
  case atStart=>exact⟨0,rfl,AY _,A8 _,G7 (AA _ _)⟩
  case round=>
   obtain⟨k,rfl,hk,hg,hB⟩:=hrel;have hlt:k<n:=by omega
   obtain⟨y,hy⟩:∃y,(A++x::R)[k]?=G5 y:=⟨_,AL (by rw[G6 HN];exact hlt)⟩;have qr:=G6 HR wr (G6 hB);have d0:=qr.w0 hy;have d1:=qr.w1 hy;have d2:=qr.w2 hy;have hbw:b<wr.heap.size:=AX hb (G6 hB).size;have CX:=(G6 HC).gives wr y (G6 HI wr (G6 hB));by_cases hka:k<A.length
   .have hp:pr y=false:=G6 HA y (by
     rw[List.getElem?_append_left hka]at hy;exact AZ hy)
    rw[hp]at CX;clear qr hy hp;go_wp2_with fail;refine CX.mono ?_;rintro e w1 ⟨rfl,hb1⟩;have hB1:=G9 (G6 hB) hb1;clear CX hb1;go_wp2_with fail
    go_roundg (n-(k+1))
    case measure=>omega
    case rel=>exact⟨k+1,rfl,by omega,A8 _,G7 hB1⟩
   .obtain rfl:k=A.length:=by omega
    have hp:pr y=true:=by
     have:(A++x::R)[A.length]?=G5 x:=by simp
     rw[this]at hy
     cases hy
     exact G6 HX
    rw[hp]at CX;clear qr hy hp;go_wp2_with fail;refine CX.mono ?_;rintro e w1 ⟨rfl,hb1⟩;have hB1:=G9 (G6 hB) hb1;clear CX hb1;go_wp2_with fail;go_ret;exact⟨rfl,hB1⟩
theorem B21{g:FuncId}{I:FV->Prop}(C:CI8 g B q pr I)(v:FW)(A:List Wa)(w:FV)(hi:I w)(hv:IE w v A)(hl:A.length<=140737488355328)(hA:∀a∈A,pr a=false):
  FX prog 204 #[v,.func (.func g) #[] #[P0 B]] w (R0 w (I0 (-1))):=by
 have KR:∀W,B0 w W->∀k x,A[k]?=G5 x->∃b off cap,v=FT (G5 ⟨b,off,FZ⟩) A.length cap/\b<w.heap.size/\IC W b off (GH A):=fun W hW k x hx=>by
  obtain⟨b,off,cap,e,hb,hr,_,_⟩:=N8 hv (fun h0=>by obtain⟨h1,_⟩:=AU.1 hx;rw[h0]at h1;simp at h1);exact⟨b,off,cap,e,hb,hr.kept hW hb⟩
 have HKR:=G7 KR;have HC:=G7 C;have HI:=G7 (fun W (hW:B0 w W)=>C.keep w W hi (LK hW));have HA:=G7 hA;have two:=C.two;obtain⟨va,vc,rfl⟩:=GL hv;clear C hi hA KR hv;rcases two with rfl|rfl
 all_goals
  go_enter func204,ntmps204;go_wp2_with fail
  go_loopg [8] A.length (fun kx s8 wr=>∃k:Nat,s8=I0 k/\k<=A.length/\A.length-k<=kx/\Hid (B0 w wr))
  case atStart=>exact⟨0,rfl,AY _,A8 _,G7 (AA _ _)⟩
  case round=>
   obtain⟨k,rfl,hk,hg,hB⟩:=hrel;by_cases hlt:k<A.length
   .obtain⟨y,hy⟩:∃y,A[k]?=G5 y:=⟨_,AL hlt⟩;obtain⟨b,off,cap,he,hb,qr⟩:=G6 HKR wr (G6 hB) k y hy;simp only[AP]at he;obtain⟨rfl,_,rfl⟩:=he;have d0:=qr.w0 hy;have d1:=qr.w1 hy;have d2:=qr.w2 hy;have hbw:b<wr.heap.size:=AX hb (G6 hB).size;have CX:=(G6 HC).gives wr y (G6 HI wr (G6 hB));have hp:pr y=false:=G6 HA y (AZ hy);rw[hp]at CX;clear qr hy hp;go_wp2_with fail;refine CX.mono ?_;rintro e w1 ⟨rfl,hb1⟩;have hB1:=G9 (G6 hB) hb1;clear CX hb1;go_wp2_with fail
    go_roundg (A.length-(k+1))
    case measure=>omega
    case rel=>exact⟨k+1,rfl,by omega,A8 _,G7 hB1⟩
   .obtain rfl:k=A.length:=by omega
    go_wp2_with fail;go_ret;exact⟨rfl,G6 hB⟩
theorem jR[Lay α]{C:Nat}{v:FW}{xs:List α}(h:H7 W C v xs)(hB:∀k,v.ownBlock=G5 k->B<=k):H7 W B v xs:=by
 rcases h with h|⟨g,cap,rfl,_,h⟩
 .exact .inl h
 .exact .inr ⟨g,cap,rfl,hB g rfl,h⟩
theorem dF[Lay α]{v:FW}{xs:List α}(h:H7 W B v xs):∀k,v.ownBlock=G5 k->B<=k:=by
 rcases h with⟨rfl,_⟩|⟨g,cap,rfl,h1,h⟩
 .intro k hk;cases hk
 .intro k hk;simp only[DC,Option.some.injEq]at hk;omega
theorem BL4(w:FV)(n:Nt):JM (w.alloc (FU #[I0 n.s,I0 n.k,S0 n.p] 48)) w.heap.size n:=heap_alloc_new w _
theorem A11{w:FV}{ops:Array Oper}{o:Oper}{a:Act}{K:Act->FV->Prop}{Q:Exit->Act->FV->Prop}{E:Prop}(hgd:FK o (yielded ops a.tmps)=true)(s x:Operand)
  (ho:o.op=.call {callee:=.builtin .append,args:=#[s,x],argTypes:=#[32,32]})
  (v:FW) (ns:List Nt) (hs:a.eval s=v) (hown:H7 w 0 v ns)
  (q:Nat) (hx:a.eval x=FT (G5 ⟨q,0,FZ⟩) 1 1) (t:Nt) (hnews:JM w q t) (hl:(ns.length+1)*32<=140737488355328)
  (h:∀a' c' w',H7 w' 0 (FT a' (ns.length+1) c') (ns++[t])->w.grownBy w' v.ownBlock->((Value.slice a' (ns.length+1) c').ownBlock=v.ownBlock\/(Value.slice a' (ns.length+1) c').ownBlock=G5 w.heap.size)->K (a.put o.dst (FT a' (ns.length+1) c')) w'):
  if FK o (yielded ops a.tmps)=true then Oper.wp prog o a w K Q else E:=by
 rw[if_pos hgd];obtain⟨i0,hi0,hz0,hz1,hz2⟩:=AX6;obtain⟨v',w',hr,h2,h3,_,h5⟩:=run_append_own_at (P:=prog) w 0 32 o.type 48 i0 _ 3 32 underlying32 hi0 hz0 hz1 hz2 rfl (by decide) v ns.length (GH ns) hown.row ⟨q,0,FZ⟩ 1 1 (zH t) rfl (Q8 hnews) (Lay.one t) (by simp only[maxLen];omega) hl (AY _);have h2':H7 w' 0 v' (ns++[t]):=H7.L9 (by rw[AO,J8];exact h2);obtain⟨a',c',rfl,_⟩:=h2'.slice;have hlen:(ns++[t]).length=ns.length+1:=by simp
 rw[hlen]at h2' hr h5;unfold Oper.wp execOp;simp only[ho,resolve,invoke,builtin,DY,EN,EC,List.map_toArray,List.map_cons,List.map_nil,hs,hx,hr];exact h a' c' w' h2' h3 h5
theorem B22{k:Nat}{e:Ev}(h:ws[k]?=G5 x):TL (ws.take (k+1)) e=TL (ws.take k) e++(if yF x e=true then [AW7 e x]else []):=by
 rw[P6 h];simp only[TL,EZ,List.map_append]
 cases hx:yF x e<;>simp[hx]
theorem C41(ws:List Wa)(e:Ev)(k:Nat):(TL (ws.take k) e).length<=k:=by
 have:=pO (ws.take k) e;have h2:(ws.take k).length<=k:=by simp;omega
 omega
theorem BL5(q cap B:Nat)(ws:List Wa)(e:Ev)(w:FV)(hq:q<w.heap.size)(hr:IC w q 0 (GH ws))(hE:JM w B e)(hl:ws.length*32<=140737488351232)(hp:e.p.length<=140737488355328):
  FX prog 172 #[FT (G5 ⟨q,0,FZ⟩) ws.length cap,evV e,.func (.func 170) #[] #[P0 B]] w fun r w'=>
   ∃v',r=.returned v'/\H7 w' w.heap.size v' (TL ws e)/\B0 w w':=by
 obtain⟨w0,hw0⟩:∃w0,w.alloc (FU #[I0 e.k,S0 e.p] 46)=w0:=⟨_,rfl⟩;have hz0:w0.heap.size=w.heap.size+1:=by rw[<-hw0];simp
 have hb0:B0 w w0:=by rw[<-hw0];exact G8 _ _
 have X0:JM w0 w.heap.size e:=by rw[<-hw0];exact zF w e.k e.p
 have HR:=G7 (fun W (hW:B0 w0 W)=>(hr.kept hb0 hq).kept hW (by omega));have HX:=G7 (fun W (hW:B0 w0 W)=>(⟨by simpa using (JM.row ((hW.block _ (by omega)).trans X0) 0 _ rfl),by simpa using (JM.row ((hW.block _ (by omega)).trans X0) 1 _ rfl)⟩:W.cell? ⟨w.heap.size,0,FZ⟩=G5 (I0 e.k)/\W.cell? ⟨w.heap.size,1,FZ⟩=G5 (S0 e.p)));have CF:=G7 (fun W (hW:B0 w0 W) x=>vS x e B W ((hW.block _ (by have:=(AB.1 hE).1;omega)).trans ((hb0.block _ (AB.1 hE).1).trans hE)));have CC:=fun W=>nK e.p W (by omega);have HB0:=G7 hb0;clear hr hE X0 hb0;unfold evV;unfold waV at CF;go_enter func172,ntmps172;go_wp2_with fail
 try rw[hw0]
 go_loopg [7,12] ws.length (fun kx s7 s12 wr=>∃ (k:Nat) (va:Option Addr) (vc:Nat),s12=I0 k/\s7=FT va (TL (ws.take k) e).length vc/\k<=ws.length/\ws.length-k<=kx/\Hid (H7 wr w0.heap.size (FT va (TL (ws.take k) e).length vc) (TL (ws.take k) e))/\Hid (B0 w0 wr))
 case atStart=>exact⟨0,FZ,0,rfl,rfl,AY _,A8 _,G7 (.inl ⟨rfl,rfl⟩),G7 (AA _ _)⟩
 case round=>
  obtain⟨k,va,vc,rfl,rfl,hk,hg,hO,hB⟩:=hrel;by_cases hlt:k<ws.length
  .obtain⟨x,hx⟩:∃x,ws[k]?=G5 x:=⟨_,AL hlt⟩;have qr:=G6 HR wr (G6 hB);have d0:=qr.w0 hx;have d1:=qr.w1 hx;have d2:=qr.w2 hx;simp only[BI]at d0 d1 d2;have hqw:q<wr.heap.size:=by have:=(G6 hB).size;omega
   have hts:=B22 (e:=e) hx;have hnl:=C41 ws e k;obtain⟨N,hN⟩:∃N,TL (ws.take k) e=N:=⟨_,rfl⟩;rw[hN]at hO hts hnl;have hB1:=G9 (G6 hB) (G8 wr (FU #[I0 x.s,I0 x.k,S0 x.p] 71));have CX:=G6 CF _ hB1 x;have HB1:=G7 hB1;rw[hN];clear qr hx hN hB1
   cases hpx:yF x e
   .rw[hpx]at CX hts;simp only[Bool.false_eq_true,if_false,DN]at hts;have HTS:=G7 hts;clear hts hpx;go_wp2_with fail;refine CX.mono ?_;rintro r w1 ⟨rfl,hb1⟩;have HB2:=G7 (G9 (G6 HB1) hb1);have HO2:=G7 (((G6 hO).next (G8 wr (FU #[I0 x.s,I0 x.k,S0 x.p] 71))).next hb1);clear CX hb1;go_wp2_with fail
    go_roundg (ws.length-(k+1))
    case measure=>omega
    case rel=>exact⟨k+1,va,vc,rfl,by rw[G6 HTS],by omega,A8 _,by rw[G6 HTS];exact HO2,HB2⟩
   .rw[hpx]at CX hts;simp only[if_true]at hts;have HTS:=G7 hts;clear hts hpx;go_wp2_with fail;refine CX.mono ?_;rintro r w1 ⟨rfl,hb1⟩;have HB2:=G7 (G9 (G6 HB1) hb1);have O2:=((G6 hO).next (G8 wr (FU #[I0 x.s,I0 x.k,S0 x.p] 71))).next hb1;have K1:∀w2,B0 w1 w2->w2.cell? ⟨wr.heap.size,0,FZ⟩=G5 (I0 x.s)/\w2.cell? ⟨w.heap.size,0,FZ⟩=G5 (I0 e.k)/\w2.cell? ⟨w.heap.size,1,FZ⟩=G5 (S0 e.p):=by
     intro w2 hb2;have hbb:=G9 (G6 HB2) hb2;refine⟨?_,(G6 HX w2 hbb).1,(G6 HX w2 hbb).2⟩;have hz:wr.heap.size<w1.heap.size:=by have:=hb1.size;simp at this;omega
     rw[hb2.cell (p:=⟨wr.heap.size,0,FZ⟩) hz,hb1.cell (p:=⟨wr.heap.size,0,FZ⟩) (by simp)];simp
    obtain⟨m0,m1,m2⟩:=K1 w1 (AA _ _);have HK1:=G7 K1;have KE:=G7 (fun w2 (hb2:B0 w1 w2)=>((O2.next hb2).next (G8 w2 (FU #[I0 x.s,I0 e.k,S0 e.p] 48))).lower (AY w0.heap.size));have KA:=G7 (dF O2);have K2:∀ (w2 w3:FV) (a3:Option Addr) (c3:Nat),B0 w1 w2->H7 w3 0 (FT a3 (N.length+1) c3) (N++[⟨x.s,e.k,e.p⟩])->(w2.alloc (FU #[I0 x.s,I0 e.k,S0 e.p] 48)).grownBy w3 (Value.slice va N.length vc).ownBlock->
      ((Value.slice a3 (N.length+1) c3).ownBlock=(Value.slice va N.length vc).ownBlock\/(Value.slice a3 (N.length+1) c3).ownBlock=G5 (w2.alloc (FU #[I0 x.s,I0 e.k,S0 e.p] 48)).heap.size)->
      H7 w3 w0.heap.size (FT a3 (N.length+1) c3) (N++[⟨x.s,e.k,e.p⟩])/\B0 w0 w3:=by
     intro w2 w3 a3 c3 hb2 ho3 hg3 hl3;have hbb:=G9 (G9 (G6 HB2) hb2) (G8 w2 (FU #[I0 x.s,I0 e.k,S0 e.p] 48));refine⟨jR ho3 (fun j hj=>?_),hbb.grown hg3 hbb.size (G6 KA)⟩;rcases hl3 with h|h
     .rw[h]at hj;exact G6 KA j hj
     .rw[h]at hj;cases hj;exact hbb.size
    have HK2:=G7 K2;have hsz1:wr.heap.size<w1.heap.size:=by have:=hb1.size;simp at this;omega
    have hsz2:w.heap.size<w1.heap.size:=by have:=(G6 HB2).size;omega
    have hNl:(N.length+1)*32<=140737488355328:=by omega
    clear CX hb1 K1 K2 O2;go_wp2_with fail
    go_region_law (first
     |(refine A11 (by kernel_rfl) _ _ (by rfl) (FT va N.length vc) N (by rfl) (G6 KE w2 (G6 HB3)) w2.heap.size (by rfl) ⟨x.s,e.k,e.p⟩ (BL4 w2 ⟨x.s,e.k,e.p⟩) hNl ?_;intro a3 c3 w3 ho3 hg3 hl3;obtain⟨o3,b3⟩:=G6 HK2 w2 w3 a3 c3 (G6 HB3) ho3 hg3 hl3;have HO3:=G7 o3;have HB4:=G7 b3;clear ho3 hg3 hl3 o3 b3)
     |(go_simp;refine(CC _).mono ?_;rintro r w2 ⟨rfl,hb2⟩;have HB3:Hid (B0 w1 w2):=(by first|exact hb2|exact I9 hb2);obtain⟨p0,p1,p2⟩:=G6 HK1 w2 (G6 HB3);clear hb2))
    all_goals
     go_wp2_with fail
     go_roundg (ws.length-(k+1))
     case measure=>omega
     case rel=>exact⟨k+1,_,_,rfl,by rw[G6 HTS,AO];rfl,by omega,A8 _,by rw[G6 HTS,AO];exact HO3,HB4⟩
  .obtain rfl:k=ws.length:=by omega
   rw[DV]at hO⊢;have HB:=G7 (G9 (G6 HB0) (G6 hB));have hO2:Hid (H7 wr w.heap.size (FT va (TL ws e).length vc) (TL ws e)):=G7 ((G6 hO).lower (by omega));clear hO;go_wp2_with fail;go_ret;exact⟨_,rfl,G6 hO2,G6 HB⟩
theorem AA7(pr:Wa->Bool):∀ws:List Wa,(∀a∈ws,pr a=false)\/∃A x R,ws=A++x::R/\(∀a∈A,pr a=false)/\pr x=true
 |[]=>.inl (by simp)
 |y::r=>by
  cases h:pr y
  .rcases AA7 pr r with h1|⟨A,x,R,rfl,h1,h2⟩
   .exact .inl (by intro a ha;rcases BP.1 ha with rfl|ha;exact h;exact h1 a ha)
   .exact .inr ⟨y::A,x,R,rfl,(by intro a ha;rcases BP.1 ha with rfl|ha;exact h;exact h1 a ha),h2⟩
  .exact .inr ⟨[],y,r,rfl,by simp,h⟩
theorem vT(h:∀a∈ws,pr a=false):ws.filter (fun x=> !pr x)=ws:=by
 rw[List.filter_eq_self];intro a ha;simp[h a ha]
theorem AA8{g:FuncId}{I:FV->Prop}(C:CI8 g B q pr I)(cap:Nat)(ws:List Wa)(w:FV)(hi:I w)(ho:J9 w q cap ws)(hl:ws.length<=140737488355328):
  FX prog 173 #[FT (G5 ⟨q,0,FZ⟩) ws.length cap,.func (.func g) #[] #[P0 B]] w fun e w'=>
   e=.returned (FT (G5 ⟨q,0,FZ⟩) (ws.filter (fun x=> !pr x)).length cap)/\J9 w' q cap (ws.filter (fun x=> !pr x))/\w.grownBy w' (G5 q):=by
 rcases AA7 pr ws with hA|⟨A,x,R,hws,hA,hx⟩
 .rw[vT hA];have CN:=B21 C _ ws w hi (H7.seq (.inr ⟨q,cap,rfl,AY _,ho⟩)) hl hA;have HO:=G7 ho;have two:=C.two;clear C hA hi ho;rcases two with rfl|rfl
  all_goals
   go_enter func173,ntmps173;go_wp2_with fail;refine CN.mono ?_;rintro e w1 ⟨rfl,hb1⟩;have HB:=G7 hb1;clear CN hb1;go_wp2_with fail;go_ret;exact⟨rfl,(G6 HO).next (G6 HB),LK (G6 HB)⟩
 .obtain⟨n,hn⟩:∃n,ws.length=n:=⟨_,rfl⟩;have hAn:A.length<n:=by rw[<-hn,hws];simp
  have hnc:n<=cap:=by rw[<-hn];exact ho.le
  have hcl:=ho.capLe;simp only[maxLen]at hcl;have CA:=C40 C q 0 cap A x R w hi ho.lt (by rw[<-hws];exact ho.row) (by rw[<-hws];exact hl) hA hx;rw[<-hws,hn]at CA;obtain⟨T,hT⟩:∃T,ws.filter (fun x=> !pr x)=T:=⟨_,rfl⟩;rw[hn]at hl⊢;rw[hT];have HTk:Hid (∀j,n<=j->(ws.take j).filter (fun x=> !pr x)=T):=G7 (fun j hj=>by rw[BM (by omega)];exact hT);have HF0:Hid ((ws.take (A.length+1)).filter (fun x=> !pr x)=A):=G7 (by
   rw[hws,List.take_append,BM (by omega),EZ,vT hA];simp[hx])
  have HG0:Hid (ws=A++[x]++ws.drop (A.length+1)):=G7 (by
   rw[hws];simp)
  have HN:=G7 hn;have HO:=G7 ho;have HC:=G7 C;have HI:=G7 (fun W (hW:w.grownBy W (G5 q))=>C.keep w W hi hW);have two:=C.two;clear hn hws hA hx ho C hT hi;rcases two with rfl|rfl
  all_goals
   go_enter func173,ntmps173;go_wp2_with fail;refine CA.mono ?_;rintro e w1 ⟨rfl,hb1⟩;have HB:=G7 hb1;clear CA hb1;go_wp2_with fail
   go_loopg [5,6] n (fun kx s5 s6 wr=>∃ (j:Nat) (F G:List Wa),s5=I0 F.length/\s6=I0 j/\j<=n/\n-j<=kx/\F.length+G.length=j/\0<G.length/\Hid ((ws.take j).filter (fun x=> !pr x)=F)/\Hid (J9 wr q cap (F++G++ws.drop j))/\Hid (w.grownBy wr (G5 q)))
   case atStart=>exact⟨A.length+1,A,[x],rfl,rfl,by omega,by omega,rfl,by simp,HF0,G7 (by rw[<-G6 HG0];exact(G6 HO).next (G6 HB)),G7 (LK (G6 HB))⟩
   case round=>
    obtain⟨j,F,G,rfl,rfl,hj,hg,hFG,hG0,hF,hO,hW⟩:=hrel;have hFj:F.length<j:=by omega
    by_cases hlt:j<n
    .obtain⟨y,hy⟩:∃y,ws[j]?=G5 y:=⟨_,AL (by rw[G6 HN];exact hlt)⟩;have hd:ws.drop j=y::ws.drop (j+1):=by
      obtain⟨h1,h2⟩:=AU.1 hy;rw[List.drop_eq_getElem_cons h1,h2]
     have hf:(ws.take (j+1)).filter (fun x=> !pr x)=F++(if pr y=true then []else [y]):=by
      rw[P6 hy,EZ,G6 hF]
      cases hpy:pr y<;>simp[hpy]
     rw[hd]at hO;have hyr:(F++G++y::ws.drop (j+1))[j]?=G5 y:=by
      rw[List.getElem?_append_right (by simp;omega)];simp[hFG]
     obtain⟨z,G',rfl⟩:∃z G',G=z::G':=by
      cases G with
      |nil=>simp at hG0
      |cons z G'=>exact⟨z,G',rfl⟩
     have hzr:(F++z::G'++y::ws.drop (j+1))[F.length]?=G5 z:=by simp
     have d0:=(G6 hO).row.w0 hyr;have d1:=(G6 hO).row.w1 hyr;have d2:=(G6 hO).row.w2 hyr;have hq:=(G6 hO).lt;have hqn:q≠wr.heap.size:=by omega
     simp only[BI]at d0 d1 d2;have HW1:=G7 (IL (G6 hW) (LK (G8 wr (FU #[I0 y.s,I0 y.k,S0 y.p] 71))));have CX:=(G6 HC).gives _ y (G6 HI _ (G6 HW1));have hjn:(j:Int)<(n:Int):=by omega
     by_cases hp:pr y=true
     .rw[hp]at CX hf;rw[if_pos rfl,DN]at hf;have HF:=G7 hf;clear hy hd hf hyr hp hzr;go_wp2_with fail;refine CX.mono ?_;rintro e w2 ⟨rfl,hb2⟩;have HO2:Hid (J9 w2 q cap (F++(z::G'++[y])++ws.drop (j+1))):=G7 (by
       have:=((G6 hO).next (G8 wr (FU #[I0 y.s,I0 y.k,S0 y.p] 71))).next hb2;simpa using this)
      have HW2:=G7 (IL (G6 HW1) (LK hb2));clear CX hb2;go_wp2_with fail
      go_roundg (n-(j+1))
      case measure=>omega
      case rel=>exact⟨j+1,F,z::G'++[y],rfl,rfl,by omega,A8 _,by simp at hFG⊢;omega,by simp,HF,HO2,HW2⟩
     .have hp':pr y=false:=by simpa using hp
      rw[hp']at CX;rw[if_neg hp]at hf;have HF:=G7 hf;clear hy hd hf hyr hp hp';have hFn:(F.length:Int)<(n:Int):=by omega
      go_wp2_with fail;refine CX.mono ?_;rintro e w2 ⟨rfl,hb2⟩;have O2:=((G6 hO).next (G8 wr (FU #[I0 y.s,I0 y.k,S0 y.p] 71))).next hb2;have c0:w2.cell? ⟨wr.heap.size,0,FZ⟩=G5 (I0 y.s):=by rw[hb2.cell (p:=⟨wr.heap.size,0,FZ⟩) (by simp)];simp
      have c1:w2.cell? ⟨wr.heap.size,1,FZ⟩=G5 (I0 y.k):=by rw[hb2.cell (p:=⟨wr.heap.size,1,FZ⟩) (by simp)];simp
      have c2:w2.cell? ⟨wr.heap.size,2,FZ⟩=G5 (S0 y.p):=by rw[hb2.cell (p:=⟨wr.heap.size,2,FZ⟩) (by simp)];simp
      have e0:=O2.row.w0 hzr;have e1:=O2.row.w1 hzr;have e2:=O2.row.w2 hzr;simp only[BI]at e0 e1 e2;have f0:=O2.frozen (F.length*3);have f1:=O2.frozen (F.length*3+1);have f2:=O2.frozen (F.length*3+2);have hz2:wr.heap.size<w2.heap.size:=by have:=hb2.size;simp at this;omega
      have HO3:Hid (J9 (((w2.setCell ⟨q,F.length*3,FZ⟩ (I0 y.s)).setCell ⟨q,F.length*3+1,FZ⟩ (I0 y.k)).setCell ⟨q,F.length*3+2,FZ⟩ (S0 y.p)) q cap ((F++[y])++(G'++[y])++ws.drop (j+1))):=G7 (by
       have O2':J9 w2 q cap (F++z::(G'++y::ws.drop (j+1))):=by simpa using O2
       have:=O2'.uI y;have e:F++[y]++(G'++[y])++ws.drop (j+1)=F++y::(G'++y::ws.drop (j+1)):=by simp
       rw[e];exact this)
      have HW3:Hid (w.grownBy (((w2.setCell ⟨q,F.length*3,FZ⟩ (I0 y.s)).setCell ⟨q,F.length*3+1,FZ⟩ (I0 y.k)).setCell ⟨q,F.length*3+2,FZ⟩ (S0 y.p)) (G5 q)):=
       G7 (IL (IL (IL (IL (G6 HW1) (LK hb2)) (PU _)) (PU _)) (PU _))
      clear CX hb2 O2 hzr;go_wp2_with fail
      go_roundg (n-(j+1))
      case measure=>omega
      case rel=>exact⟨j+1,F++[y],G'++[y],by rw[AO];rfl,rfl,by omega,A8 _,by simp at hFG⊢;omega,by simp,HF,HO3,HW3⟩
    .obtain rfl:j=n:=by omega
     have hTF:T=F:=((G6 HTk j (A8 _)).symm.trans (G6 hF));have OF:J9 wr q cap F:=J9.head (B:=G++ws.drop j) (by have:=G6 hO;rwa[BR]at this);have CR3:∀ty c,(Builtin.clear_ #[59] ty #[FT (G5 ⟨q,F.length*3,FZ⟩) (j-F.length) c]).run prog wr=.ok (.tuple #[]) (wr.setCells q (F.length*3) (YG (j-F.length))):=fun ty c=>
      AL7 wr ty q _ _ c (by omega) (fun i hi=>OF.some (show F.length*3+i<cap*3 by omega)) (fun i hi=>OF.frozen _)
     have FIN:Hid (J9 (wr.setCells q (F.length*3) (YG (j-F.length))) q cap F/\w.grownBy (wr.setCells q (F.length*3) (YG (j-F.length))) (G5 q)):=
      G7 ⟨OF.spare _ _ (A8 _) (by rw[UW];show _<=cap*3;omega),IL (G6 hW) (H8 _ _ _)⟩
     have hcn:¬ (cap=F.length):=by omega
     have hFc:F.length<=cap:=by omega
     have hFn:F.length<=j:=by omega
     have hjj:¬ ((j:Int)<(j:Int)):=by omega
     clear OF hO hW hF HTk HF0 HG0;subst hTF;go_wp2_with fail;go_ret;exact⟨rfl,(G6 FIN).1,(G6 FIN).2⟩
theorem AL8(ws:List Wa)(es:List Ev)(k:Nat)(e:Ev)(h:es[k]?=G5 e):OQ ws (es.take (k+1))=OQ ws (es.take k)++TL (LC ws (es.take k)) e:=by
 rw[P6 h,AW8];simp[OQ]
theorem AL9(ws:List Wa)(es:List Ev)(k:Nat)(e:Ev)(h:es[k]?=G5 e):LC ws (es.take (k+1))=lJ (LC ws (es.take k)) e:=by
 rw[P6 h,AW9];simp[LC]
theorem lS{w:FV}{ops:Array Oper}{rest:List Oper}{o:Oper}{a:Act}{Q:Exit->Act->FV->Prop}(hgd:o.guard=FZ)(s x:Operand)
  (ho:o.op=.call {callee:=.builtin .append,args:=#[s,x],argTypes:=#[32,32]})
  (v u:FW) (ns ms:List Nt) (C:Nat) (hs:a.eval s=v) (hown:H7 w 0 v ns) (hx:a.eval x=u) (hu:H7 w C u ms) (hl:(ns.length+ms.length)*32<=140737488355328)
  (h:∀a' c' w',H7 w' 0 (FT a' (ns.length+ms.length) c') (ns++ms)->w.grownBy w' v.ownBlock->((Value.slice a' (ns.length+ms.length) c').ownBlock=v.ownBlock\/(Value.slice a' (ns.length+ms.length) c').ownBlock=G5 w.heap.size)->wpList prog ops Q rest (a.put o.dst (FT a' (ns.length+ms.length) c')) w'):
  wpList prog ops Q (o::rest) a w:=by
 refine wpList_plain hgd fun K hK=>?_;obtain⟨i0,hi0,hz0,hz1,hz2⟩:=AX6;rcases hu with⟨rfl,rfl⟩|⟨g,cap,rfl,_,hr⟩
 .obtain⟨a',c',rfl,_⟩:=hown.slice;have hrun:=run_append_owned_none (P:=prog) (w:=w) 0 32 o.type 48 i0 3 underlying32 hi0 _ ns.length (GH ns) hown.row;unfold Oper.wp execOp;simp only[ho,resolve,invoke,builtin,DY,EN,EC,List.map_toArray,List.map_cons,List.map_nil,hs,hx,hrun];exact hK _ _ (h a' c' w (by rw[DN];exact hown) (World.grownBy.refl _ _) (.inl rfl))
 .obtain⟨v',w',hrun,h2,h3,_,h5⟩:=run_append_own_at (P:=prog) w 0 32 o.type 48 i0 _ 3 32 underlying32 hi0 hz0 hz1 hz2 rfl (by decide) v ns.length (GH ns) hown.row ⟨g,0,FZ⟩ ms.length cap (GH ms) (GN ms) (fun j y hj=>by rw[Addr.add_lit];exact hr.row j y hj) (JF ms) (by simp only[maxLen];omega) hl (AY _);have h2':H7 w' 0 v' (ns++ms):=H7.L9 (by rw[AO,H6];exact h2);obtain⟨a',c',rfl,_⟩:=h2'.slice;rw[AO]at h2' hrun h5;unfold Oper.wp execOp;simp only[ho,resolve,invoke,builtin,DY,EN,EC,List.map_toArray,List.map_cons,List.map_nil,hs,hx,hrun];exact hK _ _ (h a' c' w' h2' h3 h5)
theorem JM.grown{V:FV}{e:Ev}(h:JM W B e)(hg:W.grownBy V (G5 q))(hne:B≠q):JM V B e:=
 (hg.block B (AB.1 h).1 (by simp[hne])).trans h
theorem AM0(B q:Nat)(e:Ev)(hne:B≠q):CI8 170 B q (fun x=>yF x e) (fun W=>JM W B e):=
 ⟨.inl rfl,fun _ _ h hg=>h.grown hg hne,fun W x h=>vS x e B W h⟩
theorem BL6(v u:FW)(ws:List Wa)(es:List Ev)(w:FV)(hv:IE w v ws)(hu:IE w u es)(hs:lN ws)(he:BV7 es)(hl:ws.length*32<=140737488351232)(hle:es.length<=140737488355328):
  FX prog 125 #[v,u] w fun r w'=>∃vn vl,r=.returned (.tuple #[vn,vl])/\H7 w' w.heap.size vn (OQ ws es)/\(∃g,vl=FT (G5 ⟨g,0,FZ⟩) (LC ws es).length (ws.length+1)/\w.heap.size<=g/\J9 w' g (ws.length+1) (LC ws es))/\B0 w w':=by
 have CC:=YZ v ws w hv hs hl;have KR:∀W,B0 w W->∀k x,es[k]?=G5 x->∃b off cap,u=FT (G5 ⟨b,off,FZ⟩) es.length cap/\b<w.heap.size/\IC W b off (GH es):=fun W hW k x hx=>by
  obtain⟨b,off,cap,e,hb,hr,_,_⟩:=N8 hu (fun h0=>by obtain⟨h1,_⟩:=AU.1 hx;rw[h0]at h1;simp at h1);exact⟨b,off,cap,e,hb,hr.kept hW hb⟩
 have HKR:=G7 KR;have HE:=G7 he;obtain⟨va,vc,rfl⟩:=GL hv;obtain⟨ua,uc,rfl⟩:=GL hu;obtain⟨i0,hi0,hz0,hz1,hz2⟩:=AX6;clear hv hu hs he KR;go_enter func125,ntmps125;go_wp2_with fail;refine CC.mono ?_;rintro r w0 ⟨q,rfl,hq,ho,hb⟩;have HO:Hid (J9 w0 q (ws.length+1) ws):=G7 ho;have HB:=G7 hb;clear CC ho hb;go_wp2_with fail
 go_loopg [6,7,15] es.length (fun kx s6 s7 s15 wr=>∃ (k:Nat) (na:Option Addr) (nc:Nat),s15=I0 k/\s6=FT na (OQ ws (es.take k)).length nc/\s7=FT (G5 ⟨q,0,FZ⟩) (LC ws (es.take k)).length (ws.length+1)/\k<=es.length/\es.length-k<=kx/\
  Hid (H7 wr w.heap.size (FT na (OQ ws (es.take k)).length nc) (OQ ws (es.take k)))/\Hid ((Value.slice na (OQ ws (es.take k)).length nc).ownBlock≠G5 q)/\Hid (J9 wr q (ws.length+1) (LC ws (es.take k)))/\Hid (B0 w wr))
 case atStart=>exact⟨0,FZ,0,rfl,rfl,rfl,AY _,A8 _,G7 (.inl ⟨rfl,rfl⟩),G7 (by simp[DC]),HO,HB⟩
 case round=>
  obtain⟨k,na,nc,rfl,rfl,rfl,hk,hg,hN,hnq,hO,hB⟩:=hrel;by_cases hlt:k<es.length
  .obtain⟨e,hx⟩:∃e,es[k]?=G5 e:=⟨_,AL hlt⟩;obtain⟨b,off,cap,he,hb,qr⟩:=G6 HKR wr (G6 hB) k e hx;simp only[AP]at he;obtain⟨rfl,_,rfl⟩:=he;have d0:=qr.e0 hx;have d1:=qr.e1 hx;have hep:=G6 HE e (AZ hx);have hbw:b<wr.heap.size:=AX hb (G6 hB).size;have HTN:=G7 (AL8 ws es k e hx);have HTW:=G7 (AL9 ws es k e hx);have hfl:=fV (es.take k) ws;obtain⟨N,hN'⟩:∃N,OQ ws (es.take k)=N:=⟨_,rfl⟩;obtain⟨L,hL'⟩:∃L,LC ws (es.take k)=L:=⟨_,rfl⟩;rw[hN']at hN hnq HTN hfl⊢;rw[hL']at hO HTN HTW hfl⊢;have htl:=pO L e;clear qr hx hN' hL';obtain⟨wx,hwx⟩:∃wx,wr.alloc (FU #[I0 e.k,S0 e.p] 46)=wx:=⟨_,rfl⟩;have hbx:B0 wr wx:=by rw[<-hwx];exact G8 _ _
   have hzx:wx.heap.size=wr.heap.size+1:=by rw[<-hwx];simp
   have X:JM wx wr.heap.size e:=by rw[<-hwx];exact zF wr e.k e.p
   have hqr:=(G6 hO).lt;have x0:wx.cell? ⟨wr.heap.size,0,FZ⟩=G5 (I0 e.k):=by simpa using X.row 0 _ rfl
   have x1:wx.cell? ⟨wr.heap.size,1,FZ⟩=G5 (S0 e.p):=by simpa using X.row 1 _ rfl
   have CT:=BL5 q (ws.length+1) wr.heap.size L e wx (by omega) ((G6 hO).next hbx).row X (by omega) hep;unfold evV at CT;have KT:∀w2 v2,H7 w2 wx.heap.size v2 (TL L e)->B0 wx w2->
     H7 w2 w.heap.size (FT na N.length nc) N/\J9 w2 q (ws.length+1) L/\JM w2 wr.heap.size e/\B0 w w2/\(∀j,v2.ownBlock=G5 j->j≠q/\w.heap.size<=j/\j≠wr.heap.size)/\IE w2 v2 (TL L e):=by
    intro w2 v2 h2 hb2;have hb3:=G9 hbx hb2;refine⟨(G6 hN).next hb3,(G6 hO).next hb3,(hb2.block _ (by omega)).trans X,G9 (G6 hB) hb3,fun j hj=>?_,h2.seq⟩;have:=dF h2 j hj;have:=(G6 hB).size;omega
   have HKT:=G7 KT;have HXZ:=G7 hzx;have hno:(Value.slice na N.length nc).ownBlock≠G5 wr.heap.size:=fun h=>by have:=(G6 hN).low _ h;omega
   have HNO:=G7 hno;clear KT X hno;go_wp2_with fail;refine CT.mono ?_;rintro r w2 ⟨v2,rfl,ho2,hb2⟩;obtain⟨n2,o2,x2,b2,k2,s2⟩:=G6 HKT w2 v2 ho2 hb2;have hzz:wr.heap.size<w2.heap.size:=by have:=hb2.size;omega
   have hq2:=o2.lt;have HQ:=G7 (show wr.heap.size≠q by omega);have HN2:=G7 n2;have HO2:=G7 o2;have HX2:=G7 x2;have HB2:=G7 b2;have HV2:=G7 ho2;have hml:(N.length+(TL L e).length)*32<=140737488355328:=by omega
   have hLl:L.length<=140737488355328:=by omega
   obtain⟨M,hM⟩:∃M,TL L e=M:=⟨_,rfl⟩;rw[hM]at HV2 hml HTN;have HTL:Hid (∀L',L.filter (fun x=> !yF x e)=L'->LC ws (es.take (k+1))=L'):=G7 (fun L' h=>(G6 HTW).trans h);obtain⟨v2a,v2c,rfl,_⟩:=(G6 HV2).slice;clear n2 o2 x2 b2 k2 s2 ho2 hb2 CT hM hfl htl hbx hzx hep HKT x0 x1 hwx;go_wp2_with (at_builtin;refine lS rfl _ _ rfl (FT na N.length nc) (FT v2a M.length v2c) N M wx.heap.size rfl ((G6 HN2).lower (AY _)) rfl (G6 HV2) hml ?_);intro a3 c3 w3 ho3 hg3 hl3;have hab:=dF (G6 HN2);have B3:B0 w w3:=(G6 HB2).grown hg3 (G6 HB2).size hab;have N3:H7 w3 w.heap.size (FT a3 (N.length+M.length) c3) (N++M):=jR ho3 (fun j hj=>by
    rcases hl3 with h|h
    .rw[h]at hj;exact hab j hj
    .rw[h]at hj;cases hj;exact(G6 HB2).size)
   have Q3:(Value.slice a3 (N.length+M.length) c3).ownBlock≠G5 q:=by
    rcases hl3 with h|h
    .rw[h];exact G6 hnq
    .rw[h];intro h';cases h';omega
   have O3:J9 w3 q (ws.length+1) L:=by
    obtain⟨rest,h1,h2⟩:=G6 HO2;exact⟨rest,(hg3.block q hq2 (fun h=>G6 hnq h.symm)).trans h1,h2⟩
   have X3:JM w3 wr.heap.size e:=(hg3.block _ hzz (fun h=>G6 HNO h.symm)).trans (G6 HX2);have CD:=AA8 (AM0 wr.heap.size q e (G6 HQ)) (ws.length+1) L w3 X3 O3 hLl;have HB3:=G7 B3;have HN3:=G7 N3;have HQ3:=G7 Q3;obtain⟨L',hL'⟩:∃L',L.filter (fun x=> !yF x e)=L':=⟨_,rfl⟩;have HL':=G7 (G6 HTL L' hL');rw[hL']at CD;clear ho3 hg3 hl3 hab B3 N3 Q3 O3 X3 hL';go_wp2_with fail;refine CD.mono ?_;rintro r w4 ⟨rfl,ho4,hg4⟩;have HB4:=G7 ((G6 HB3).grown hg4 (G6 HB3).size (fun j hj=>by cases hj;exact hq));have HN4:=G7 ((G6 HN3).grown hg4 (fun j hj h=>G6 HQ3 (hj.trans h)));have HO4:=G7 ho4;clear CD ho4 hg4;go_wp2_with fail
   go_roundg (es.length-(k+1))
   case measure=>omega
   case rel=>
    refine⟨k+1,a3,c3,rfl,?_,?_,by omega,A8 _,?_,?_,?_,HB4⟩
    .rw[G6 HTN,AO]
    .rw[G6 HL']
    .rw[G6 HTN,AO];exact HN4
    .rw[G6 HTN,AO];exact HQ3
    .rw[G6 HL'];exact HO4
  .obtain rfl:k=es.length:=by omega
   rw[DV]at hN hnq hO⊢;go_wp2_with fail
   go_ret2
   exact⟨_,_,rfl,G6 hN,⟨q,rfl,hq,G6 hO⟩,G6 hB⟩
theorem BL7(v:FW)(s:Int)(ws:List Wa)(w:FV)(hv:IE w v ws)(hs:lN ws)(hl:ws.length*32<=140737488351232):
  FX prog 126 #[v,I0 s] w fun r w'=>∃g,r=.returned (FT (G5 ⟨g,0,FZ⟩) (lK ws s).length (ws.length+1))/\w.heap.size<=g/\J9 w' g (ws.length+1) (lK ws s)/\B0 w w':=by
 have CC:=YZ v ws (w.alloc (FU #[I0 s] 3)) (hv.next (G8 _ _)) hs hl;obtain⟨va,vc,rfl⟩:=GL hv;have hLl:ws.length<=140737488355328:=by omega
 obtain⟨D,hD⟩:∃D,lK ws s=D:=⟨_,rfl⟩;rw[hD];have HD:Hid (ws.filter (fun x=> !decide (x.s=s))=D):=G7 hD;clear hv hs hD;go_enter func126,ntmps126;go_wp2_with fail;refine CC.mono ?_;rintro r w1 ⟨q,rfl,hq,ho,hb⟩;have hq1:w.heap.size+1<=q:=by simpa using hq
 have c1:w1.cell? ⟨w.heap.size,0,FZ⟩=G5 (I0 s):=by rw[hb.cell (p:=⟨w.heap.size,0,FZ⟩) (by simp)];simp
 have hz1:w.heap.size<w1.heap.size:=by have:=hb.size;simp at this;omega
 have K:CI8 174 w.heap.size q (fun x=>decide (x.s=s)) (fun W=>W.cell? ⟨w.heap.size,0,FZ⟩=G5 (I0 s)/\w.heap.size<W.heap.size):=
  ⟨.inr rfl,fun _ _ h hg=>⟨hg.cell h.1 (by show G5 w.heap.size≠G5 q;simp;omega),AX h.2 hg.size⟩,fun W x h=>B20 x s w.heap.size W h.1 h.2⟩
 have CD:=AA8 K (ws.length+1) ws w1 ⟨c1,hz1⟩ ho hLl;have HB:=G7 (GY hb);rw[G6 HD]at CD;clear CC K ho hb c1 hq;go_wp2_with fail;refine CD.mono ?_;rintro r w2 ⟨rfl,ho2,hg2⟩;have HB2:=G7 ((G6 HB).grown hg2 (G6 HB).size (fun j hj=>by cases hj;omega));clear CD hg2;go_wp2_with fail;go_ret;exact⟨q,rfl,by omega,ho2,G6 HB2⟩
def eqW(x y:Wa):Bool:=x.s==y.s&&x.k==y.k&&x.p==y.p
theorem A27{y:Wa}:eqW x y=true↔x=y:=by
 obtain⟨a,b,c⟩:=x;obtain⟨d,e,f⟩:=y;simp[eqW,and_assoc]
def wK(ws:List Wa)(x:Wa):Bool:=ws.any (fun y=>eqW x y)
theorem BN8:wK ws x=true↔x∈ws:=by
 simp only[wK,List.any_eq_true];exact⟨fun⟨y,hy,h⟩=>by rw[A27.1 h];exact hy,fun h=>⟨x,h,A27.2 rfl⟩⟩
def sG(x:Wa):Int:=if x.k≠1/\x.k≠2 then 4 else if J4 x.p=false then 2 else if x.s<1\/2147483647<x.s then 3 else 0
def YK(ws:List Wa)(x:Wa):Int:=if sG x≠0 then sG x else if wK ws x=true then 0 else if 400<=ws.length then 6 else 0
def nY(ws:List Wa)(x:Wa):List Wa:=if YK ws x≠0 then []else if wK ws x=true then ws else ws++[x]
theorem C66(x y:Wa)(w:FV):(binOp .eql 71 (waV x) (waV y)).run prog w=.ok (.bool (eqW x y)) w:=by
 have u3:=underlying3;have a3:=isAgg3;have z3:=sizeOf3;have u9:=underlying9;have a9:=isAgg9;have z9:=sizeOf9;have hS:prog.underlying 71=G5 (.struct (prog.fieldsOf 71)):=by kernel_rfl
 have hp:prog.stoodInHeld 71=false:=by kernel_rfl
 simp only[waV];rw[run_eql_struct,show (10000:Nat)=9999+1 from rfl,run_equalIn_agg w 9999 71 _ _ hS hp];simp only[Program.fieldsOf,underlying71];go_simp;unfold eqW;by_cases h1:x.s=y.s<;>by_cases h2:x.k=y.k<;>by_cases h3:x.p=y.p<;>simp[h1,h2,h3]
theorem CK8(h:Below (w.heap.size+1) (w.alloc (FU #[I0 x.s,I0 x.k,S0 x.p] 71)) W):W.cell? ⟨w.heap.size,0,FZ⟩=G5 (I0 x.s)/\W.cell? ⟨w.heap.size,1,FZ⟩=G5 (I0 x.k)/\W.cell? ⟨w.heap.size,2,FZ⟩=G5 (S0 x.p):=by
 have hb:W.heap[w.heap.size]?=G5 (FU #[I0 x.s,I0 x.k,S0 x.p] 71 (0,0)):=(h.block _ (by omega)).trans (heap_alloc_new w _);refine⟨?_,?_,?_⟩<;>simp[World.cell?,hb]
theorem C67(v:FW)(ws:List Wa)(x:Wa)(w:FV)(hv:IE w v ws)(hl:ws.length<=140737488355328):
  FX prog 134 #[v,waV x] w fun e w'=>(∃i:Int,e=.returned (I0 i)/\decide (0<=i)=wK ws x)/\B0 w w':=by
 have KR:∀W,B0 w W->∀ (k:Nat) (y:Wa),ws[k]?=G5 y->∃b off cap,v=FT (G5 ⟨b,off,FZ⟩) ws.length cap/\b<w.heap.size/\IC W b off (GH ws):=fun W hW k y hx=>by
  obtain⟨b,off,cap,e,hb,hr,_,_⟩:=N8 hv (fun h0=>by obtain⟨h1,_⟩:=AU.1 hx;rw[h0]at h1;simp at h1);exact⟨b,off,cap,e,hb,hr.kept hW hb⟩
 have HKR:=G7 KR;have B0:B0 w (w.alloc (FU #[I0 x.s,I0 x.k,S0 x.p] 71)):=G8 _ _;have HB0:=G7 B0;obtain⟨va,vc,rfl⟩:=GL hv;have HQ:=G7 (fun y W=>C66 x y W);have HBX:=G7 (fun W (h:Below (w.heap.size+1) (w.alloc (FU #[I0 x.s,I0 x.k,S0 x.p] 71)) W)=>CK8 h);clear hv KR B0;unfold waV at HQ;unfold waV;go_enter func134,ntmps134;go_wp2_with fail
 go_loopg [8] ws.length (fun kx s8 wr=>∃k:Nat,s8=I0 k/\k<=ws.length/\ws.length-k<=kx/\Hid (wK (ws.take k) x=false)/\Hid (Below (w.heap.size+1) (w.alloc (FU #[I0 x.s,I0 x.k,S0 x.p] 71)) wr))
 case atStart=>exact⟨0,rfl,AY _,A8 _,G7 (by simp[wK]),G7 (AA _ _)⟩
 case round=>
  obtain⟨k,rfl,hk,hg,hh,hB⟩:=hrel;have HBw:Hid (B0 w wr):=G7 ((G6 HB0).trans ((G6 hB).mono (Nat.le_succ _)));obtain⟨c0,c1,c2⟩:=G6 HBX wr (G6 hB);by_cases hlt:k<ws.length
  .obtain⟨y,hy⟩:∃y,ws[k]?=G5 y:=⟨_,AL hlt⟩;obtain⟨b,off,cap,he,hb,q⟩:=G6 HKR wr (G6 HBw) k y hy;simp only[AP]at he;obtain⟨rfl,_,rfl⟩:=he;have d0:=q.w0 hy;have d1:=q.w1 hy;have d2:=q.w2 hy;have hkk:(k:Int)<(ws.length:Int):=by omega
   have qe:=G6 HQ y;have hms:wK (ws.take (k+1)) x=eqW x y:=by
    rw[P6 hy,wK,List.any_append];have:=G6 hh;rw[wK]at this;rw[this];simp
   have HY:Hid (y∈ws):=G7 (AZ hy);clear q hy
   cases hxy:eqW x y
   .rw[hxy]at qe hms;have HMS:=G7 hms;clear hms hxy;go_wp2_with fail
    go_quiet (fail)
    go_wp2_with fail
    go_roundg (ws.length-(k+1))
    case measure=>omega
    case rel=>exact⟨k+1,rfl,by omega,A8 _,HMS,G7 ((G6 hB).trans ⟨rfl,rfl,rfl,A8 _,fun _ _=>rfl⟩)⟩
   .rw[hxy]at qe;have HH:Hid (wK ws x=true):=G7 (by
     rw[BN8,A27.1 hxy];exact G6 HY)
    clear hms hxy;go_wp2_with fail
    go_quiet (fail)
    go_wp2_with fail;go_ret;exact⟨⟨k,rfl,by rw[G6 HH];simp⟩,(G6 HBw).trans ⟨rfl,rfl,rfl,A8 _,fun _ _=>rfl⟩⟩
  .obtain rfl:k=ws.length:=by omega
   rw[DV]at hh;go_wp2_with fail;go_ret;exact⟨⟨-1,rfl,by rw[G6 hh];rfl⟩,G6 HBw⟩
theorem BN9(v:FW)(ws:List Wa)(x:Wa)(w:FV)(hv:IE w v ws)(hl:ws.length<=140737488355328):
  FX prog 90 #[v,waV x] w (R0 w (.bool (wK ws x))):=by
 have C:=C67 v ws x (w.alloc (FU #[I0 x.s,I0 x.k,S0 x.p] 71)) (hv.alloc _) hl;obtain⟨va,vc,rfl⟩:=GL hv;generalize wK ws x=r at C⊢;clear hv;unfold waV at C;unfold waV;go_enter func90,ntmps90;go_wp2_with fail;refine C.mono ?_;rintro e w1 ⟨⟨i,rfl,hi⟩,hb1⟩;have HB:=G7 (GY hb1);have HI:=G7 hi;clear C hb1 hi;go_wp2_with fail;go_ret;exact⟨SH (G6 HI),G6 HB⟩
theorem BO0(x:Wa)(w:FV):
  FX prog 89 #[waV x] w (R0 w (I0 (sG x))):=by
 obtain⟨s,k,p⟩:=x;have C:=fun W=>LX ⟨p.toArray⟩ W;have HE:=G7 (show ∀r:Int,r=(if k≠1/\k≠2 then 4 else if J4 p=false then 2 else if s<1\/2147483647<s then 3 else 0)->r=sG ⟨s,k,p⟩from fun r h=>h);unfold waV;simp only;obtain⟨r,hr⟩:∃r,sG ⟨s,k,p⟩=r:=⟨_,rfl⟩;have HR:=G7 hr;rw[hr];clear hr;rw[G6 HR]at HE;by_cases hk:k≠1/\k≠2
 .have h1:(k !=1)=true:=by simpa using hk.1
  have h2:(k !=2)=true:=by simpa using hk.2
  have h12:(k !=1&&k !=2)=true:=by rw[h1,h2];rfl
  have h3:r=4:=(G6 HE 4 (by rw[if_pos hk])).symm;subst h3;clear hk;go_enter func89,ntmps89;go_wp2_with fail;go_ret;exact⟨rfl,G8 _ _⟩
 .have hkk:k=1\/k=2:=by
   by_cases h:k=1
   .exact .inl h
   .by_cases h':k=2
    .exact .inr h'
    .exact absurd ⟨h,h'⟩ hk
  have HE2:=G7 (fun r' (h:r'=(if J4 p=false then 2 else if s<1\/2147483647<s then 3 else 0))=>G6 HE r' (by rw[if_neg hk];exact h));clear HE hk
  cases hg:J4 p
  .have h3:r=2:=(G6 HE2 2 (by rw[hg];rfl)).symm;subst h3;have Hg:=G7 hg;clear hg;rcases hkk with rfl|rfl
   all_goals
    go_enter func89,ntmps89;go_wp2_with fail;refine(C _).mono ?_;rintro e w1 ⟨rfl,hb1⟩;have HB:=G7 (GY hb1);rw[G6 Hg];clear hb1;go_wp2_with fail;go_ret;exact⟨rfl,G6 HB⟩
  .have h3:=G6 HE2;rw[hg]at h3;simp only[Bool.true_eq_false,if_false]at h3;have Hg:=G7 hg;clear hg HE2;by_cases hs1:s<1
   .have h4:r=3:=(h3 3 (by rw[if_pos (.inl hs1)])).symm;subst h4;clear h3;rcases hkk with rfl|rfl
    all_goals
     go_enter func89,ntmps89;go_wp2_with fail;refine(C _).mono ?_;rintro e w1 ⟨rfl,hb1⟩;have HB:=G7 (GY hb1);have c0:w1.cell? ⟨w.heap.size,0,FZ⟩=G5 (I0 s):=by rw[hb1.cell (p:=⟨w.heap.size,0,FZ⟩) (by simp)];simp
     rw[G6 Hg];clear hb1;go_wp2_with fail;go_ret;exact⟨rfl,G6 HB⟩
   .by_cases hs2:2147483647<s
    .have h4:r=3:=(h3 3 (by rw[if_pos (.inr hs2)])).symm;subst h4;clear h3;rcases hkk with rfl|rfl
     all_goals
      go_enter func89,ntmps89;go_wp2_with fail;refine(C _).mono ?_;rintro e w1 ⟨rfl,hb1⟩;have HB:=G7 (GY hb1);have c0:w1.cell? ⟨w.heap.size,0,FZ⟩=G5 (I0 s):=by rw[hb1.cell (p:=⟨w.heap.size,0,FZ⟩) (by simp)];simp
      rw[G6 Hg];clear hb1;go_wp2_with fail;go_ret;exact⟨rfl,G6 HB⟩
    .have h4:r=0:=(h3 0 (by rw[if_neg (by omega)])).symm;subst h4;clear h3;rcases hkk with rfl|rfl
     all_goals
      go_enter func89,ntmps89;go_wp2_with fail;refine(C _).mono ?_;rintro e w1 ⟨rfl,hb1⟩;have HB:=G7 (GY hb1);have c0:w1.cell? ⟨w.heap.size,0,FZ⟩=G5 (I0 s):=by rw[hb1.cell (p:=⟨w.heap.size,0,FZ⟩) (by simp)];simp
      rw[G6 Hg];clear hb1;go_wp2_with fail;go_ret;exact⟨rfl,G6 HB⟩
theorem A50{w:FV}{ops:Array Oper}{o:Oper}{a:Act}{K:Act->FV->Prop}{Q:Exit->Act->FV->Prop}{E:Prop}(hgd:FK o (yielded ops a.tmps)=true)(s x:Operand)
  (ho:o.op=.call {callee:=.builtin .append,args:=#[s,x],argTypes:=#[59,59]})
  (v:FW) (ns:List Wa) (hs:a.eval s=v) (hown:H7 w 0 v ns)
  (q:Nat) (hx:a.eval x=FT (G5 ⟨q,0,FZ⟩) 1 1) (t:Wa) (hnews:JM w q t) (hl:(ns.length+1)*32<=140737488355328)
  (h:∀a' c' w',H7 w' 0 (FT a' (ns.length+1) c') (ns++[t])->w.grownBy w' v.ownBlock->((Value.slice a' (ns.length+1) c').ownBlock=v.ownBlock\/(Value.slice a' (ns.length+1) c').ownBlock=G5 w.heap.size)->K (a.put o.dst (FT a' (ns.length+1) c')) w'):
  if FK o (yielded ops a.tmps)=true then Oper.wp prog o a w K Q else E:=by
 rw[if_pos hgd];obtain⟨i0,hi0,hz0,hz1,hz2⟩:=C14;obtain⟨v',w',hr,h2,h3,_,h5⟩:=run_append_own_at (P:=prog) w 0 59 o.type 71 i0 _ 3 32 underlying59 hi0 hz0 hz1 hz2 rfl (by decide) v ns.length (GH ns) hown.row ⟨q,0,FZ⟩ 1 1 (A86 t) rfl (Q8 hnews) (Lay.one t) (by simp only[maxLen];omega) hl (AY _);have h2':H7 w' 0 v' (ns++[t]):=H7.L9 (by rw[AO,J8];exact h2);obtain⟨a',c',rfl,_⟩:=h2'.slice;have hlen:(ns++[t]).length=ns.length+1:=by simp
 rw[hlen]at h2' hr h5;unfold Oper.wp execOp;simp only[ho,resolve,invoke,builtin,DY,EN,EC,List.map_toArray,List.map_cons,List.map_nil,hs,hx,hr];exact h a' c' w' h2' h3 h5
theorem BS7(h:sG x≠0):YK ws x=sG x/\nY ws x=[]:=by
 have e:YK ws x=sG x:=by rw[YK,if_pos h]
 exact⟨e,by rw[nY,e,if_pos h]⟩
theorem BS8(h:sG x=0)(hh:wK ws x=true):YK ws x=0/\nY ws x=ws:=by
 have e:YK ws x=0:=by rw[YK,if_neg (by simp[h]),if_pos hh]
 exact⟨e,by rw[nY,e,if_neg (by simp),if_pos hh]⟩
theorem BA4(h:sG x=0)(hh:wK ws x=false)(hf:400<=ws.length):YK ws x=6/\nY ws x=[]:=by
 have e:YK ws x=6:=by rw[YK,if_neg (by simp[h]),if_neg (by simp[hh]),if_pos hf]
 exact⟨e,by rw[nY,e,if_pos (by decide)]⟩
theorem BS9(h:sG x=0)(hh:wK ws x=false)(hf:¬400<=ws.length):YK ws x=0/\nY ws x=ws++[x]:=by
 have e:YK ws x=0:=by rw[YK,if_neg (by simp[h]),if_neg (by simp[hh]),if_neg hf]
 exact⟨e,by rw[nY,e,if_neg (by simp),if_neg (by simp[hh])]⟩
theorem CC6{w:FV}{ws:List Wa}{x:Wa}(g3:Nat)(w4 w5:FV)(a5:Option Addr)(c5:Nat)(hg:w.heap.size<=g3)(hb:B0 w w4)(ho:H7 w5 0 (FT a5 (ws.length+1) c5) (ws++[x]))(hg5:(w4.alloc (FU #[I0 x.s,I0 x.k,S0 x.p] 71)).grownBy w5 (Value.slice (G5 ⟨g3,0,FZ⟩) ws.length (ws.length+1)).ownBlock)
  (hl:(Value.slice a5 (ws.length+1) c5).ownBlock=(Value.slice (G5 ⟨g3,0,FZ⟩) ws.length (ws.length+1)).ownBlock\/(Value.slice a5 (ws.length+1) c5).ownBlock=G5 (w4.alloc (FU #[I0 x.s,I0 x.k,S0 x.p] 71)).heap.size):
  H7 w5 w.heap.size (FT a5 (ws.length+1) c5) (ws++[x])/\B0 w w5:=by
 have hB:=G9 hb (G8 w4 (FU #[I0 x.s,I0 x.k,S0 x.p] 71));refine⟨jR ho (fun j hj=>?_),hB.grown hg5 hB.size (fun j hj=>by cases hj;exact hg)⟩;rcases hl with h|h
 .rw[h]at hj;cases hj;exact hg
 .rw[h]at hj;cases hj;exact hB.size
theorem CC7(v:FW)(ws:List Wa)(x:Wa)(w:FV)(hv:IE w v ws)(hs:lN ws)(hx:x.p.length<=140737488355328)(hl:ws.length*32<=140737488351232):
  FX prog 56 #[v,waV x] w fun r w'=>∃vl,r=.returned (.tuple #[vl,I0 (YK ws x)])/\H7 w' w.heap.size vl (nY ws x)/\B0 w w':=by
 have CA:=fun W=>BO0 x W;have CC:=G7 (fun W (hW:B0 w W)=>YZ v ws W (hv.next hW) hs hl);have CK:=G7 (fun W (hW:B0 w W)=>BN9 v ws x W (hv.next hW) (by omega));have CO:=fun W=>AA5 x W hx;obtain⟨va,vc,rfl⟩:=GL hv;have HBX:Hid (∀W,Below (w.heap.size+1) (w.alloc (FU #[I0 x.s,I0 x.k,S0 x.p] 71)) W->(W.cell? ⟨w.heap.size,0,FZ⟩=G5 (I0 x.s)/\W.cell? ⟨w.heap.size,1,FZ⟩=G5 (I0 x.k)/\W.cell? ⟨w.heap.size,2,FZ⟩=G5 (S0 x.p))/\B0 w W/\w.heap.size<W.heap.size):=G7 (fun W h=>⟨CK8 h,(G8 _ _).trans (h.mono (Nat.le_succ _)),by have:=h.size;simp at this;omega⟩);clear hv hs hx;unfold waV at CA CK CO;unfold waV;by_cases ha:sG x=0
 .rw[ha]at CA
  cases hh:wK ws x
  .rw[hh]at CK;by_cases hf:400<=ws.length
   .obtain⟨e1,e2⟩:=BA4 ha hh hf;rw[e1,e2];have hfi:(400:Int)<=(ws.length:Int):=by omega
    clear ha hh e1 e2;go_enter func56,ntmps56;go_wp2_with fail;refine(CA _).mono ?_;rintro e w1 ⟨rfl,hb1⟩;rw[show (w.alloc (FU #[I0 x.s,I0 x.k,S0 x.p] 71)).heap.size=w.heap.size+1 by simp]at hb1;obtain⟨⟨c0,c1,c2⟩,hB1,hz1⟩:=G6 HBX w1 hb1;have HB1:=G7 hB1;clear hb1 hB1;go_wp2_with fail;refine(G6 CK w1 (G6 HB1)).mono ?_;rintro e w2 ⟨rfl,hb2⟩;have HB2:=G7 (G9 (G6 HB1) hb2);clear hb2;go_wp2_with fail
    go_ret2
    exact⟨_,rfl,.inl ⟨rfl,rfl⟩,G6 HB2⟩
   .obtain⟨e1,e2⟩:=BS9 ha hh hf;rw[e1,e2];have hfi:¬ ((400:Int)<=(ws.length:Int)):=by omega
    have hfd:decide ((400:Int)<=(ws.length:Int))=false:=by simp;omega
    clear ha hh e1 e2;go_enter func56,ntmps56;go_wp2_with fail;refine(CA _).mono ?_;rintro e w1 ⟨rfl,hb1⟩;rw[show (w.alloc (FU #[I0 x.s,I0 x.k,S0 x.p] 71)).heap.size=w.heap.size+1 by simp]at hb1;obtain⟨⟨c0,c1,c2⟩,hB1,hz1⟩:=G6 HBX w1 hb1;have HB1:=G7 hB1;have HC1:=G7 hb1;clear hb1 hB1;go_wp2_with fail;refine(G6 CK w1 (G6 HB1)).mono ?_;rintro e w2 ⟨rfl,hb2⟩;have hC2:=(G6 HC1).trans (hb2.mono (by omega));obtain⟨⟨m0,m1,m2⟩,hB2,hz2⟩:=G6 HBX w2 hC2;have HB2:=G7 hB2;have HC2:=G7 hC2;have K1:Hid (∀w3,B0 w2 w3->(w3.cell? ⟨w.heap.size,0,FZ⟩=G5 (I0 x.s)/\w3.cell? ⟨w.heap.size,1,FZ⟩=G5 (I0 x.k)/\w3.cell? ⟨w.heap.size,2,FZ⟩=G5 (S0 x.p))/\B0 w w3):=G7 (fun w3 hb3=>by
     obtain⟨h1,h2,_⟩:=G6 HBX w3 ((G6 HC2).trans (hb3.mono (by omega)));exact⟨h1,h2⟩)
    have CC2:=G7 (fun W (hW:B0 w2 W)=>G6 CC W (G9 (G6 HB2) hW));have hBs:=(G6 HB2).size;have HK5:=G7 (@CC6 w ws x);clear hb2 hB2 hC2 c0 c1 c2;go_wp2_with fail
    go_region_law (first
     |(refine A50 (by kernel_rfl) _ _ (by rfl) (FT (G5 ⟨g3,0,FZ⟩) ws.length (ws.length+1)) ws (by rfl) (G6 HO4) w4.heap.size (by rfl) x (AA6 w4 x) (by omega) ?_;intro a5 c5 w5 ho5 hg5 hl5;obtain⟨o5,b5⟩:=G6 HK5 g3 w4 w5 a5 c5 hg3 (G6 HB4) ho5 hg5 hl5;have HO5:=G7 o5;have HB5:=G7 b5;clear o5 b5;clear ho5 hg5 hl5)
     |(go_simp;refine(G6 CC2 _ (by first|exact AA _ _|exact(AA _ _).drew)).mono ?_;rintro e w3 ⟨g3,rfl,hg3',ho3,hb3⟩;have hg3:w.heap.size<=g3:=Nat.le_trans hBs hg3';have HB23:Hid (B0 w2 w3):=(by first|exact hb3|exact I9 hb3);obtain⟨⟨p0,p1,p2⟩,hB3⟩:=G6 K1 w3 (G6 HB23);have HB3:=G7 hB3;have HO3:=G7 ho3;clear hb3 hB3 ho3 hg3')
     |(go_simp;refine(CO _).mono ?_;rintro e w4 ⟨rfl,hb4⟩;have HB4:=G7 (G9 (G6 HB3) hb4);have HO4:Hid (H7 (w4.alloc (FU #[I0 x.s,I0 x.k,S0 x.p] 71)) 0 (FT (G5 ⟨g3,0,FZ⟩) ws.length (ws.length+1)) ws):=G7 (.inr ⟨g3,_,rfl,AY _,((G6 HO3).next hb4).next (G8 _ _)⟩);clear hb4))
    all_goals go_wp2_with fail
    all_goals go_ret2
    all_goals exact⟨_,rfl,G6 HO5,G6 HB5⟩
  .rw[hh]at CK;obtain⟨e1,e2⟩:=BS8 ha hh;rw[e1,e2];clear ha hh e1 e2;go_enter func56,ntmps56;go_wp2_with fail;refine(CA _).mono ?_;rintro e w1 ⟨rfl,hb1⟩;rw[show (w.alloc (FU #[I0 x.s,I0 x.k,S0 x.p] 71)).heap.size=w.heap.size+1 by simp]at hb1;obtain⟨⟨c0,c1,c2⟩,hB1,hz1⟩:=G6 HBX w1 hb1;have HB1:=G7 hB1;clear hb1 hB1;go_wp2_with fail;refine(G6 CK w1 (G6 HB1)).mono ?_;rintro e w2 ⟨rfl,hb2⟩;have HB2:=G7 (G9 (G6 HB1) hb2);clear hb2;go_wp2_with fail;refine(G6 CC w2 (G6 HB2)).mono ?_;rintro e w3 ⟨g,rfl,hg,ho,hb3⟩;have HB3:=G7 (G9 (G6 HB2) hb3);have hBs:=(G6 HB2).size;clear hb3;go_wp2_with fail
   go_ret2
   exact⟨_,rfl,.inr ⟨g,_,rfl,by omega,ho⟩,G6 HB3⟩
 .obtain⟨e1,e2⟩:=BS7 (ws:=ws) ha;rw[e1,e2];generalize sG x=r at CA ha⊢;have hrb:(r==0)=false:=by simpa using ha
  clear e1 e2;go_enter func56,ntmps56;go_wp2_with fail;refine(CA _).mono ?_;rintro e w1 ⟨rfl,hb1⟩;have HB1:=G7 (GY hb1);clear hb1;go_wp2_with fail
  go_ret2
  exact⟨_,rfl,.inl ⟨rfl,rfl⟩,G6 HB1⟩
