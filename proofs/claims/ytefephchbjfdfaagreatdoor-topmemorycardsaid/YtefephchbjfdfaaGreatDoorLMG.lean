/-
  Part.
-/
import Derived.Test.YtefephchbjfdfaaGreatDoorLMD
import Derived.Deep.RegionHeld3
import Derived.Lib.AppendZerosOnto
import Derived.Laws.AppendOwnNone
set_option maxRecDepth 20000
set_option maxHeartbeats 8000000
namespace Go.Proofs.YtefephchbjfdfaaGreatDoor
open Go.RowKit Go.Proofs.Tryz
open _root_.Nat renaming le_refl->AA,lt_of_lt_of_le->AY,zero_le->AZ,zero_add->BK,add_assoc->EM
open Go.RowKit.Below renaming refl->AB
open _root_.Array renaming getElem?_eq_some_iff->AL
open _root_.List renaming getElem?_eq_getElem->AO,length_append->AP,getElem?_eq_some_iff->AV,mem_of_getElem?->BA,take_of_length_le->BO,mem_cons->BR,append_assoc->BZ,append_nil->DV,take_length->DX,filter_append->F6
open Go.Value.slice renaming injEq->AQ
open Go.Value renaming ownBlock->DK,slice->FV
open Go.Sem renaming run_bind->EG,run_pure->ER
open Go.Result renaming andThen_ok->EH
open Go.Region renaming wanted->FP
open _root_.Option renaming map_eq_some_iff->FQ,none->G6,some->G8
open Go.Obj renaming cells->FW
open Go renaming World->FX,Value->FZ,Calls->G5
variable{w W:FX}{b off i g cap B q:Nat}{xs ws:List Wa}{x:Wa}{α:Type}{pr:Wa->Bool}
def A97(w:Wa):List FZ:=[I0 w.s,I0 w.k,S0 w.p]
def A01(n:Nt):List FZ:=[I0 n.s,I0 n.k,S0 n.p]
def waV(w:Wa):FZ:=.agg #[I0 w.s,I0 w.k,S0 w.p]
instance layW:Lay Wa:=⟨3,A97,65,fun _=>rfl,fun x u hu=>by simp[A97]at hu;rcases hu with rfl|rfl|rfl<;>rfl⟩
instance layT:Lay Nt:=⟨3,A01,42,fun _=>rfl,fun x u hu=>by simp[A01]at hu;rcases hu with rfl|rfl|rfl<;>rfl⟩
theorem II.w0(h:II w b off (GL xs))(hi:xs[i]?=G8 x):w.cell? ⟨b,off+i*3,G6⟩=G8 (I0 x.s):=
 h (i*3) _ (GZ xs i x hi 0 (by decide))
theorem II.w1(h:II w b off (GL xs))(hi:xs[i]?=G8 x):w.cell? ⟨b,off+i*3+1,G6⟩=G8 (I0 x.k):=by
 rw[EM];exact h (i*3+1) _ (GZ xs i x hi 1 (by decide))
theorem II.w2(h:II w b off (GL xs))(hi:xs[i]?=G8 x):w.cell? ⟨b,off+i*3+2,G6⟩=G8 (S0 x.p):=by
 rw[EM];exact h (i*3+2) _ (GZ xs i x hi 2 (by decide))
theorem II.t0{xs:List Nt}(h:II w b off (GL xs)){x:Nt}(hi:xs[i]?=G8 x):w.cell? ⟨b,off+i*3,G6⟩=G8 (I0 x.s):=
 h (i*3) _ (GZ xs i x hi 0 (by decide))
theorem II.t1{xs:List Nt}(h:II w b off (GL xs)){x:Nt}(hi:xs[i]?=G8 x):w.cell? ⟨b,off+i*3+1,G6⟩=G8 (I0 x.k):=by
 rw[EM];exact h (i*3+1) _ (GZ xs i x hi 1 (by decide))
theorem II.t2{xs:List Nt}(h:II w b off (GL xs)){x:Nt}(hi:xs[i]?=G8 x):w.cell? ⟨b,off+i*3+2,G6⟩=G8 (S0 x.p):=by
 rw[EM];exact h (i*3+2) _ (GZ xs i x hi 2 (by decide))
theorem CH8:(prog.info? 65).map (fun i=>(i.zero,i.size,i.bytes))=G8 (G8 (.agg #[I0 0,I0 0,.string ⟨#[]⟩]),3,32):=by kernel_rfl
theorem C25:∃i0,prog.info? 65=G8 i0/\i0.zero=G8 (.agg #[I0 0,I0 0,.string ⟨#[]⟩])/\i0.size=3/\i0.bytes=32:=by
 obtain⟨i0,h,e⟩:=FQ.1 CH8;simp only[Prod.mk.injEq]at e;exact⟨i0,h,e⟩
theorem CH9:(prog.info? 42).map (fun i=>(i.zero,i.size,i.bytes))=G8 (G8 (.agg #[I0 0,I0 0,.string ⟨#[]⟩]),3,32):=by kernel_rfl
theorem AJ1:∃i0,prog.info? 42=G8 i0/\i0.zero=G8 (.agg #[I0 0,I0 0,.string ⟨#[]⟩])/\i0.size=3/\i0.bytes=32:=by
 obtain⟨i0,h,e⟩:=FQ.1 CH9;simp only[Prod.mk.injEq]at e;exact⟨i0,h,e⟩
def mP(ws:List Wa):Prop:=∀x∈ws,x.p.length<=140737488355328
def BX0(es:List Ev):Prop:=∀x∈es,x.p.length<=140737488355328
theorem B29[Lay α]{xs:List α}(h:JD W g cap xs)(B:Nat)(hB:B<=g):W.ownsRow B (Lay.ty α) (Lay.k α) (FV (G8 ⟨g,0,G6⟩) xs.length cap) xs.length (GL xs):=
 I5.row (.inr ⟨g,cap,rfl,hB,h⟩)
theorem B30[Lay α]{n:Nat}{xs:List α}(h:W.ownsRow B (Lay.ty α) (Lay.k α) (FV (G8 ⟨g,0,G6⟩) n cap) n (GL xs))(hn:n=xs.length):JD W g cap xs:=by
 subst hn;rcases I5.LD h with⟨h1,_⟩|⟨g',cap',h1,_,h2⟩
 .simp at h1
 .simp only[AQ,Option.some.injEq,Addr.mk.injEq,and_true,true_and]at h1;obtain⟨rfl,rfl⟩:=h1;exact h2
theorem PV{xs:List α}{k:Nat}{x:α}(h:xs[k]?=G8 x):xs.take (k+1)=xs.take k++[x]:=by rw[List.take_add_one,h];rfl
theorem AZ3{w':FX}{r:Option Nat}(h:w.grownBy w' r)(B:Nat)(hB:B<=w.heap.size)(hr:∀k,r=G8 k->B<=k):Below B w w':=(AB _ _).grown h hB hr
theorem LQ{w':FX}{r:Option Nat}(h:B0 w w'):w.grownBy w' r:=⟨h.os,h.tape,h.output,h.size,fun k hk _=>h.block k hk⟩
theorem JD.head[Lay α]{A B:List α}(h:JD W g cap (A++B)):JD W g cap A:=by
 obtain⟨rest,h1,h2,h4,h3⟩:=h;refine⟨GL B++rest,by rw[h1,I8,BZ],?_,?_,h3⟩
 .rw[AP,GX B];rw[AP,Nat.add_mul]at h2;omega
 .rw[AP]at h4;omega
theorem oI(s:List UInt8)(w:FX)(hs:s.length<=281474976710656):
  G5 prog 63 #[S0 s] w (R0 w (S0 s)):=by
 have C:=fun W=>stringslite_Clone ⟨s.toArray⟩ W (show (ByteArray.mk s.toArray).size<=_ from hs);go_enter func63,ntmps63;go_wp2_with fail;refine(C _).mono ?_;rintro e w1 ⟨rfl,hb1⟩;go_wp2_with fail;go_ret;exact⟨rfl,hb1⟩
theorem AB6(x:Wa)(w:FX)(hx:x.p.length<=140737488355328):
  G5 prog 90 #[waV x] w (R0 w (waV x)):=by
 obtain⟨s,k,p⟩:=x;unfold waV;have C:=fun W=>oI p W (by simp only at hx;omega);go_enter func90,ntmps90;go_wp2_with fail;refine(C _).mono ?_;rintro e w1 ⟨rfl,hb1⟩;have hB:=H7 (H7 hb1);have c0:w1.cell? ⟨w.heap.size,0,G6⟩=G8 (I0 s):=by rw[hb1.cell (p:=⟨w.heap.size,0,G6⟩) (by simp;omega)];simp
 have c1:w1.cell? ⟨w.heap.size,1,G6⟩=G8 (I0 k):=by rw[hb1.cell (p:=⟨w.heap.size,1,G6⟩) (by simp;omega)];simp
 have c2:w1.cell? ⟨w.heap.size,2,G6⟩=G8 (S0 p):=by rw[hb1.cell (p:=⟨w.heap.size,2,G6⟩) (by simp;omega)];simp
 have f2:w1.frozen? ⟨w.heap.size,2,G6⟩=false:=by rw[hb1.frozen (p:=⟨w.heap.size,2,G6⟩) (by simp;omega)];simp
 have d0:w1.cell? ⟨w.heap.size+1,0,G6⟩=G8 (I0 0):=by rw[hb1.cell (p:=⟨w.heap.size+1,0,G6⟩) (by simp)];simp
 have d1:w1.cell? ⟨w.heap.size+1,1,G6⟩=G8 (I0 0):=by rw[hb1.cell (p:=⟨w.heap.size+1,1,G6⟩) (by simp)];simp
 have d2:w1.cell? ⟨w.heap.size+1,2,G6⟩=G8 (.string ⟨#[]⟩):=by rw[hb1.cell (p:=⟨w.heap.size+1,2,G6⟩) (by simp)];simp
 have g0:w1.frozen? ⟨w.heap.size+1,0,G6⟩=false:=by rw[hb1.frozen (p:=⟨w.heap.size+1,0,G6⟩) (by simp)];simp
 have g1:w1.frozen? ⟨w.heap.size+1,1,G6⟩=false:=by rw[hb1.frozen (p:=⟨w.heap.size+1,1,G6⟩) (by simp)];simp
 have g2:w1.frozen? ⟨w.heap.size+1,2,G6⟩=false:=by rw[hb1.frozen (p:=⟨w.heap.size+1,2,G6⟩) (by simp)];simp
 have s2:w1.setCell ⟨w.heap.size,2,G6⟩ (S0 p)=w1:=IE c2;clear hb1 C;go_wp2_with fail;refine bodyPost_ret (v:=.agg #[I0 s,I0 k,S0 p]) (by simp[results,results90,go_sem,d0,d1,d2]) rfl ⟨rfl,?_⟩;exact((hB.setCell (by simp) _).setCell (by simp) _).setCell (by simp) _
theorem AB7(w:FX)(x:Wa):JU (w.alloc (FW #[I0 x.s,I0 x.k,S0 x.p] 65)) w.heap.size x:=heap_alloc_new w _
theorem ZP(v:FZ)(ws:List Wa)(w:FX)(hv:IV w v ws)(hs:mP ws)(hl:ws.length*32<=140737488351232):
  G5 prog 89 #[v] w fun e w'=>∃g,e=.returned (FV (G8 ⟨g,0,G6⟩) ws.length (ws.length+1))/\w.heap.size<=g/\JD w' g (ws.length+1) ws/\B0 w w':=by
 have KR:∀W,B0 w W->∀k x,ws[k]?=G8 x->∃b off cap,v=FV (G8 ⟨b,off,G6⟩) ws.length cap/\b<w.heap.size/\II W b off (GL ws):=fun W hW k x hx=>by
  obtain⟨b,off,cap,e,hb,hr,_,_⟩:=N8 hv (fun h0=>by obtain⟨h1,_⟩:=AV.1 hx;rw[h0]at h1;simp at h1);exact⟨b,off,cap,e,hb,hr.kept hW hb⟩
 have HKR:=GH KR;have HS:=GH hs;obtain⟨va,vc,rfl⟩:=GU hv;obtain⟨i0,hi0,hz0,hz1,hz2⟩:=C25;clear hv hs KR;go_enter func89,ntmps89;go_wp2_with (at_make;refine wpList_make_own _ rfl _ _ 53 rfl w.heap.size 65 i0 _ 3 underlying53 hi0 hz0 hz1 .i64 .i64 _ (ws.length+1) rfl rfl (by omega) ?m1 ?m2 (AA _) ?_)
 case m1=>rw[hz2];omega
 case m2=>simp only[maxLen];omega
 intro w0 ho0 hg0;have HO:Hid (JD w0 w.heap.size (ws.length+1) (ws.take 0)):=GH (B30 (α:=Wa) (xs:=ws.take 0) ho0 rfl);have HB:Hid (B0 w w0):=GH (AZ3 hg0 _ (AA _) (by simp));clear ho0 hg0;go_wp2_with fail
 go_loopg [3,12] ws.length (fun kx s3 s12 wr=>∃k:Nat,s12=I0 k/\s3=FV (G8 ⟨w.heap.size,0,G6⟩) k (ws.length+1)/\k<=ws.length/\ws.length-k<=kx/\Hid (JD wr w.heap.size (ws.length+1) (ws.take k))/\Hid (B0 w wr))
 case atStart=>exact⟨0,rfl,rfl,AZ _,AA _,HO,HB⟩
 case round=>
  obtain⟨k,rfl,rfl,hk,hg,hO,hB⟩:=hrel;by_cases hlt:k<ws.length
  .obtain⟨x,hx⟩:∃x,ws[k]?=G8 x:=⟨_,AO hlt⟩;obtain⟨b,off,cap,he,hb,q⟩:=G9 HKR wr (G9 hB) k x hx;simp only[AQ]at he;obtain⟨rfl,_,rfl⟩:=he;have d0:=q.w0 hx;have d1:=q.w1 hx;have d2:=q.w2 hx;have hbw:b<wr.heap.size:=AY hb (G9 hB).size;have hgl:=(G9 hO).lt;have CX:=fun W=>AB6 x W (G9 HS x (BA hx));unfold waV at CX;have HT1:=GH (PV hx);have hlk:(ws.take k).length=k:=by simp;omega
   clear q hx;go_wp2_with fail;refine(CX _).mono ?_;rintro e w1 ⟨rfl,hb1⟩;have hb2:=H7 hb1;have HO1:=GH (((G9 hO).next hb2).next (GI w1 (FW #[I0 x.s,I0 x.k,S0 x.p] 65)));have HB1:=GH (GK (G9 hB) (GK hb2 (GI w1 (FW #[I0 x.s,I0 x.k,S0 x.p] 65))));clear CX hb1 hb2;go_wp2_with (at_builtin;refine wpList_append_fits _ rfl _ _ 53 rfl w.heap.size 65 i0 3 underlying53 hi0 hz1 w.heap.size k (ws.length+1) (GL (ws.take k)) rfl ?a1 ⟨w1.heap.size,0,G6⟩ 1 1 (A97 x) rfl rfl ?a2 (Lay.one x) (by omega) ?_)
   case a1=>
    have:=B29 (G9 HO1) w.heap.size (AA _);rw[hlk]at this;exact this
   case a2=>exact RZ (AB7 w1 x)
   intro w2 ho2 hg2;have HO2:Hid (JD w2 w.heap.size (ws.length+1) (ws.take (k+1))):=GH (by
    rw[G9 HT1];refine B30 (α:=Wa) (B:=w.heap.size) (n:=k+1) ?_ (by simp;omega);rw[JJ];exact ho2)
   have HB2:Hid (B0 w w2):=GH ((G9 HB1).grown hg2 (G9 HB1).size (by intro k hk;cases hk;exact AA _));clear ho2 hg2;go_wp2_with fail
   go_roundg (ws.length-(k+1))
   case measure=>omega
   case rel=>exact⟨k+1,rfl,rfl,by omega,AA _,HO2,HB2⟩
  .obtain rfl:k=ws.length:=by omega
   rw[DX]at hO;go_wp2_with fail;go_ret;exact⟨_,rfl,AA _,G9 hO,G9 hB⟩
theorem TI{a b:Bool}(h:a=b):Ending.returned (.bool a)=.returned (.bool b):=by rw[h]
theorem AM4(x:Wa)(e:Ev)(w:FX):
  G5 prog 169 #[waV x,evV e] w fun r w'=>r=.returned (.bool (yU x e))/\B0 w w':=by
 obtain⟨s,k,p⟩:=x;obtain⟨ek,ep⟩:=e;have HB:=GH (GK (GI w (FW #[I0 s,I0 k,S0 p] 65)) (GI _ (FW #[I0 ek,S0 ep] 40)));have HO:=GH (show ∀r:Bool,r=(decide (p=ep)&&(if k=2 then decide (ek=4)||decide (ek=2)else decide (ek=1)||decide (ek=2)||decide (ek=3)))->r=yU ⟨s,k,p⟩ ⟨ek,ep⟩from fun r h=>h);unfold waV evV;simp only;by_cases hp:p=ep
 .have hpb:(p==ep)=true:=by simpa using hp
  have HP:=GH hp;clear hp;by_cases hk:k=2
  .subst hk;by_cases h4:ek=4
   .subst h4;go_enter func169,ntmps169;go_wp2_with fail;go_ret;exact⟨TI (G9 HO _ (by simp[G9 HP])),G9 HB⟩
   .go_enter func169,ntmps169;go_wp2_with fail;go_ret;exact⟨TI (G9 HO _ (by by_cases h:ek=2<;>simp[G9 HP,h,h4])),G9 HB⟩
  .by_cases h1:ek=1
   .subst h1;go_enter func169,ntmps169;go_wp2_with fail;go_ret;exact⟨TI (G9 HO _ (by simp[G9 HP,hk])),G9 HB⟩
   .by_cases h2:ek=2
    .subst h2;go_enter func169,ntmps169;go_wp2_with fail;go_ret;exact⟨TI (G9 HO _ (by simp[G9 HP,hk])),G9 HB⟩
    .go_enter func169,ntmps169;go_wp2_with fail;go_ret;exact⟨TI (G9 HO _ (by by_cases h:ek=3<;>simp[G9 HP,hk,h,h1,h2])),G9 HB⟩
 .have hpb:(p==ep)=false:=by simpa using hp
  go_enter func169,ntmps169;go_wp2_with fail;go_ret;exact⟨TI (G9 HO _ (by simp[hp])),G9 HB⟩
theorem wY(x:Wa)(e:Ev)(B:Nat)(w:FX)(h:JU w B e):
  G5 prog 168 #[waV x,P0 B] w fun r w'=>r=.returned (.bool (yU x e))/\B0 w w':=by
 have C:=fun W=>AM4 x e W;have hB:B<w.heap.size:=(AL.1 h).1;have c0:w.cell? ⟨B,0,G6⟩=G8 (I0 e.k):=by simpa using h.row 0 _ rfl
 have c1:w.cell? ⟨B,1,G6⟩=G8 (S0 e.p):=by simpa using h.row 1 _ rfl
 clear h;unfold waV evV at C;unfold waV;generalize yU x e=r at C⊢;have hne:B≠w.heap.size:=by omega
 go_enter func168,ntmps168;go_wp2_with fail;refine(C _).mono ?_;rintro e w1 ⟨rfl,hb1⟩;have hB1:=H7 hb1;clear C hb1;go_wp2_with fail;go_ret;exact⟨rfl,hB1⟩
theorem B31(x:Wa)(s:Int)(B:Nat)(w:FX)(h:w.cell? ⟨B,0,G6⟩=G8 (I0 s))(hB:B<w.heap.size):
  G5 prog 172 #[waV x,P0 B] w fun r w'=>r=.returned (.bool (decide (x.s=s)))/\B0 w w':=by
 obtain⟨xs,xk,xp⟩:=x;unfold waV;have hne:B≠w.heap.size:=by omega
 go_enter func172,ntmps172;go_wp2_with fail;go_ret;exact⟨rfl,GI _ _⟩
def Z4(m:Nat):List FZ:=(Builtin.zeroCells (Value.agg #[I0 0,I0 0,.string ⟨#[]⟩]).cells m).toList
theorem VN(m:Nat):(Z4 m).length=m*3:=by
 rw[Z4,Array.length_toList,size_zeroCells];rfl
theorem AM5(m:Nat):∀u∈Z4 m,u.oneCell'=true:=by
 intro u hu;simp only[Z4,Builtin.zeroCells,Value.cells,Array.toList_map,List.mem_map]at hu;obtain⟨i,_,rfl⟩:=hu;have:i%3<3:=Nat.mod_lt _ (by decide);show (#[I0 0,I0 0,.string ⟨#[]⟩][i%3]!).oneCell'=true;rcases(show i%3=0\/i%3=1\/i%3=2 by omega)with e|e|e<;>rw[e]<;>rfl
theorem AM6(w:FX)(ty:TypeId)(b o m c:Nat)(hm:0<m)(hc:∀j,j<m*3->(w.cell? ⟨b,o+j,G6⟩).isSome=true)(hf:∀j,j<m*3->w.frozen? ⟨b,o+j,G6⟩=false):
  (Builtin.clear_ #[53] ty #[FV (G8 ⟨b,o,G6⟩) m c]).run prog w=.ok (.tuple #[]) (w.setCells b o (Z4 m)):=by
 have hst:=run_storeCells_cells (P:=prog) b o (Z4 m) 0 w (by rw[VN];simpa using hc) (by rw[VN];simpa using hf) (AM5 m);simp only[Nat.add_zero]at hst;obtain⟨k,rfl⟩:∃k,m=k+1:=⟨m-1,by omega⟩;simp[Builtin.clear_,run_underlying underlying53];exact(by
  have:=hst;unfold Z4 at this⊢;rw[this];rfl)
structure CJ9(g:FuncId)(B:Nat)(q:Nat)(pr:Wa->Bool)(I:FX->Prop):Prop where
 two:g=168\/g=172
 keep:∀W V,I W->W.grownBy V (G8 q)->I V
 gives:∀W x,I W->G5 prog g #[.agg #[I0 x.s,I0 x.k,S0 x.p],P0 B] W fun r w'=>r=.returned (.bool (pr x))/\B0 W w'
theorem C47{g:FuncId}{B q:Nat}{pr:Wa->Bool}{I:FX->Prop}(C:CJ9 g B q pr I)(b off cap:Nat)(A:List Wa)(x:Wa)(R:List Wa)(w:FX)(hi:I w)(hb:b<w.heap.size)(hr:II w b off (GL (A++x::R)))(hl:(A++x::R).length<=140737488355328)
  (hA:∀a∈A,pr a=false) (hx:pr x=true):
  G5 prog 202 #[FV (G8 ⟨b,off,G6⟩) (A++x::R).length cap,.func (.func g) #[] #[P0 B]] w (R0 w (I0 A.length)):=by
 have HR:=GH (fun W (hW:B0 w W)=>hr.kept hW hb);have HC:=GH C;have HI:=GH (fun W (hW:B0 w W)=>C.keep w W hi (LQ hW));have HX:=GH hx;have HA:=GH hA;have hAn:A.length<(A++x::R).length:=by simp
 obtain⟨n,hn⟩:∃n,(A++x::R).length=n:=⟨_,rfl⟩;rw[hn]at hl hAn⊢;have HN:=GH hn;have two:=C.two;clear hr C hi hx hA hn;rcases two with rfl|rfl
 all_goals
  go_enter func202,ntmps202;go_wp2_with fail
  go_loopg [8] n (fun kx s8 wr=>∃k:Nat,s8=I0 k/\k<=A.length/\n-k<=kx/\Hid (B0 w wr))
  case atStart=>exact⟨0,rfl,AZ _,AA _,GH (AB _ _)⟩
  case round=>
   obtain⟨k,rfl,hk,hg,hB⟩:=hrel;have hlt:k<n:=by omega
   obtain⟨y,hy⟩:∃y,(A++x::R)[k]?=G8 y:=⟨_,AO (by rw[G9 HN];exact hlt)⟩;have qr:=G9 HR wr (G9 hB);have d0:=qr.w0 hy;have d1:=qr.w1 hy;have d2:=qr.w2 hy;have hbw:b<wr.heap.size:=AY hb (G9 hB).size;have CX:=(G9 HC).gives wr y (G9 HI wr (G9 hB));by_cases hka:k<A.length
   .have hp:pr y=false:=G9 HA y (by
     rw[List.getElem?_append_left hka]at hy;exact BA hy)
    rw[hp]at CX;clear qr hy hp;go_wp2_with fail;refine CX.mono ?_;rintro e w1 ⟨rfl,hb1⟩;have hB1:=GK (G9 hB) hb1;clear CX hb1;go_wp2_with fail
    go_roundg (n-(k+1))
    case measure=>omega
    case rel=>exact⟨k+1,rfl,by omega,AA _,GH hB1⟩
   .obtain rfl:k=A.length:=by omega
    have hp:pr y=true:=by
     have:(A++x::R)[A.length]?=G8 x:=by simp
     rw[this]at hy
     cases hy
     exact G9 HX
    rw[hp]at CX;clear qr hy hp;go_wp2_with fail;refine CX.mono ?_;rintro e w1 ⟨rfl,hb1⟩;have hB1:=GK (G9 hB) hb1;clear CX hb1;go_wp2_with fail;go_ret;exact⟨rfl,hB1⟩
theorem B32{g:FuncId}{I:FX->Prop}(C:CJ9 g B q pr I)(v:FZ)(A:List Wa)(w:FX)(hi:I w)(hv:IV w v A)(hl:A.length<=140737488355328)(hA:∀a∈A,pr a=false):
  G5 prog 202 #[v,.func (.func g) #[] #[P0 B]] w (R0 w (I0 (-1))):=by
 have KR:∀W,B0 w W->∀k x,A[k]?=G8 x->∃b off cap,v=FV (G8 ⟨b,off,G6⟩) A.length cap/\b<w.heap.size/\II W b off (GL A):=fun W hW k x hx=>by
  obtain⟨b,off,cap,e,hb,hr,_,_⟩:=N8 hv (fun h0=>by obtain⟨h1,_⟩:=AV.1 hx;rw[h0]at h1;simp at h1);exact⟨b,off,cap,e,hb,hr.kept hW hb⟩
 have HKR:=GH KR;have HC:=GH C;have HI:=GH (fun W (hW:B0 w W)=>C.keep w W hi (LQ hW));have HA:=GH hA;have two:=C.two;obtain⟨va,vc,rfl⟩:=GU hv;clear C hi hA KR hv;rcases two with rfl|rfl
 all_goals
  go_enter func202,ntmps202;go_wp2_with fail
  go_loopg [8] A.length (fun kx s8 wr=>∃k:Nat,s8=I0 k/\k<=A.length/\A.length-k<=kx/\Hid (B0 w wr))
  case atStart=>exact⟨0,rfl,AZ _,AA _,GH (AB _ _)⟩
  case round=>
   obtain⟨k,rfl,hk,hg,hB⟩:=hrel;by_cases hlt:k<A.length
   .obtain⟨y,hy⟩:∃y,A[k]?=G8 y:=⟨_,AO hlt⟩;obtain⟨b,off,cap,he,hb,qr⟩:=G9 HKR wr (G9 hB) k y hy;simp only[AQ]at he;obtain⟨rfl,_,rfl⟩:=he;have d0:=qr.w0 hy;have d1:=qr.w1 hy;have d2:=qr.w2 hy;have hbw:b<wr.heap.size:=AY hb (G9 hB).size;have CX:=(G9 HC).gives wr y (G9 HI wr (G9 hB));have hp:pr y=false:=G9 HA y (BA hy);rw[hp]at CX;clear qr hy hp;go_wp2_with fail;refine CX.mono ?_;rintro e w1 ⟨rfl,hb1⟩;have hB1:=GK (G9 hB) hb1;clear CX hb1;go_wp2_with fail
    go_roundg (A.length-(k+1))
    case measure=>omega
    case rel=>exact⟨k+1,rfl,by omega,AA _,GH hB1⟩
   .obtain rfl:k=A.length:=by omega
    go_wp2_with fail;go_ret;exact⟨rfl,G9 hB⟩
theorem kJ[Lay α]{C:Nat}{v:FZ}{xs:List α}(h:I5 W C v xs)(hB:∀k,v.ownBlock=G8 k->B<=k):I5 W B v xs:=by
 rcases h with h|⟨g,cap,rfl,_,h⟩
 .exact .inl h
 .exact .inr ⟨g,cap,rfl,hB g rfl,h⟩
theorem dZ[Lay α]{v:FZ}{xs:List α}(h:I5 W B v xs):∀k,v.ownBlock=G8 k->B<=k:=by
 rcases h with⟨rfl,_⟩|⟨g,cap,rfl,h1,h⟩
 .intro k hk;cases hk
 .intro k hk;simp only[DK,Option.some.injEq]at hk;omega
theorem BM3(w:FX)(n:Nt):JU (w.alloc (FW #[I0 n.s,I0 n.k,S0 n.p] 42)) w.heap.size n:=heap_alloc_new w _
theorem A27{w:FX}{ops:Array Oper}{o:Oper}{a:Act}{K:Act->FX->Prop}{Q:Exit->Act->FX->Prop}{E:Prop}(hgd:FP o (yielded ops a.tmps)=true)(s x:Operand)
  (ho:o.op=.call {callee:=.builtin .append,args:=#[s,x],argTypes:=#[34,34]})
  (v:FZ) (ns:List Nt) (hs:a.eval s=v) (hown:I5 w 0 v ns)
  (q:Nat) (hx:a.eval x=FV (G8 ⟨q,0,G6⟩) 1 1) (t:Nt) (hnews:JU w q t) (hl:(ns.length+1)*32<=140737488355328)
  (h:∀a' c' w',I5 w' 0 (FV a' (ns.length+1) c') (ns++[t])->w.grownBy w' v.ownBlock->((Value.slice a' (ns.length+1) c').ownBlock=v.ownBlock\/(Value.slice a' (ns.length+1) c').ownBlock=G8 w.heap.size)->K (a.put o.dst (FV a' (ns.length+1) c')) w'):
  if FP o (yielded ops a.tmps)=true then Oper.wp prog o a w K Q else E:=by
 rw[if_pos hgd];obtain⟨i0,hi0,hz0,hz1,hz2⟩:=AJ1;obtain⟨v',w',hr,h2,h3,_,h5⟩:=run_append_own_at (P:=prog) w 0 34 o.type 42 i0 _ 3 32 underlying34 hi0 hz0 hz1 hz2 rfl (by decide) v ns.length (GL ns) hown.row ⟨q,0,G6⟩ 1 1 (A01 t) rfl (RZ hnews) (Lay.one t) (by simp only[maxLen];omega) hl (AZ _);have h2':I5 w' 0 v' (ns++[t]):=I5.LD (by rw[AP,JJ];exact h2);obtain⟨a',c',rfl,_⟩:=h2'.slice;have hlen:(ns++[t]).length=ns.length+1:=by simp
 rw[hlen]at h2' hr h5;unfold Oper.wp execOp;simp only[ho,resolve,invoke,builtin,EG,ER,EH,List.map_toArray,List.map_cons,List.map_nil,hs,hx,hr];exact h a' c' w' h2' h3 h5
theorem B33{k:Nat}{e:Ev}(h:ws[k]?=G8 x):U7 (ws.take (k+1)) e=U7 (ws.take k) e++(if yU x e=true then [AX6 e x]else []):=by
 rw[PV h];simp only[U7,F6,List.map_append]
 cases hx:yU x e<;>simp[hx]
theorem C48(ws:List Wa)(e:Ev)(k:Nat):(U7 (ws.take k) e).length<=k:=by
 have:=qN (ws.take k) e;have h2:(ws.take k).length<=k:=by simp;omega
 omega
theorem BM4(q cap B:Nat)(ws:List Wa)(e:Ev)(w:FX)(hq:q<w.heap.size)(hr:II w q 0 (GL ws))(hE:JU w B e)(hl:ws.length*32<=140737488351232)(hp:e.p.length<=140737488355328):
  G5 prog 170 #[FV (G8 ⟨q,0,G6⟩) ws.length cap,evV e,.func (.func 168) #[] #[P0 B]] w fun r w'=>
   ∃v',r=.returned v'/\I5 w' w.heap.size v' (U7 ws e)/\B0 w w':=by
 obtain⟨w0,hw0⟩:∃w0,w.alloc (FW #[I0 e.k,S0 e.p] 40)=w0:=⟨_,rfl⟩;have hz0:w0.heap.size=w.heap.size+1:=by rw[<-hw0];simp
 have hb0:B0 w w0:=by rw[<-hw0];exact GI _ _
 have X0:JU w0 w.heap.size e:=by rw[<-hw0];exact zY w e.k e.p
 have HR:=GH (fun W (hW:B0 w0 W)=>(hr.kept hb0 hq).kept hW (by omega));have HX:=GH (fun W (hW:B0 w0 W)=>(⟨by simpa using (JU.row ((hW.block _ (by omega)).trans X0) 0 _ rfl),by simpa using (JU.row ((hW.block _ (by omega)).trans X0) 1 _ rfl)⟩:W.cell? ⟨w.heap.size,0,G6⟩=G8 (I0 e.k)/\W.cell? ⟨w.heap.size,1,G6⟩=G8 (S0 e.p)));have CF:=GH (fun W (hW:B0 w0 W) x=>wY x e B W ((hW.block _ (by have:=(AL.1 hE).1;omega)).trans ((hb0.block _ (AL.1 hE).1).trans hE)));have CC:=fun W=>oI e.p W (by omega);have HB0:=GH hb0;clear hr hE X0 hb0;unfold evV;unfold waV at CF;go_enter func170,ntmps170;go_wp2_with fail
 try rw[hw0]
 go_loopg [7,12] ws.length (fun kx s7 s12 wr=>∃ (k:Nat) (va:Option Addr) (vc:Nat),s12=I0 k/\s7=FV va (U7 (ws.take k) e).length vc/\k<=ws.length/\ws.length-k<=kx/\Hid (I5 wr w0.heap.size (FV va (U7 (ws.take k) e).length vc) (U7 (ws.take k) e))/\Hid (B0 w0 wr))
 case atStart=>exact⟨0,G6,0,rfl,rfl,AZ _,AA _,GH (.inl ⟨rfl,rfl⟩),GH (AB _ _)⟩
 case round=>
  obtain⟨k,va,vc,rfl,rfl,hk,hg,hO,hB⟩:=hrel;by_cases hlt:k<ws.length
  .obtain⟨x,hx⟩:∃x,ws[k]?=G8 x:=⟨_,AO hlt⟩;have qr:=G9 HR wr (G9 hB);have d0:=qr.w0 hx;have d1:=qr.w1 hx;have d2:=qr.w2 hx;simp only[BK]at d0 d1 d2;have hqw:q<wr.heap.size:=by have:=(G9 hB).size;omega
   have hts:=B33 (e:=e) hx;have hnl:=C48 ws e k;obtain⟨N,hN⟩:∃N,U7 (ws.take k) e=N:=⟨_,rfl⟩;rw[hN]at hO hts hnl;have hB1:=GK (G9 hB) (GI wr (FW #[I0 x.s,I0 x.k,S0 x.p] 65));have CX:=G9 CF _ hB1 x;have HB1:=GH hB1;rw[hN];clear qr hx hN hB1
   cases hpx:yU x e
   .rw[hpx]at CX hts;simp only[Bool.false_eq_true,if_false,DV]at hts;have HTS:=GH hts;clear hts hpx;go_wp2_with fail;refine CX.mono ?_;rintro r w1 ⟨rfl,hb1⟩;have HB2:=GH (GK (G9 HB1) hb1);have HO2:=GH (((G9 hO).next (GI wr (FW #[I0 x.s,I0 x.k,S0 x.p] 65))).next hb1);clear CX hb1;go_wp2_with fail
    go_roundg (ws.length-(k+1))
    case measure=>omega
    case rel=>exact⟨k+1,va,vc,rfl,by rw[G9 HTS],by omega,AA _,by rw[G9 HTS];exact HO2,HB2⟩
   .rw[hpx]at CX hts;simp only[if_true]at hts;have HTS:=GH hts;clear hts hpx;go_wp2_with fail;refine CX.mono ?_;rintro r w1 ⟨rfl,hb1⟩;have HB2:=GH (GK (G9 HB1) hb1);have O2:=((G9 hO).next (GI wr (FW #[I0 x.s,I0 x.k,S0 x.p] 65))).next hb1;have K1:∀w2,B0 w1 w2->w2.cell? ⟨wr.heap.size,0,G6⟩=G8 (I0 x.s)/\w2.cell? ⟨w.heap.size,0,G6⟩=G8 (I0 e.k)/\w2.cell? ⟨w.heap.size,1,G6⟩=G8 (S0 e.p):=by
     intro w2 hb2;have hbb:=GK (G9 HB2) hb2;refine⟨?_,(G9 HX w2 hbb).1,(G9 HX w2 hbb).2⟩;have hz:wr.heap.size<w1.heap.size:=by have:=hb1.size;simp at this;omega
     rw[hb2.cell (p:=⟨wr.heap.size,0,G6⟩) hz,hb1.cell (p:=⟨wr.heap.size,0,G6⟩) (by simp)];simp
    obtain⟨m0,m1,m2⟩:=K1 w1 (AB _ _);have HK1:=GH K1;have KE:=GH (fun w2 (hb2:B0 w1 w2)=>((O2.next hb2).next (GI w2 (FW #[I0 x.s,I0 e.k,S0 e.p] 42))).lower (AZ w0.heap.size));have KA:=GH (dZ O2);have K2:∀ (w2 w3:FX) (a3:Option Addr) (c3:Nat),B0 w1 w2->I5 w3 0 (FV a3 (N.length+1) c3) (N++[⟨x.s,e.k,e.p⟩])->(w2.alloc (FW #[I0 x.s,I0 e.k,S0 e.p] 42)).grownBy w3 (Value.slice va N.length vc).ownBlock->
      ((Value.slice a3 (N.length+1) c3).ownBlock=(Value.slice va N.length vc).ownBlock\/(Value.slice a3 (N.length+1) c3).ownBlock=G8 (w2.alloc (FW #[I0 x.s,I0 e.k,S0 e.p] 42)).heap.size)->
      I5 w3 w0.heap.size (FV a3 (N.length+1) c3) (N++[⟨x.s,e.k,e.p⟩])/\B0 w0 w3:=by
     intro w2 w3 a3 c3 hb2 ho3 hg3 hl3;have hbb:=GK (GK (G9 HB2) hb2) (GI w2 (FW #[I0 x.s,I0 e.k,S0 e.p] 42));refine⟨kJ ho3 (fun j hj=>?_),hbb.grown hg3 hbb.size (G9 KA)⟩;rcases hl3 with h|h
     .rw[h]at hj;exact G9 KA j hj
     .rw[h]at hj;cases hj;exact hbb.size
    have HK2:=GH K2;have hsz1:wr.heap.size<w1.heap.size:=by have:=hb1.size;simp at this;omega
    have hsz2:w.heap.size<w1.heap.size:=by have:=(G9 HB2).size;omega
    have hNl:(N.length+1)*32<=140737488355328:=by omega
    clear CX hb1 K1 K2 O2;go_wp2_with fail
    go_region_law (first
     |(refine A27 (by kernel_rfl) _ _ (by rfl) (FV va N.length vc) N (by rfl) (G9 KE w2 (G9 HB3)) w2.heap.size (by rfl) ⟨x.s,e.k,e.p⟩ (BM3 w2 ⟨x.s,e.k,e.p⟩) hNl ?_;intro a3 c3 w3 ho3 hg3 hl3;obtain⟨o3,b3⟩:=G9 HK2 w2 w3 a3 c3 (G9 HB3) ho3 hg3 hl3;have HO3:=GH o3;have HB4:=GH b3;clear ho3 hg3 hl3 o3 b3)
     |(go_simp;refine(CC _).mono ?_;rintro r w2 ⟨rfl,hb2⟩;have HB3:Hid (B0 w1 w2):=(by first|exact hb2|exact IG hb2);obtain⟨p0,p1,p2⟩:=G9 HK1 w2 (G9 HB3);clear hb2))
    all_goals
     go_wp2_with fail
     go_roundg (ws.length-(k+1))
     case measure=>omega
     case rel=>exact⟨k+1,_,_,rfl,by rw[G9 HTS,AP];rfl,by omega,AA _,by rw[G9 HTS,AP];exact HO3,HB4⟩
  .obtain rfl:k=ws.length:=by omega
   rw[DX]at hO⊢;have HB:=GH (GK (G9 HB0) (G9 hB));have hO2:Hid (I5 wr w.heap.size (FV va (U7 ws e).length vc) (U7 ws e)):=GH ((G9 hO).lower (by omega));clear hO;go_wp2_with fail;go_ret;exact⟨_,rfl,G9 hO2,G9 HB⟩
theorem AB8(pr:Wa->Bool):∀ws:List Wa,(∀a∈ws,pr a=false)\/∃A x R,ws=A++x::R/\(∀a∈A,pr a=false)/\pr x=true
 |[]=>.inl (by simp)
 |y::r=>by
  cases h:pr y
  .rcases AB8 pr r with h1|⟨A,x,R,rfl,h1,h2⟩
   .exact .inl (by intro a ha;rcases BR.1 ha with rfl|ha;exact h;exact h1 a ha)
   .exact .inr ⟨y::A,x,R,rfl,(by intro a ha;rcases BR.1 ha with rfl|ha;exact h;exact h1 a ha),h2⟩
  .exact .inr ⟨[],y,r,rfl,by simp,h⟩
theorem xA(h:∀a∈ws,pr a=false):ws.filter (fun x=> !pr x)=ws:=by
 rw[List.filter_eq_self];intro a ha;simp[h a ha]
theorem AB9{g:FuncId}{I:FX->Prop}(C:CJ9 g B q pr I)(cap:Nat)(ws:List Wa)(w:FX)(hi:I w)(ho:JD w q cap ws)(hl:ws.length<=140737488355328):
  G5 prog 171 #[FV (G8 ⟨q,0,G6⟩) ws.length cap,.func (.func g) #[] #[P0 B]] w fun e w'=>
   e=.returned (FV (G8 ⟨q,0,G6⟩) (ws.filter (fun x=> !pr x)).length cap)/\JD w' q cap (ws.filter (fun x=> !pr x))/\w.grownBy w' (G8 q):=by
 rcases AB8 pr ws with hA|⟨A,x,R,hws,hA,hx⟩
 .rw[xA hA];have CN:=B32 C _ ws w hi (I5.seq (.inr ⟨q,cap,rfl,AZ _,ho⟩)) hl hA;have HO:=GH ho;have two:=C.two;clear C hA hi ho;rcases two with rfl|rfl
  all_goals
   go_enter func171,ntmps171;go_wp2_with fail;refine CN.mono ?_;rintro e w1 ⟨rfl,hb1⟩;have HB:=GH hb1;clear CN hb1;go_wp2_with fail;go_ret;exact⟨rfl,(G9 HO).next (G9 HB),LQ (G9 HB)⟩
 .obtain⟨n,hn⟩:∃n,ws.length=n:=⟨_,rfl⟩;have hAn:A.length<n:=by rw[<-hn,hws];simp
  have hnc:n<=cap:=by rw[<-hn];exact ho.le
  have hcl:=ho.capLe;simp only[maxLen]at hcl;have CA:=C47 C q 0 cap A x R w hi ho.lt (by rw[<-hws];exact ho.row) (by rw[<-hws];exact hl) hA hx;rw[<-hws,hn]at CA;obtain⟨T,hT⟩:∃T,ws.filter (fun x=> !pr x)=T:=⟨_,rfl⟩;rw[hn]at hl⊢;rw[hT];have HTk:Hid (∀j,n<=j->(ws.take j).filter (fun x=> !pr x)=T):=GH (fun j hj=>by rw[BO (by omega)];exact hT);have HF0:Hid ((ws.take (A.length+1)).filter (fun x=> !pr x)=A):=GH (by
   rw[hws,List.take_append,BO (by omega),F6,xA hA];simp[hx])
  have HG0:Hid (ws=A++[x]++ws.drop (A.length+1)):=GH (by
   rw[hws];simp)
  have HN:=GH hn;have HO:=GH ho;have HC:=GH C;have HI:=GH (fun W (hW:w.grownBy W (G8 q))=>C.keep w W hi hW);have two:=C.two;clear hn hws hA hx ho C hT hi;rcases two with rfl|rfl
  all_goals
   go_enter func171,ntmps171;go_wp2_with fail;refine CA.mono ?_;rintro e w1 ⟨rfl,hb1⟩;have HB:=GH hb1;clear CA hb1;go_wp2_with fail
   go_loopg [5,6] n (fun kx s5 s6 wr=>∃ (j:Nat) (F G:List Wa),s5=I0 F.length/\s6=I0 j/\j<=n/\n-j<=kx/\F.length+G.length=j/\0<G.length/\Hid ((ws.take j).filter (fun x=> !pr x)=F)/\Hid (JD wr q cap (F++G++ws.drop j))/\Hid (w.grownBy wr (G8 q)))
   case atStart=>exact⟨A.length+1,A,[x],rfl,rfl,by omega,by omega,rfl,by simp,HF0,GH (by rw[<-G9 HG0];exact(G9 HO).next (G9 HB)),GH (LQ (G9 HB))⟩
   case round=>
    obtain⟨j,F,G,rfl,rfl,hj,hg,hFG,hG0,hF,hO,hW⟩:=hrel;have hFj:F.length<j:=by omega
    by_cases hlt:j<n
    .obtain⟨y,hy⟩:∃y,ws[j]?=G8 y:=⟨_,AO (by rw[G9 HN];exact hlt)⟩;have hd:ws.drop j=y::ws.drop (j+1):=by
      obtain⟨h1,h2⟩:=AV.1 hy;rw[List.drop_eq_getElem_cons h1,h2]
     have hf:(ws.take (j+1)).filter (fun x=> !pr x)=F++(if pr y=true then []else [y]):=by
      rw[PV hy,F6,G9 hF]
      cases hpy:pr y<;>simp[hpy]
     rw[hd]at hO;have hyr:(F++G++y::ws.drop (j+1))[j]?=G8 y:=by
      rw[List.getElem?_append_right (by simp;omega)];simp[hFG]
     obtain⟨z,G',rfl⟩:∃z G',G=z::G':=by
      cases G with
      |nil=>simp at hG0
      |cons z G'=>exact⟨z,G',rfl⟩
     have hzr:(F++z::G'++y::ws.drop (j+1))[F.length]?=G8 z:=by simp
     have d0:=(G9 hO).row.w0 hyr;have d1:=(G9 hO).row.w1 hyr;have d2:=(G9 hO).row.w2 hyr;have hq:=(G9 hO).lt;have hqn:q≠wr.heap.size:=by omega
     simp only[BK]at d0 d1 d2;have HW1:=GH (IW (G9 hW) (LQ (GI wr (FW #[I0 y.s,I0 y.k,S0 y.p] 65))));have CX:=(G9 HC).gives _ y (G9 HI _ (G9 HW1));have hjn:(j:Int)<(n:Int):=by omega
     by_cases hp:pr y=true
     .rw[hp]at CX hf;rw[if_pos rfl,DV]at hf;have HF:=GH hf;clear hy hd hf hyr hp hzr;go_wp2_with fail;refine CX.mono ?_;rintro e w2 ⟨rfl,hb2⟩;have HO2:Hid (JD w2 q cap (F++(z::G'++[y])++ws.drop (j+1))):=GH (by
       have:=((G9 hO).next (GI wr (FW #[I0 y.s,I0 y.k,S0 y.p] 65))).next hb2;simpa using this)
      have HW2:=GH (IW (G9 HW1) (LQ hb2));clear CX hb2;go_wp2_with fail
      go_roundg (n-(j+1))
      case measure=>omega
      case rel=>exact⟨j+1,F,z::G'++[y],rfl,rfl,by omega,AA _,by simp at hFG⊢;omega,by simp,HF,HO2,HW2⟩
     .have hp':pr y=false:=by simpa using hp
      rw[hp']at CX;rw[if_neg hp]at hf;have HF:=GH hf;clear hy hd hf hyr hp hp';have hFn:(F.length:Int)<(n:Int):=by omega
      go_wp2_with fail;refine CX.mono ?_;rintro e w2 ⟨rfl,hb2⟩;have O2:=((G9 hO).next (GI wr (FW #[I0 y.s,I0 y.k,S0 y.p] 65))).next hb2;have c0:w2.cell? ⟨wr.heap.size,0,G6⟩=G8 (I0 y.s):=by rw[hb2.cell (p:=⟨wr.heap.size,0,G6⟩) (by simp)];simp
      have c1:w2.cell? ⟨wr.heap.size,1,G6⟩=G8 (I0 y.k):=by rw[hb2.cell (p:=⟨wr.heap.size,1,G6⟩) (by simp)];simp
      have c2:w2.cell? ⟨wr.heap.size,2,G6⟩=G8 (S0 y.p):=by rw[hb2.cell (p:=⟨wr.heap.size,2,G6⟩) (by simp)];simp
      have e0:=O2.row.w0 hzr;have e1:=O2.row.w1 hzr;have e2:=O2.row.w2 hzr;simp only[BK]at e0 e1 e2;have f0:=O2.frozen (F.length*3);have f1:=O2.frozen (F.length*3+1);have f2:=O2.frozen (F.length*3+2);have hz2:wr.heap.size<w2.heap.size:=by have:=hb2.size;simp at this;omega
      have HO3:Hid (JD (((w2.setCell ⟨q,F.length*3,G6⟩ (I0 y.s)).setCell ⟨q,F.length*3+1,G6⟩ (I0 y.k)).setCell ⟨q,F.length*3+2,G6⟩ (S0 y.p)) q cap ((F++[y])++(G'++[y])++ws.drop (j+1))):=GH (by
       have O2':JD w2 q cap (F++z::(G'++y::ws.drop (j+1))):=by simpa using O2
       have:=O2'.vK y;have e:F++[y]++(G'++[y])++ws.drop (j+1)=F++y::(G'++y::ws.drop (j+1)):=by simp
       rw[e];exact this)
      have HW3:Hid (w.grownBy (((w2.setCell ⟨q,F.length*3,G6⟩ (I0 y.s)).setCell ⟨q,F.length*3+1,G6⟩ (I0 y.k)).setCell ⟨q,F.length*3+2,G6⟩ (S0 y.p)) (G8 q)):=
       GH (IW (IW (IW (IW (G9 HW1) (LQ hb2)) (QE _)) (QE _)) (QE _))
      clear CX hb2 O2 hzr;go_wp2_with fail
      go_roundg (n-(j+1))
      case measure=>omega
      case rel=>exact⟨j+1,F++[y],G'++[y],by rw[AP];rfl,rfl,by omega,AA _,by simp at hFG⊢;omega,by simp,HF,HO3,HW3⟩
    .obtain rfl:j=n:=by omega
     have hTF:T=F:=((G9 HTk j (AA _)).symm.trans (G9 hF));have OF:JD wr q cap F:=JD.head (B:=G++ws.drop j) (by have:=G9 hO;rwa[BZ]at this);have CS4:∀ty c,(Builtin.clear_ #[53] ty #[FV (G8 ⟨q,F.length*3,G6⟩) (j-F.length) c]).run prog wr=.ok (.tuple #[]) (wr.setCells q (F.length*3) (Z4 (j-F.length))):=fun ty c=>
      AM6 wr ty q _ _ c (by omega) (fun i hi=>OF.some (show F.length*3+i<cap*3 by omega)) (fun i hi=>OF.frozen _)
     have FIN:Hid (JD (wr.setCells q (F.length*3) (Z4 (j-F.length))) q cap F/\w.grownBy (wr.setCells q (F.length*3) (Z4 (j-F.length))) (G8 q)):=
      GH ⟨OF.spare _ _ (AA _) (by rw[VN];show _<=cap*3;omega),IW (G9 hW) (IC _ _ _)⟩
     have hcn:¬ (cap=F.length):=by omega
     have hFc:F.length<=cap:=by omega
     have hFn:F.length<=j:=by omega
     have hjj:¬ ((j:Int)<(j:Int)):=by omega
     clear OF hO hW hF HTk HF0 HG0;subst hTF;go_wp2_with fail;go_ret;exact⟨rfl,(G9 FIN).1,(G9 FIN).2⟩
theorem AM7(ws:List Wa)(es:List Ev)(k:Nat)(e:Ev)(h:es[k]?=G8 e):PI ws (es.take (k+1))=PI ws (es.take k)++U7 (LG ws (es.take k)) e:=by
 rw[PV h,AX7];simp[PI]
theorem AM8(ws:List Wa)(es:List Ev)(k:Nat)(e:Ev)(h:es[k]?=G8 e):LG ws (es.take (k+1))=mJ (LG ws (es.take k)) e:=by
 rw[PV h,AX8];simp[LG]
theorem mV{w:FX}{ops:Array Oper}{rest:List Oper}{o:Oper}{a:Act}{Q:Exit->Act->FX->Prop}(hgd:o.guard=G6)(s x:Operand)
  (ho:o.op=.call {callee:=.builtin .append,args:=#[s,x],argTypes:=#[34,34]})
  (v u:FZ) (ns ms:List Nt) (C:Nat) (hs:a.eval s=v) (hown:I5 w 0 v ns) (hx:a.eval x=u) (hu:I5 w C u ms) (hl:(ns.length+ms.length)*32<=140737488355328)
  (h:∀a' c' w',I5 w' 0 (FV a' (ns.length+ms.length) c') (ns++ms)->w.grownBy w' v.ownBlock->((Value.slice a' (ns.length+ms.length) c').ownBlock=v.ownBlock\/(Value.slice a' (ns.length+ms.length) c').ownBlock=G8 w.heap.size)->wpList prog ops Q rest (a.put o.dst (FV a' (ns.length+ms.length) c')) w'):
  wpList prog ops Q (o::rest) a w:=by
 refine wpList_plain hgd fun K hK=>?_;obtain⟨i0,hi0,hz0,hz1,hz2⟩:=AJ1;rcases hu with⟨rfl,rfl⟩|⟨g,cap,rfl,_,hr⟩
 .obtain⟨a',c',rfl,_⟩:=hown.slice;have hrun:=run_append_owned_none (P:=prog) (w:=w) 0 34 o.type 42 i0 3 underlying34 hi0 _ ns.length (GL ns) hown.row;unfold Oper.wp execOp;simp only[ho,resolve,invoke,builtin,EG,ER,EH,List.map_toArray,List.map_cons,List.map_nil,hs,hx,hrun];exact hK _ _ (h a' c' w (by rw[DV];exact hown) (World.grownBy.refl _ _) (.inl rfl))
 .obtain⟨v',w',hrun,h2,h3,_,h5⟩:=run_append_own_at (P:=prog) w 0 34 o.type 42 i0 _ 3 32 underlying34 hi0 hz0 hz1 hz2 rfl (by decide) v ns.length (GL ns) hown.row ⟨g,0,G6⟩ ms.length cap (GL ms) (GX ms) (fun j y hj=>by rw[Addr.add_lit];exact hr.row j y hj) (JK ms) (by simp only[maxLen];omega) hl (AZ _);have h2':I5 w' 0 v' (ns++ms):=I5.LD (by rw[AP,I8];exact h2);obtain⟨a',c',rfl,_⟩:=h2'.slice;rw[AP]at h2' hrun h5;unfold Oper.wp execOp;simp only[ho,resolve,invoke,builtin,EG,ER,EH,List.map_toArray,List.map_cons,List.map_nil,hs,hx,hrun];exact hK _ _ (h a' c' w' h2' h3 h5)
theorem JU.grown{V:FX}{e:Ev}(h:JU W B e)(hg:W.grownBy V (G8 q))(hne:B≠q):JU V B e:=
 (hg.block B (AL.1 h).1 (by simp[hne])).trans h
theorem AM9(B q:Nat)(e:Ev)(hne:B≠q):CJ9 168 B q (fun x=>yU x e) (fun W=>JU W B e):=
 ⟨.inl rfl,fun _ _ h hg=>h.grown hg hne,fun W x h=>wY x e B W h⟩
theorem BM5(v u:FZ)(ws:List Wa)(es:List Ev)(w:FX)(hv:IV w v ws)(hu:IV w u es)(hs:mP ws)(he:BX0 es)(hl:ws.length*32<=140737488351232)(hle:es.length<=140737488355328):
  G5 prog 123 #[v,u] w fun r w'=>∃vn vl,r=.returned (.tuple #[vn,vl])/\I5 w' w.heap.size vn (PI ws es)/\(∃g,vl=FV (G8 ⟨g,0,G6⟩) (LG ws es).length (ws.length+1)/\w.heap.size<=g/\JD w' g (ws.length+1) (LG ws es))/\B0 w w':=by
 have CC:=ZP v ws w hv hs hl;have KR:∀W,B0 w W->∀k x,es[k]?=G8 x->∃b off cap,u=FV (G8 ⟨b,off,G6⟩) es.length cap/\b<w.heap.size/\II W b off (GL es):=fun W hW k x hx=>by
  obtain⟨b,off,cap,e,hb,hr,_,_⟩:=N8 hu (fun h0=>by obtain⟨h1,_⟩:=AV.1 hx;rw[h0]at h1;simp at h1);exact⟨b,off,cap,e,hb,hr.kept hW hb⟩
 have HKR:=GH KR;have HE:=GH he;obtain⟨va,vc,rfl⟩:=GU hv;obtain⟨ua,uc,rfl⟩:=GU hu;obtain⟨i0,hi0,hz0,hz1,hz2⟩:=AJ1;clear hv hu hs he KR;go_enter func123,ntmps123;go_wp2_with fail;refine CC.mono ?_;rintro r w0 ⟨q,rfl,hq,ho,hb⟩;have HO:Hid (JD w0 q (ws.length+1) ws):=GH ho;have HB:=GH hb;clear CC ho hb;go_wp2_with fail
 go_loopg [6,7,15] es.length (fun kx s6 s7 s15 wr=>∃ (k:Nat) (na:Option Addr) (nc:Nat),s15=I0 k/\s6=FV na (PI ws (es.take k)).length nc/\s7=FV (G8 ⟨q,0,G6⟩) (LG ws (es.take k)).length (ws.length+1)/\k<=es.length/\es.length-k<=kx/\
  Hid (I5 wr w.heap.size (FV na (PI ws (es.take k)).length nc) (PI ws (es.take k)))/\Hid ((Value.slice na (PI ws (es.take k)).length nc).ownBlock≠G8 q)/\Hid (JD wr q (ws.length+1) (LG ws (es.take k)))/\Hid (B0 w wr))
 case atStart=>exact⟨0,G6,0,rfl,rfl,rfl,AZ _,AA _,GH (.inl ⟨rfl,rfl⟩),GH (by simp[DK]),HO,HB⟩
 case round=>
  obtain⟨k,na,nc,rfl,rfl,rfl,hk,hg,hN,hnq,hO,hB⟩:=hrel;by_cases hlt:k<es.length
  .obtain⟨e,hx⟩:∃e,es[k]?=G8 e:=⟨_,AO hlt⟩;obtain⟨b,off,cap,he,hb,qr⟩:=G9 HKR wr (G9 hB) k e hx;simp only[AQ]at he;obtain⟨rfl,_,rfl⟩:=he;have d0:=qr.e0 hx;have d1:=qr.e1 hx;have hep:=G9 HE e (BA hx);have hbw:b<wr.heap.size:=AY hb (G9 hB).size;have HTN:=GH (AM7 ws es k e hx);have HTW:=GH (AM8 ws es k e hx);have hfl:=iE (es.take k) ws;obtain⟨N,hN'⟩:∃N,PI ws (es.take k)=N:=⟨_,rfl⟩;obtain⟨L,hL'⟩:∃L,LG ws (es.take k)=L:=⟨_,rfl⟩;rw[hN']at hN hnq HTN hfl⊢;rw[hL']at hO HTN HTW hfl⊢;have htl:=qN L e;clear qr hx hN' hL';obtain⟨wx,hwx⟩:∃wx,wr.alloc (FW #[I0 e.k,S0 e.p] 40)=wx:=⟨_,rfl⟩;have hbx:B0 wr wx:=by rw[<-hwx];exact GI _ _
   have hzx:wx.heap.size=wr.heap.size+1:=by rw[<-hwx];simp
   have X:JU wx wr.heap.size e:=by rw[<-hwx];exact zY wr e.k e.p
   have hqr:=(G9 hO).lt;have x0:wx.cell? ⟨wr.heap.size,0,G6⟩=G8 (I0 e.k):=by simpa using X.row 0 _ rfl
   have x1:wx.cell? ⟨wr.heap.size,1,G6⟩=G8 (S0 e.p):=by simpa using X.row 1 _ rfl
   have CT:=BM4 q (ws.length+1) wr.heap.size L e wx (by omega) ((G9 hO).next hbx).row X (by omega) hep;unfold evV at CT;have KT:∀w2 v2,I5 w2 wx.heap.size v2 (U7 L e)->B0 wx w2->
     I5 w2 w.heap.size (FV na N.length nc) N/\JD w2 q (ws.length+1) L/\JU w2 wr.heap.size e/\B0 w w2/\(∀j,v2.ownBlock=G8 j->j≠q/\w.heap.size<=j/\j≠wr.heap.size)/\IV w2 v2 (U7 L e):=by
    intro w2 v2 h2 hb2;have hb3:=GK hbx hb2;refine⟨(G9 hN).next hb3,(G9 hO).next hb3,(hb2.block _ (by omega)).trans X,GK (G9 hB) hb3,fun j hj=>?_,h2.seq⟩;have:=dZ h2 j hj;have:=(G9 hB).size;omega
   have HKT:=GH KT;have HXZ:=GH hzx;have hno:(Value.slice na N.length nc).ownBlock≠G8 wr.heap.size:=fun h=>by have:=(G9 hN).low _ h;omega
   have HNO:=GH hno;clear KT X hno;go_wp2_with fail;refine CT.mono ?_;rintro r w2 ⟨v2,rfl,ho2,hb2⟩;obtain⟨n2,o2,x2,b2,k2,s2⟩:=G9 HKT w2 v2 ho2 hb2;have hzz:wr.heap.size<w2.heap.size:=by have:=hb2.size;omega
   have hq2:=o2.lt;have HQ:=GH (show wr.heap.size≠q by omega);have HN2:=GH n2;have HO2:=GH o2;have HX2:=GH x2;have HB2:=GH b2;have HV2:=GH ho2;have hml:(N.length+(U7 L e).length)*32<=140737488355328:=by omega
   have hLl:L.length<=140737488355328:=by omega
   obtain⟨M,hM⟩:∃M,U7 L e=M:=⟨_,rfl⟩;rw[hM]at HV2 hml HTN;have HTL:Hid (∀L',L.filter (fun x=> !yU x e)=L'->LG ws (es.take (k+1))=L'):=GH (fun L' h=>(G9 HTW).trans h);obtain⟨v2a,v2c,rfl,_⟩:=(G9 HV2).slice;clear n2 o2 x2 b2 k2 s2 ho2 hb2 CT hM hfl htl hbx hzx hep HKT x0 x1 hwx;go_wp2_with (at_builtin;refine mV rfl _ _ rfl (FV na N.length nc) (FV v2a M.length v2c) N M wx.heap.size rfl ((G9 HN2).lower (AZ _)) rfl (G9 HV2) hml ?_);intro a3 c3 w3 ho3 hg3 hl3;have hab:=dZ (G9 HN2);have B3:B0 w w3:=(G9 HB2).grown hg3 (G9 HB2).size hab;have N3:I5 w3 w.heap.size (FV a3 (N.length+M.length) c3) (N++M):=kJ ho3 (fun j hj=>by
    rcases hl3 with h|h
    .rw[h]at hj;exact hab j hj
    .rw[h]at hj;cases hj;exact(G9 HB2).size)
   have Q3:(Value.slice a3 (N.length+M.length) c3).ownBlock≠G8 q:=by
    rcases hl3 with h|h
    .rw[h];exact G9 hnq
    .rw[h];intro h';cases h';omega
   have O3:JD w3 q (ws.length+1) L:=by
    obtain⟨rest,h1,h2⟩:=G9 HO2;exact⟨rest,(hg3.block q hq2 (fun h=>G9 hnq h.symm)).trans h1,h2⟩
   have X3:JU w3 wr.heap.size e:=(hg3.block _ hzz (fun h=>G9 HNO h.symm)).trans (G9 HX2);have CD:=AB9 (AM9 wr.heap.size q e (G9 HQ)) (ws.length+1) L w3 X3 O3 hLl;have HB3:=GH B3;have HN3:=GH N3;have HQ3:=GH Q3;obtain⟨L',hL'⟩:∃L',L.filter (fun x=> !yU x e)=L':=⟨_,rfl⟩;have HL':=GH (G9 HTL L' hL');rw[hL']at CD;clear ho3 hg3 hl3 hab B3 N3 Q3 O3 X3 hL';go_wp2_with fail;refine CD.mono ?_;rintro r w4 ⟨rfl,ho4,hg4⟩;have HB4:=GH ((G9 HB3).grown hg4 (G9 HB3).size (fun j hj=>by cases hj;exact hq));have HN4:=GH ((G9 HN3).grown hg4 (fun j hj h=>G9 HQ3 (hj.trans h)));have HO4:=GH ho4;clear CD ho4 hg4;go_wp2_with fail
   go_roundg (es.length-(k+1))
   case measure=>omega
   case rel=>
    refine⟨k+1,a3,c3,rfl,?_,?_,by omega,AA _,?_,?_,?_,HB4⟩
    .rw[G9 HTN,AP]
    .rw[G9 HL']
    .rw[G9 HTN,AP];exact HN4
    .rw[G9 HTN,AP];exact HQ3
    .rw[G9 HL'];exact HO4
  .obtain rfl:k=es.length:=by omega
   rw[DX]at hN hnq hO⊢;go_wp2_with fail
   go_ret2
   exact⟨_,_,rfl,G9 hN,⟨q,rfl,hq,G9 hO⟩,G9 hB⟩
theorem BM6(v:FZ)(s:Int)(ws:List Wa)(w:FX)(hv:IV w v ws)(hs:mP ws)(hl:ws.length*32<=140737488351232):
  G5 prog 124 #[v,I0 s] w fun r w'=>∃g,r=.returned (FV (G8 ⟨g,0,G6⟩) (mM ws s).length (ws.length+1))/\w.heap.size<=g/\JD w' g (ws.length+1) (mM ws s)/\B0 w w':=by
 have CC:=ZP v ws (w.alloc (FW #[I0 s] 3)) (hv.next (GI _ _)) hs hl;obtain⟨va,vc,rfl⟩:=GU hv;have hLl:ws.length<=140737488355328:=by omega
 obtain⟨D,hD⟩:∃D,mM ws s=D:=⟨_,rfl⟩;rw[hD];have HD:Hid (ws.filter (fun x=> !decide (x.s=s))=D):=GH hD;clear hv hs hD;go_enter func124,ntmps124;go_wp2_with fail;refine CC.mono ?_;rintro r w1 ⟨q,rfl,hq,ho,hb⟩;have hq1:w.heap.size+1<=q:=by simpa using hq
 have c1:w1.cell? ⟨w.heap.size,0,G6⟩=G8 (I0 s):=by rw[hb.cell (p:=⟨w.heap.size,0,G6⟩) (by simp)];simp
 have hz1:w.heap.size<w1.heap.size:=by have:=hb.size;simp at this;omega
 have K:CJ9 172 w.heap.size q (fun x=>decide (x.s=s)) (fun W=>W.cell? ⟨w.heap.size,0,G6⟩=G8 (I0 s)/\w.heap.size<W.heap.size):=
  ⟨.inr rfl,fun _ _ h hg=>⟨hg.cell h.1 (by show G8 w.heap.size≠G8 q;simp;omega),AY h.2 hg.size⟩,fun W x h=>B31 x s w.heap.size W h.1 h.2⟩
 have CD:=AB9 K (ws.length+1) ws w1 ⟨c1,hz1⟩ ho hLl;have HB:=GH (H7 hb);rw[G9 HD]at CD;clear CC K ho hb c1 hq;go_wp2_with fail;refine CD.mono ?_;rintro r w2 ⟨rfl,ho2,hg2⟩;have HB2:=GH ((G9 HB).grown hg2 (G9 HB).size (fun j hj=>by cases hj;omega));clear CD hg2;go_wp2_with fail;go_ret;exact⟨q,rfl,by omega,ho2,G9 HB2⟩
def eqW(x y:Wa):Bool:=x.s==y.s&&x.k==y.k&&x.p==y.p
theorem A42{y:Wa}:eqW x y=true↔x=y:=by
 obtain⟨a,b,c⟩:=x;obtain⟨d,e,f⟩:=y;simp[eqW,and_assoc]
def xU(ws:List Wa)(x:Wa):Bool:=ws.any (fun y=>eqW x y)
theorem BO7:xU ws x=true↔x∈ws:=by
 simp only[xU,List.any_eq_true];exact⟨fun⟨y,hy,h⟩=>by rw[A42.1 h];exact hy,fun h=>⟨x,h,A42.2 rfl⟩⟩
def uF(x:Wa):Int:=if x.k≠1/\x.k≠2 then 4 else if J8 x.p=false then 2 else if x.s<1\/2147483647<x.s then 3 else 0
def ZB(ws:List Wa)(x:Wa):Int:=if uF x≠0 then uF x else if xU ws x=true then 0 else if 400<=ws.length then 6 else 0
def oU(ws:List Wa)(x:Wa):List Wa:=if ZB ws x≠0 then []else if xU ws x=true then ws else ws++[x]
theorem C74(x y:Wa)(w:FX):(binOp .eql 65 (waV x) (waV y)).run prog w=.ok (.bool (eqW x y)) w:=by
 have u3:=underlying3;have a3:=isAgg3;have z3:=sizeOf3;have u9:=underlying9;have a9:=isAgg9;have z9:=sizeOf9;have hS:prog.underlying 65=G8 (.struct (prog.fieldsOf 65)):=by kernel_rfl
 have hp:prog.stoodInHeld 65=false:=by kernel_rfl
 simp only[waV];rw[run_eql_struct,show (10000:Nat)=9999+1 from rfl,run_equalIn_agg w 9999 65 _ _ hS hp];simp only[Program.fieldsOf,underlying65];go_simp;unfold eqW;by_cases h1:x.s=y.s<;>by_cases h2:x.k=y.k<;>by_cases h3:x.p=y.p<;>simp[h1,h2,h3]
theorem CM0(h:Below (w.heap.size+1) (w.alloc (FW #[I0 x.s,I0 x.k,S0 x.p] 65)) W):W.cell? ⟨w.heap.size,0,G6⟩=G8 (I0 x.s)/\W.cell? ⟨w.heap.size,1,G6⟩=G8 (I0 x.k)/\W.cell? ⟨w.heap.size,2,G6⟩=G8 (S0 x.p):=by
 have hb:W.heap[w.heap.size]?=G8 (FW #[I0 x.s,I0 x.k,S0 x.p] 65 (0,0)):=(h.block _ (by omega)).trans (heap_alloc_new w _);refine⟨?_,?_,?_⟩<;>simp[World.cell?,hb]
theorem C75(v:FZ)(ws:List Wa)(x:Wa)(w:FX)(hv:IV w v ws)(hl:ws.length<=140737488355328):
  G5 prog 132 #[v,waV x] w fun e w'=>(∃i:Int,e=.returned (I0 i)/\decide (0<=i)=xU ws x)/\B0 w w':=by
 have KR:∀W,B0 w W->∀ (k:Nat) (y:Wa),ws[k]?=G8 y->∃b off cap,v=FV (G8 ⟨b,off,G6⟩) ws.length cap/\b<w.heap.size/\II W b off (GL ws):=fun W hW k y hx=>by
  obtain⟨b,off,cap,e,hb,hr,_,_⟩:=N8 hv (fun h0=>by obtain⟨h1,_⟩:=AV.1 hx;rw[h0]at h1;simp at h1);exact⟨b,off,cap,e,hb,hr.kept hW hb⟩
 have HKR:=GH KR;have B0:B0 w (w.alloc (FW #[I0 x.s,I0 x.k,S0 x.p] 65)):=GI _ _;have HB0:=GH B0;obtain⟨va,vc,rfl⟩:=GU hv;have HQ:=GH (fun y W=>C74 x y W);have HBX:=GH (fun W (h:Below (w.heap.size+1) (w.alloc (FW #[I0 x.s,I0 x.k,S0 x.p] 65)) W)=>CM0 h);clear hv KR B0;unfold waV at HQ;unfold waV;go_enter func132,ntmps132;go_wp2_with fail
 go_loopg [8] ws.length (fun kx s8 wr=>∃k:Nat,s8=I0 k/\k<=ws.length/\ws.length-k<=kx/\Hid (xU (ws.take k) x=false)/\Hid (Below (w.heap.size+1) (w.alloc (FW #[I0 x.s,I0 x.k,S0 x.p] 65)) wr))
 case atStart=>exact⟨0,rfl,AZ _,AA _,GH (by simp[xU]),GH (AB _ _)⟩
 case round=>
  obtain⟨k,rfl,hk,hg,hh,hB⟩:=hrel;have HBw:Hid (B0 w wr):=GH ((G9 HB0).trans ((G9 hB).mono (Nat.le_succ _)));obtain⟨c0,c1,c2⟩:=G9 HBX wr (G9 hB);by_cases hlt:k<ws.length
  .obtain⟨y,hy⟩:∃y,ws[k]?=G8 y:=⟨_,AO hlt⟩;obtain⟨b,off,cap,he,hb,q⟩:=G9 HKR wr (G9 HBw) k y hy;simp only[AQ]at he;obtain⟨rfl,_,rfl⟩:=he;have d0:=q.w0 hy;have d1:=q.w1 hy;have d2:=q.w2 hy;have hkk:(k:Int)<(ws.length:Int):=by omega
   have qe:=G9 HQ y;have hms:xU (ws.take (k+1)) x=eqW x y:=by
    rw[PV hy,xU,List.any_append];have:=G9 hh;rw[xU]at this;rw[this];simp
   have HY:Hid (y∈ws):=GH (BA hy);clear q hy
   cases hxy:eqW x y
   .rw[hxy]at qe hms;have HMS:=GH hms;clear hms hxy;go_wp2_with fail
    go_quiet (fail)
    go_wp2_with fail
    go_roundg (ws.length-(k+1))
    case measure=>omega
    case rel=>exact⟨k+1,rfl,by omega,AA _,HMS,GH ((G9 hB).trans ⟨rfl,rfl,rfl,AA _,fun _ _=>rfl⟩)⟩
   .rw[hxy]at qe;have HH:Hid (xU ws x=true):=GH (by
     rw[BO7,A42.1 hxy];exact G9 HY)
    clear hms hxy;go_wp2_with fail
    go_quiet (fail)
    go_wp2_with fail;go_ret;exact⟨⟨k,rfl,by rw[G9 HH];simp⟩,(G9 HBw).trans ⟨rfl,rfl,rfl,AA _,fun _ _=>rfl⟩⟩
  .obtain rfl:k=ws.length:=by omega
   rw[DX]at hh;go_wp2_with fail;go_ret;exact⟨⟨-1,rfl,by rw[G9 hh];rfl⟩,G9 HBw⟩
theorem BO8(v:FZ)(ws:List Wa)(x:Wa)(w:FX)(hv:IV w v ws)(hl:ws.length<=140737488355328):
  G5 prog 88 #[v,waV x] w (R0 w (.bool (xU ws x))):=by
 have C:=C75 v ws x (w.alloc (FW #[I0 x.s,I0 x.k,S0 x.p] 65)) (hv.alloc _) hl;obtain⟨va,vc,rfl⟩:=GU hv;generalize xU ws x=r at C⊢;clear hv;unfold waV at C;unfold waV;go_enter func88,ntmps88;go_wp2_with fail;refine C.mono ?_;rintro e w1 ⟨⟨i,rfl,hi⟩,hb1⟩;have HB:=GH (H7 hb1);have HI:=GH hi;clear C hb1 hi;go_wp2_with fail;go_ret;exact⟨TI (G9 HI),G9 HB⟩
theorem BO9(x:Wa)(w:FX):
  G5 prog 87 #[waV x] w (R0 w (I0 (uF x))):=by
 obtain⟨s,k,p⟩:=x;have C:=fun W=>MB ⟨p.toArray⟩ W;have HE:=GH (show ∀r:Int,r=(if k≠1/\k≠2 then 4 else if J8 p=false then 2 else if s<1\/2147483647<s then 3 else 0)->r=uF ⟨s,k,p⟩from fun r h=>h);unfold waV;simp only;obtain⟨r,hr⟩:∃r,uF ⟨s,k,p⟩=r:=⟨_,rfl⟩;have HR:=GH hr;rw[hr];clear hr;rw[G9 HR]at HE;by_cases hk:k≠1/\k≠2
 .have h1:(k !=1)=true:=by simpa using hk.1
  have h2:(k !=2)=true:=by simpa using hk.2
  have h12:(k !=1&&k !=2)=true:=by rw[h1,h2];rfl
  have h3:r=4:=(G9 HE 4 (by rw[if_pos hk])).symm;subst h3;clear hk;go_enter func87,ntmps87;go_wp2_with fail;go_ret;exact⟨rfl,GI _ _⟩
 .have hkk:k=1\/k=2:=by
   by_cases h:k=1
   .exact .inl h
   .by_cases h':k=2
    .exact .inr h'
    .exact absurd ⟨h,h'⟩ hk
  have HE2:=GH (fun r' (h:r'=(if J8 p=false then 2 else if s<1\/2147483647<s then 3 else 0))=>G9 HE r' (by rw[if_neg hk];exact h));clear HE hk
  cases hg:J8 p
  .have h3:r=2:=(G9 HE2 2 (by rw[hg];rfl)).symm;subst h3;have Hg:=GH hg;clear hg;rcases hkk with rfl|rfl
   all_goals
    go_enter func87,ntmps87;go_wp2_with fail;refine(C _).mono ?_;rintro e w1 ⟨rfl,hb1⟩;have HB:=GH (H7 hb1);rw[G9 Hg];clear hb1;go_wp2_with fail;go_ret;exact⟨rfl,G9 HB⟩
  .have h3:=G9 HE2;rw[hg]at h3;simp only[Bool.true_eq_false,if_false]at h3;have Hg:=GH hg;clear hg HE2;by_cases hs1:s<1
   .have h4:r=3:=(h3 3 (by rw[if_pos (.inl hs1)])).symm;subst h4;clear h3;rcases hkk with rfl|rfl
    all_goals
     go_enter func87,ntmps87;go_wp2_with fail;refine(C _).mono ?_;rintro e w1 ⟨rfl,hb1⟩;have HB:=GH (H7 hb1);have c0:w1.cell? ⟨w.heap.size,0,G6⟩=G8 (I0 s):=by rw[hb1.cell (p:=⟨w.heap.size,0,G6⟩) (by simp)];simp
     rw[G9 Hg];clear hb1;go_wp2_with fail;go_ret;exact⟨rfl,G9 HB⟩
   .by_cases hs2:2147483647<s
    .have h4:r=3:=(h3 3 (by rw[if_pos (.inr hs2)])).symm;subst h4;clear h3;rcases hkk with rfl|rfl
     all_goals
      go_enter func87,ntmps87;go_wp2_with fail;refine(C _).mono ?_;rintro e w1 ⟨rfl,hb1⟩;have HB:=GH (H7 hb1);have c0:w1.cell? ⟨w.heap.size,0,G6⟩=G8 (I0 s):=by rw[hb1.cell (p:=⟨w.heap.size,0,G6⟩) (by simp)];simp
      rw[G9 Hg];clear hb1;go_wp2_with fail;go_ret;exact⟨rfl,G9 HB⟩
    .have h4:r=0:=(h3 0 (by rw[if_neg (by omega)])).symm;subst h4;clear h3;rcases hkk with rfl|rfl
     all_goals
      go_enter func87,ntmps87;go_wp2_with fail;refine(C _).mono ?_;rintro e w1 ⟨rfl,hb1⟩;have HB:=GH (H7 hb1);have c0:w1.cell? ⟨w.heap.size,0,G6⟩=G8 (I0 s):=by rw[hb1.cell (p:=⟨w.heap.size,0,G6⟩) (by simp)];simp
      rw[G9 Hg];clear hb1;go_wp2_with fail;go_ret;exact⟨rfl,G9 HB⟩
theorem A64{w:FX}{ops:Array Oper}{o:Oper}{a:Act}{K:Act->FX->Prop}{Q:Exit->Act->FX->Prop}{E:Prop}(hgd:FP o (yielded ops a.tmps)=true)(s x:Operand)
  (ho:o.op=.call {callee:=.builtin .append,args:=#[s,x],argTypes:=#[53,53]})
  (v:FZ) (ns:List Wa) (hs:a.eval s=v) (hown:I5 w 0 v ns)
  (q:Nat) (hx:a.eval x=FV (G8 ⟨q,0,G6⟩) 1 1) (t:Wa) (hnews:JU w q t) (hl:(ns.length+1)*32<=140737488355328)
  (h:∀a' c' w',I5 w' 0 (FV a' (ns.length+1) c') (ns++[t])->w.grownBy w' v.ownBlock->((Value.slice a' (ns.length+1) c').ownBlock=v.ownBlock\/(Value.slice a' (ns.length+1) c').ownBlock=G8 w.heap.size)->K (a.put o.dst (FV a' (ns.length+1) c')) w'):
  if FP o (yielded ops a.tmps)=true then Oper.wp prog o a w K Q else E:=by
 rw[if_pos hgd];obtain⟨i0,hi0,hz0,hz1,hz2⟩:=C25;obtain⟨v',w',hr,h2,h3,_,h5⟩:=run_append_own_at (P:=prog) w 0 53 o.type 65 i0 _ 3 32 underlying53 hi0 hz0 hz1 hz2 rfl (by decide) v ns.length (GL ns) hown.row ⟨q,0,G6⟩ 1 1 (A97 t) rfl (RZ hnews) (Lay.one t) (by simp only[maxLen];omega) hl (AZ _);have h2':I5 w' 0 v' (ns++[t]):=I5.LD (by rw[AP,JJ];exact h2);obtain⟨a',c',rfl,_⟩:=h2'.slice;have hlen:(ns++[t]).length=ns.length+1:=by simp
 rw[hlen]at h2' hr h5;unfold Oper.wp execOp;simp only[ho,resolve,invoke,builtin,EG,ER,EH,List.map_toArray,List.map_cons,List.map_nil,hs,hx,hr];exact h a' c' w' h2' h3 h5
theorem BT7(h:uF x≠0):ZB ws x=uF x/\oU ws x=[]:=by
 have e:ZB ws x=uF x:=by rw[ZB,if_pos h]
 exact⟨e,by rw[oU,e,if_pos h]⟩
theorem BT8(h:uF x=0)(hh:xU ws x=true):ZB ws x=0/\oU ws x=ws:=by
 have e:ZB ws x=0:=by rw[ZB,if_neg (by simp[h]),if_pos hh]
 exact⟨e,by rw[oU,e,if_neg (by simp),if_pos hh]⟩
theorem BB5(h:uF x=0)(hh:xU ws x=false)(hf:400<=ws.length):ZB ws x=6/\oU ws x=[]:=by
 have e:ZB ws x=6:=by rw[ZB,if_neg (by simp[h]),if_neg (by simp[hh]),if_pos hf]
 exact⟨e,by rw[oU,e,if_pos (by decide)]⟩
theorem BT9(h:uF x=0)(hh:xU ws x=false)(hf:¬400<=ws.length):ZB ws x=0/\oU ws x=ws++[x]:=by
 have e:ZB ws x=0:=by rw[ZB,if_neg (by simp[h]),if_neg (by simp[hh]),if_neg hf]
 exact⟨e,by rw[oU,e,if_neg (by simp),if_neg (by simp[hh])]⟩
theorem CD6{w:FX}{ws:List Wa}{x:Wa}(g3:Nat)(w4 w5:FX)(a5:Option Addr)(c5:Nat)(hg:w.heap.size<=g3)(hb:B0 w w4)(ho:I5 w5 0 (FV a5 (ws.length+1) c5) (ws++[x]))(hg5:(w4.alloc (FW #[I0 x.s,I0 x.k,S0 x.p] 65)).grownBy w5 (Value.slice (G8 ⟨g3,0,G6⟩) ws.length (ws.length+1)).ownBlock)
  (hl:(Value.slice a5 (ws.length+1) c5).ownBlock=(Value.slice (G8 ⟨g3,0,G6⟩) ws.length (ws.length+1)).ownBlock\/(Value.slice a5 (ws.length+1) c5).ownBlock=G8 (w4.alloc (FW #[I0 x.s,I0 x.k,S0 x.p] 65)).heap.size):
  I5 w5 w.heap.size (FV a5 (ws.length+1) c5) (ws++[x])/\B0 w w5:=by
 have hB:=GK hb (GI w4 (FW #[I0 x.s,I0 x.k,S0 x.p] 65));refine⟨kJ ho (fun j hj=>?_),hB.grown hg5 hB.size (fun j hj=>by cases hj;exact hg)⟩;rcases hl with h|h
 .rw[h]at hj;cases hj;exact hg
 .rw[h]at hj;cases hj;exact hB.size
theorem CD7(v:FZ)(ws:List Wa)(x:Wa)(w:FX)(hv:IV w v ws)(hs:mP ws)(hx:x.p.length<=140737488355328)(hl:ws.length*32<=140737488351232):
  G5 prog 54 #[v,waV x] w fun r w'=>∃vl,r=.returned (.tuple #[vl,I0 (ZB ws x)])/\I5 w' w.heap.size vl (oU ws x)/\B0 w w':=by
 have CA:=fun W=>BO9 x W;have CC:=GH (fun W (hW:B0 w W)=>ZP v ws W (hv.next hW) hs hl);have CK:=GH (fun W (hW:B0 w W)=>BO8 v ws x W (hv.next hW) (by omega));have CO:=fun W=>AB6 x W hx;obtain⟨va,vc,rfl⟩:=GU hv;have HBX:Hid (∀W,Below (w.heap.size+1) (w.alloc (FW #[I0 x.s,I0 x.k,S0 x.p] 65)) W->(W.cell? ⟨w.heap.size,0,G6⟩=G8 (I0 x.s)/\W.cell? ⟨w.heap.size,1,G6⟩=G8 (I0 x.k)/\W.cell? ⟨w.heap.size,2,G6⟩=G8 (S0 x.p))/\B0 w W/\w.heap.size<W.heap.size):=GH (fun W h=>⟨CM0 h,(GI _ _).trans (h.mono (Nat.le_succ _)),by have:=h.size;simp at this;omega⟩);clear hv hs hx;unfold waV at CA CK CO;unfold waV;by_cases ha:uF x=0
 .rw[ha]at CA
  cases hh:xU ws x
  .rw[hh]at CK;by_cases hf:400<=ws.length
   .obtain⟨e1,e2⟩:=BB5 ha hh hf;rw[e1,e2];have hfi:(400:Int)<=(ws.length:Int):=by omega
    clear ha hh e1 e2;go_enter func54,ntmps54;go_wp2_with fail;refine(CA _).mono ?_;rintro e w1 ⟨rfl,hb1⟩;rw[show (w.alloc (FW #[I0 x.s,I0 x.k,S0 x.p] 65)).heap.size=w.heap.size+1 by simp]at hb1;obtain⟨⟨c0,c1,c2⟩,hB1,hz1⟩:=G9 HBX w1 hb1;have HB1:=GH hB1;clear hb1 hB1;go_wp2_with fail;refine(G9 CK w1 (G9 HB1)).mono ?_;rintro e w2 ⟨rfl,hb2⟩;have HB2:=GH (GK (G9 HB1) hb2);clear hb2;go_wp2_with fail
    go_ret2
    exact⟨_,rfl,.inl ⟨rfl,rfl⟩,G9 HB2⟩
   .obtain⟨e1,e2⟩:=BT9 ha hh hf;rw[e1,e2];have hfi:¬ ((400:Int)<=(ws.length:Int)):=by omega
    have hfd:decide ((400:Int)<=(ws.length:Int))=false:=by simp;omega
    clear ha hh e1 e2;go_enter func54,ntmps54;go_wp2_with fail;refine(CA _).mono ?_;rintro e w1 ⟨rfl,hb1⟩;rw[show (w.alloc (FW #[I0 x.s,I0 x.k,S0 x.p] 65)).heap.size=w.heap.size+1 by simp]at hb1;obtain⟨⟨c0,c1,c2⟩,hB1,hz1⟩:=G9 HBX w1 hb1;have HB1:=GH hB1;have HC1:=GH hb1;clear hb1 hB1;go_wp2_with fail;refine(G9 CK w1 (G9 HB1)).mono ?_;rintro e w2 ⟨rfl,hb2⟩;have hC2:=(G9 HC1).trans (hb2.mono (by omega));obtain⟨⟨m0,m1,m2⟩,hB2,hz2⟩:=G9 HBX w2 hC2;have HB2:=GH hB2;have HC2:=GH hC2;have K1:Hid (∀w3,B0 w2 w3->(w3.cell? ⟨w.heap.size,0,G6⟩=G8 (I0 x.s)/\w3.cell? ⟨w.heap.size,1,G6⟩=G8 (I0 x.k)/\w3.cell? ⟨w.heap.size,2,G6⟩=G8 (S0 x.p))/\B0 w w3):=GH (fun w3 hb3=>by
     obtain⟨h1,h2,_⟩:=G9 HBX w3 ((G9 HC2).trans (hb3.mono (by omega)));exact⟨h1,h2⟩)
    have CC2:=GH (fun W (hW:B0 w2 W)=>G9 CC W (GK (G9 HB2) hW));have hBs:=(G9 HB2).size;have HK5:=GH (@CD6 w ws x);clear hb2 hB2 hC2 c0 c1 c2;go_wp2_with fail
    go_region_law (first
     |(refine A64 (by kernel_rfl) _ _ (by rfl) (FV (G8 ⟨g3,0,G6⟩) ws.length (ws.length+1)) ws (by rfl) (G9 HO4) w4.heap.size (by rfl) x (AB7 w4 x) (by omega) ?_;intro a5 c5 w5 ho5 hg5 hl5;obtain⟨o5,b5⟩:=G9 HK5 g3 w4 w5 a5 c5 hg3 (G9 HB4) ho5 hg5 hl5;have HO5:=GH o5;have HB5:=GH b5;clear o5 b5;clear ho5 hg5 hl5)
     |(go_simp;refine(G9 CC2 _ (by first|exact AB _ _|exact(AB _ _).drew)).mono ?_;rintro e w3 ⟨g3,rfl,hg3',ho3,hb3⟩;have hg3:w.heap.size<=g3:=Nat.le_trans hBs hg3';have HB23:Hid (B0 w2 w3):=(by first|exact hb3|exact IG hb3);obtain⟨⟨p0,p1,p2⟩,hB3⟩:=G9 K1 w3 (G9 HB23);have HB3:=GH hB3;have HO3:=GH ho3;clear hb3 hB3 ho3 hg3')
     |(go_simp;refine(CO _).mono ?_;rintro e w4 ⟨rfl,hb4⟩;have HB4:=GH (GK (G9 HB3) hb4);have HO4:Hid (I5 (w4.alloc (FW #[I0 x.s,I0 x.k,S0 x.p] 65)) 0 (FV (G8 ⟨g3,0,G6⟩) ws.length (ws.length+1)) ws):=GH (.inr ⟨g3,_,rfl,AZ _,((G9 HO3).next hb4).next (GI _ _)⟩);clear hb4))
    all_goals go_wp2_with fail
    all_goals go_ret2
    all_goals exact⟨_,rfl,G9 HO5,G9 HB5⟩
  .rw[hh]at CK;obtain⟨e1,e2⟩:=BT8 ha hh;rw[e1,e2];clear ha hh e1 e2;go_enter func54,ntmps54;go_wp2_with fail;refine(CA _).mono ?_;rintro e w1 ⟨rfl,hb1⟩;rw[show (w.alloc (FW #[I0 x.s,I0 x.k,S0 x.p] 65)).heap.size=w.heap.size+1 by simp]at hb1;obtain⟨⟨c0,c1,c2⟩,hB1,hz1⟩:=G9 HBX w1 hb1;have HB1:=GH hB1;clear hb1 hB1;go_wp2_with fail;refine(G9 CK w1 (G9 HB1)).mono ?_;rintro e w2 ⟨rfl,hb2⟩;have HB2:=GH (GK (G9 HB1) hb2);clear hb2;go_wp2_with fail;refine(G9 CC w2 (G9 HB2)).mono ?_;rintro e w3 ⟨g,rfl,hg,ho,hb3⟩;have HB3:=GH (GK (G9 HB2) hb3);have hBs:=(G9 HB2).size;clear hb3;go_wp2_with fail
   go_ret2
   exact⟨_,rfl,.inr ⟨g,_,rfl,by omega,ho⟩,G9 HB3⟩
 .obtain⟨e1,e2⟩:=BT7 (ws:=ws) ha;rw[e1,e2];generalize uF x=r at CA ha⊢;have hrb:(r==0)=false:=by simpa using ha
  clear e1 e2;go_enter func54,ntmps54;go_wp2_with fail;refine(CA _).mono ?_;rintro e w1 ⟨rfl,hb1⟩;have HB1:=GH (H7 hb1);clear hb1;go_wp2_with fail
  go_ret2
  exact⟨_,rfl,.inl ⟨rfl,rfl⟩,G9 HB1⟩
