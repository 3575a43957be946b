/-
  Part.
-/
import Derived.Test.YthcncjimjclfpaaGreatDoorLSC
import Derived.Deep.RegionHeld3
import Derived.Lib.AppendZerosOnto
import Derived.Laws.AppendOwnNone
set_option maxRecDepth 20000
set_option maxHeartbeats 8000000
namespace Go.Proofs.YthcncjimjclfpaaGreatDoor
open Go.RowKit Go.Proofs.Tryz
open _root_.Nat renaming le_refl->A8,lt_of_lt_of_le->AX,zero_le->AY,zero_add->BI,add_assoc->EI
open Go.RowKit.Below renaming refl->AA
open _root_.Array renaming getElem?_eq_some_iff->AB
open _root_.List renaming getElem?_eq_getElem->AL,length_append->AO,getElem?_eq_some_iff->AU,mem_of_getElem?->AZ,take_of_length_le->BL,mem_cons->BO,append_assoc->BQ,append_nil->DL,take_length->DU,filter_append->EW
open Go.Value.slice renaming injEq->AP
open Go.Value renaming ownBlock->D8,slice->FQ
open Go.Sem renaming run_bind->DX,run_pure->EM
open Go.Result renaming andThen_ok->DY
open Go.Region renaming wanted->FI
open _root_.Option renaming map_eq_some_iff->FK,none->FX,some->FZ
open Go.Obj renaming cells->FT
open Go renaming World->FU,Value->FV,Calls->FW
variable{w W:FU}{b off i g cap B q:Nat}{xs ws:List Wa}{x:Wa}{α:Type}{pr:Wa->Bool}
def AB7(w:Wa):List FV:=[I0 w.s,I0 w.k,S0 w.p]
def A12(n:Nt):List FV:=[I0 n.s,I0 n.k,S0 n.p]
def waV(w:Wa):FV:=.agg #[I0 w.s,I0 w.k,S0 w.p]
instance layW:Lay Wa:=⟨3,AB7,98,fun _=>rfl,fun x u hu=>by simp[AB7]at hu;rcases hu with rfl|rfl|rfl<;>rfl⟩
instance layT:Lay Nt:=⟨3,A12,252,fun _=>rfl,fun x u hu=>by simp[A12]at hu;rcases hu with rfl|rfl|rfl<;>rfl⟩
theorem IE.w0(h:IE w b off (G9 xs))(hi:xs[i]?=FZ x):w.cell? ⟨b,off+i*3,FX⟩=FZ (I0 x.s):=
 h (i*3) _ (GV xs i x hi 0 (by decide))
theorem IE.w1(h:IE w b off (G9 xs))(hi:xs[i]?=FZ x):w.cell? ⟨b,off+i*3+1,FX⟩=FZ (I0 x.k):=by
 rw[EI];exact h (i*3+1) _ (GV xs i x hi 1 (by decide))
theorem IE.w2(h:IE w b off (G9 xs))(hi:xs[i]?=FZ x):w.cell? ⟨b,off+i*3+2,FX⟩=FZ (S0 x.p):=by
 rw[EI];exact h (i*3+2) _ (GV xs i x hi 2 (by decide))
theorem IE.t0{xs:List Nt}(h:IE w b off (G9 xs)){x:Nt}(hi:xs[i]?=FZ x):w.cell? ⟨b,off+i*3,FX⟩=FZ (I0 x.s):=
 h (i*3) _ (GV xs i x hi 0 (by decide))
theorem IE.t1{xs:List Nt}(h:IE w b off (G9 xs)){x:Nt}(hi:xs[i]?=FZ x):w.cell? ⟨b,off+i*3+1,FX⟩=FZ (I0 x.k):=by
 rw[EI];exact h (i*3+1) _ (GV xs i x hi 1 (by decide))
theorem IE.t2{xs:List Nt}(h:IE w b off (G9 xs)){x:Nt}(hi:xs[i]?=FZ x):w.cell? ⟨b,off+i*3+2,FX⟩=FZ (S0 x.p):=by
 rw[EI];exact h (i*3+2) _ (GV xs i x hi 2 (by decide))
theorem CI4:(prog.info? 98).map (fun i=>(i.zero,i.size,i.bytes))=FZ (FZ (.agg #[I0 0,I0 0,.string ⟨#[]⟩]),3,32):=by kernel_rfl
theorem C34:∃i0,prog.info? 98=FZ i0/\i0.zero=FZ (.agg #[I0 0,I0 0,.string ⟨#[]⟩])/\i0.size=3/\i0.bytes=32:=by
 obtain⟨i0,h,e⟩:=FK.1 CI4;simp only[Prod.mk.injEq]at e;exact⟨i0,h,e⟩
theorem CI5:(prog.info? 252).map (fun i=>(i.zero,i.size,i.bytes))=FZ (FZ (.agg #[I0 0,I0 0,.string ⟨#[]⟩]),3,32):=by kernel_rfl
theorem AZ1:∃i0,prog.info? 252=FZ i0/\i0.zero=FZ (.agg #[I0 0,I0 0,.string ⟨#[]⟩])/\i0.size=3/\i0.bytes=32:=by
 obtain⟨i0,h,e⟩:=FK.1 CI5;simp only[Prod.mk.injEq]at e;exact⟨i0,h,e⟩
def nI(ws:List Wa):Prop:=∀x∈ws,x.p.length<=140737488355328
def BY0(es:List Ev):Prop:=∀x∈es,x.p.length<=140737488355328
theorem B33[Lay α]{xs:List α}(h:J9 W g cap xs)(B:Nat)(hB:B<=g):W.ownsRow B (Lay.ty α) (Lay.k α) (FQ (FZ ⟨g,0,FX⟩) xs.length cap) xs.length (G9 xs):=
 GZ.row (.inr ⟨g,cap,rfl,hB,h⟩)
theorem B34[Lay α]{n:Nat}{xs:List α}(h:W.ownsRow B (Lay.ty α) (Lay.k α) (FQ (FZ ⟨g,0,FX⟩) n cap) n (G9 xs))(hn:n=xs.length):J9 W g cap xs:=by
 subst hn;rcases GZ.LD h with⟨h1,_⟩|⟨g',cap',h1,_,h2⟩
 .simp at h1
 .simp only[AP,Option.some.injEq,Addr.mk.injEq,and_true,true_and]at h1;obtain⟨rfl,rfl⟩:=h1;exact h2
theorem PO{xs:List α}{k:Nat}{x:α}(h:xs[k]?=FZ x):xs.take (k+1)=xs.take k++[x]:=by rw[List.take_add_one,h];rfl
theorem B00{w':FU}{r:Option Nat}(h:w.grownBy w' r)(B:Nat)(hB:B<=w.heap.size)(hr:∀k,r=FZ k->B<=k):Below B w w':=(AA _ _).grown h hB hr
theorem LP{w':FU}{r:Option Nat}(h:B0 w w'):w.grownBy w' r:=⟨h.os,h.tape,h.output,h.size,fun k hk _=>h.block k hk⟩
theorem J9.head[Lay α]{A B:List α}(h:J9 W g cap (A++B)):J9 W g cap A:=by
 obtain⟨rest,h1,h2,h4,h3⟩:=h;refine⟨G9 B++rest,by rw[h1,H8,BQ],?_,?_,h3⟩
 .rw[AO,GX B];rw[AO,Nat.add_mul]at h2;omega
 .rw[AO]at h4;omega
theorem oQ(s:List UInt8)(w:FU)(hs:s.length<=281474976710656):
  FW prog 40 #[S0 s] w (R0 w (S0 s)):=by
 have C:=fun W=>stringslite_Clone ⟨s.toArray⟩ W (show (ByteArray.mk s.toArray).size<=_ from hs);go_enter func40,ntmps40;go_wp2_with fail;refine(C _).mono ?_;rintro e w1 ⟨rfl,hb1⟩;go_wp2_with fail;go_ret;exact⟨rfl,hb1⟩
theorem AD5(x:Wa)(w:FU)(hx:x.p.length<=140737488355328):
  FW prog 101 #[waV x] w (R0 w (waV x)):=by
 obtain⟨s,k,p⟩:=x;unfold waV;have C:=fun W=>oQ p W (by simp only at hx;omega);go_enter func101,ntmps101;go_wp2_with fail;refine(C _).mono ?_;rintro e w1 ⟨rfl,hb1⟩;have hB:=GU (GU hb1);have c0:w1.cell? ⟨w.heap.size,0,FX⟩=FZ (I0 s):=by rw[hb1.cell (p:=⟨w.heap.size,0,FX⟩) (by simp;omega)];simp
 have c1:w1.cell? ⟨w.heap.size,1,FX⟩=FZ (I0 k):=by rw[hb1.cell (p:=⟨w.heap.size,1,FX⟩) (by simp;omega)];simp
 have c2:w1.cell? ⟨w.heap.size,2,FX⟩=FZ (S0 p):=by rw[hb1.cell (p:=⟨w.heap.size,2,FX⟩) (by simp;omega)];simp
 have f2:w1.frozen? ⟨w.heap.size,2,FX⟩=false:=by rw[hb1.frozen (p:=⟨w.heap.size,2,FX⟩) (by simp;omega)];simp
 have d0:w1.cell? ⟨w.heap.size+1,0,FX⟩=FZ (I0 0):=by rw[hb1.cell (p:=⟨w.heap.size+1,0,FX⟩) (by simp)];simp
 have d1:w1.cell? ⟨w.heap.size+1,1,FX⟩=FZ (I0 0):=by rw[hb1.cell (p:=⟨w.heap.size+1,1,FX⟩) (by simp)];simp
 have d2:w1.cell? ⟨w.heap.size+1,2,FX⟩=FZ (.string ⟨#[]⟩):=by rw[hb1.cell (p:=⟨w.heap.size+1,2,FX⟩) (by simp)];simp
 have g0:w1.frozen? ⟨w.heap.size+1,0,FX⟩=false:=by rw[hb1.frozen (p:=⟨w.heap.size+1,0,FX⟩) (by simp)];simp
 have g1:w1.frozen? ⟨w.heap.size+1,1,FX⟩=false:=by rw[hb1.frozen (p:=⟨w.heap.size+1,1,FX⟩) (by simp)];simp
 have g2:w1.frozen? ⟨w.heap.size+1,2,FX⟩=false:=by rw[hb1.frozen (p:=⟨w.heap.size+1,2,FX⟩) (by simp)];simp
 have s2:w1.setCell ⟨w.heap.size,2,FX⟩ (S0 p)=w1:=I8 c2;clear hb1 C;go_wp2_with fail;refine bodyPost_ret (v:=.agg #[I0 s,I0 k,S0 p]) (by simp[results,results101,go_sem,d0,d1,d2]) rfl ⟨rfl,?_⟩;exact((hB.setCell (by simp) _).setCell (by simp) _).setCell (by simp) _
theorem AD6(w:FU)(x:Wa):JF (w.alloc (FT #[I0 x.s,I0 x.k,S0 x.p] 98)) w.heap.size x:=heap_alloc_new w _
theorem ZT(v:FV)(ws:List Wa)(w:FU)(hv:IU w v ws)(hs:nI ws)(hl:ws.length*32<=140737488351232):
  FW prog 100 #[v] w fun e w'=>∃g,e=.returned (FQ (FZ ⟨g,0,FX⟩) ws.length (ws.length+1))/\w.heap.size<=g/\J9 w' g (ws.length+1) ws/\B0 w w':=by
 have KR:∀W,B0 w W->∀k x,ws[k]?=FZ x->∃b off cap,v=FQ (FZ ⟨b,off,FX⟩) ws.length cap/\b<w.heap.size/\IE W b off (G9 ws):=fun W hW k x hx=>by
  obtain⟨b,off,cap,e,hb,hr,_,_⟩:=NZ hv (fun h0=>by obtain⟨h1,_⟩:=AU.1 hx;rw[h0]at h1;simp at h1);exact⟨b,off,cap,e,hb,hr.kept hW hb⟩
 have HKR:=G6 KR;have HS:=G6 hs;obtain⟨va,vc,rfl⟩:=GK hv;obtain⟨i0,hi0,hz0,hz1,hz2⟩:=C34;clear hv hs KR;go_enter func100,ntmps100;go_wp2_with (at_make;refine wpList_make_own _ rfl _ _ 62 rfl w.heap.size 98 i0 _ 3 underlying62 hi0 hz0 hz1 .i64 .i64 _ (ws.length+1) rfl rfl (by omega) ?m1 ?m2 (A8 _) ?_)
 case m1=>rw[hz2];omega
 case m2=>simp only[maxLen];omega
 intro w0 ho0 hg0;have HO:Hid (J9 w0 w.heap.size (ws.length+1) (ws.take 0)):=G6 (B34 (α:=Wa) (xs:=ws.take 0) ho0 rfl);have HB:Hid (B0 w w0):=G6 (B00 hg0 _ (A8 _) (by simp));clear ho0 hg0;go_wp2_with fail
 go_loopg [3,12] ws.length (fun kx s3 s12 wr=>∃k:Nat,s12=I0 k/\s3=FQ (FZ ⟨w.heap.size,0,FX⟩) k (ws.length+1)/\k<=ws.length/\ws.length-k<=kx/\Hid (J9 wr w.heap.size (ws.length+1) (ws.take k))/\Hid (B0 w wr))
 case atStart=>exact⟨0,rfl,rfl,AY _,A8 _,HO,HB⟩
 case round=>
  obtain⟨k,rfl,rfl,hk,hg,hO,hB⟩:=hrel;by_cases hlt:k<ws.length
  .obtain⟨x,hx⟩:∃x,ws[k]?=FZ x:=⟨_,AL hlt⟩;obtain⟨b,off,cap,he,hb,q⟩:=G5 HKR wr (G5 hB) k x hx;simp only[AP]at he;obtain⟨rfl,_,rfl⟩:=he;have d0:=q.w0 hx;have d1:=q.w1 hx;have d2:=q.w2 hx;have hbw:b<wr.heap.size:=AX hb (G5 hB).size;have hgl:=(G5 hO).lt;have CX:=fun W=>AD5 x W (G5 HS x (AZ hx));unfold waV at CX;have HT1:=G6 (PO hx);have hlk:(ws.take k).length=k:=by simp;omega
   clear q hx;go_wp2_with fail;refine(CX _).mono ?_;rintro e w1 ⟨rfl,hb1⟩;have hb2:=GU hb1;have HO1:=G6 (((G5 hO).next hb2).next (G7 w1 (FT #[I0 x.s,I0 x.k,S0 x.p] 98)));have HB1:=G6 (G8 (G5 hB) (G8 hb2 (G7 w1 (FT #[I0 x.s,I0 x.k,S0 x.p] 98))));clear CX hb1 hb2;go_wp2_with (at_builtin;refine wpList_append_fits _ rfl _ _ 62 rfl w.heap.size 98 i0 3 underlying62 hi0 hz1 w.heap.size k (ws.length+1) (G9 (ws.take k)) rfl ?a1 ⟨w1.heap.size,0,FX⟩ 1 1 (AB7 x) rfl rfl ?a2 (Lay.one x) (by omega) ?_)
   case a1=>
    have:=B33 (G5 HO1) w.heap.size (A8 _);rw[hlk]at this;exact this
   case a2=>exact RS (AD6 w1 x)
   intro w2 ho2 hg2;have HO2:Hid (J9 w2 w.heap.size (ws.length+1) (ws.take (k+1))):=G6 (by
    rw[G5 HT1];refine B34 (α:=Wa) (B:=w.heap.size) (n:=k+1) ?_ (by simp;omega);rw[JE];exact ho2)
   have HB2:Hid (B0 w w2):=G6 ((G5 HB1).grown hg2 (G5 HB1).size (by intro k hk;cases hk;exact A8 _));clear ho2 hg2;go_wp2_with fail
   go_roundg (ws.length-(k+1))
   case measure=>omega
   case rel=>exact⟨k+1,rfl,rfl,by omega,A8 _,HO2,HB2⟩
  .obtain rfl:k=ws.length:=by omega
   rw[DU]at hO;go_wp2_with fail;go_ret;exact⟨_,rfl,A8 _,G5 hO,G5 hB⟩
theorem SX{a b:Bool}(h:a=b):Ending.returned (.bool a)=.returned (.bool b):=by rw[h]
theorem AO0(x:Wa)(e:Ev)(w:FU):
  FW prog 171 #[waV x,evV e] w fun r w'=>r=.returned (.bool (zJ x e))/\B0 w w':=by
 obtain⟨s,k,p⟩:=x;obtain⟨ek,ep⟩:=e;have HB:=G6 (G8 (G7 w (FT #[I0 s,I0 k,S0 p] 98)) (G7 _ (FT #[I0 ek,S0 ep] 246)));have HO:=G6 (show ∀r:Bool,r=(decide (p=ep)&&(if k=2 then decide (ek=4)||decide (ek=2)else decide (ek=1)||decide (ek=2)||decide (ek=3)))->r=zJ ⟨s,k,p⟩ ⟨ek,ep⟩from fun r h=>h);unfold waV evV;simp only;by_cases hp:p=ep
 .have hpb:(p==ep)=true:=by simpa using hp
  have HP:=G6 hp;clear hp;by_cases hk:k=2
  .subst hk;by_cases h4:ek=4
   .subst h4;go_enter func171,ntmps171;go_wp2_with fail;go_ret;exact⟨SX (G5 HO _ (by simp[G5 HP])),G5 HB⟩
   .go_enter func171,ntmps171;go_wp2_with fail;go_ret;exact⟨SX (G5 HO _ (by by_cases h:ek=2<;>simp[G5 HP,h,h4])),G5 HB⟩
  .by_cases h1:ek=1
   .subst h1;go_enter func171,ntmps171;go_wp2_with fail;go_ret;exact⟨SX (G5 HO _ (by simp[G5 HP,hk])),G5 HB⟩
   .by_cases h2:ek=2
    .subst h2;go_enter func171,ntmps171;go_wp2_with fail;go_ret;exact⟨SX (G5 HO _ (by simp[G5 HP,hk])),G5 HB⟩
    .go_enter func171,ntmps171;go_wp2_with fail;go_ret;exact⟨SX (G5 HO _ (by by_cases h:ek=3<;>simp[G5 HP,hk,h,h1,h2])),G5 HB⟩
 .have hpb:(p==ep)=false:=by simpa using hp
  go_enter func171,ntmps171;go_wp2_with fail;go_ret;exact⟨SX (G5 HO _ (by simp[hp])),G5 HB⟩
theorem xJ(x:Wa)(e:Ev)(B:Nat)(w:FU)(h:JF w B e):
  FW prog 170 #[waV x,P0 B] w fun r w'=>r=.returned (.bool (zJ x e))/\B0 w w':=by
 have C:=fun W=>AO0 x e W;have hB:B<w.heap.size:=(AB.1 h).1;have c0:w.cell? ⟨B,0,FX⟩=FZ (I0 e.k):=by simpa using h.row 0 _ rfl
 have c1:w.cell? ⟨B,1,FX⟩=FZ (S0 e.p):=by simpa using h.row 1 _ rfl
 clear h;unfold waV evV at C;unfold waV;generalize zJ x e=r at C⊢;have hne:B≠w.heap.size:=by omega
 go_enter func170,ntmps170;go_wp2_with fail;refine(C _).mono ?_;rintro e w1 ⟨rfl,hb1⟩;have hB1:=GU hb1;clear C hb1;go_wp2_with fail;go_ret;exact⟨rfl,hB1⟩
theorem B35(x:Wa)(s:Int)(B:Nat)(w:FU)(h:w.cell? ⟨B,0,FX⟩=FZ (I0 s))(hB:B<w.heap.size):
  FW prog 174 #[waV x,P0 B] w fun r w'=>r=.returned (.bool (decide (x.s=s)))/\B0 w w':=by
 obtain⟨xs,xk,xp⟩:=x;unfold waV;have hne:B≠w.heap.size:=by omega
 go_enter func174,ntmps174;go_wp2_with fail;go_ret;exact⟨rfl,G7 _ _⟩
def ZA(m:Nat):List FV:=(Builtin.zeroCells (Value.agg #[I0 0,I0 0,.string ⟨#[]⟩]).cells m).toList
theorem VK(m:Nat):(ZA m).length=m*3:=by
 rw[ZA,Array.length_toList,size_zeroCells];rfl
theorem AO1(m:Nat):∀u∈ZA m,u.oneCell'=true:=by
 intro u hu;simp only[ZA,Builtin.zeroCells,Value.cells,Array.toList_map,List.mem_map]at hu;obtain⟨i,_,rfl⟩:=hu;have:i%3<3:=Nat.mod_lt _ (by decide);show (#[I0 0,I0 0,.string ⟨#[]⟩][i%3]!).oneCell'=true;rcases(show i%3=0\/i%3=1\/i%3=2 by omega)with e|e|e<;>rw[e]<;>rfl
theorem AO2(w:FU)(ty:TypeId)(b o m c:Nat)(hm:0<m)(hc:∀j,j<m*3->(w.cell? ⟨b,o+j,FX⟩).isSome=true)(hf:∀j,j<m*3->w.frozen? ⟨b,o+j,FX⟩=false):
  (Builtin.clear_ #[62] ty #[FQ (FZ ⟨b,o,FX⟩) m c]).run prog w=.ok (.tuple #[]) (w.setCells b o (ZA m)):=by
 have hst:=run_storeCells_cells (P:=prog) b o (ZA m) 0 w (by rw[VK];simpa using hc) (by rw[VK];simpa using hf) (AO1 m);simp only[Nat.add_zero]at hst;obtain⟨k,rfl⟩:∃k,m=k+1:=⟨m-1,by omega⟩;simp[Builtin.clear_,run_underlying underlying62];exact(by
  have:=hst;unfold ZA at this⊢;rw[this];rfl)
structure CK4(g:FuncId)(B:Nat)(q:Nat)(pr:Wa->Bool)(I:FU->Prop):Prop where
 two:g=170\/g=174
 keep:∀W V,I W->W.grownBy V (FZ q)->I V
 gives:∀W x,I W->FW prog g #[.agg #[I0 x.s,I0 x.k,S0 x.p],P0 B] W fun r w'=>r=.returned (.bool (pr x))/\B0 W w'
theorem C59{g:FuncId}{B q:Nat}{pr:Wa->Bool}{I:FU->Prop}(C:CK4 g B q pr I)(b off cap:Nat)(A:List Wa)(x:Wa)(R:List Wa)(w:FU)(hi:I w)(hb:b<w.heap.size)(hr:IE w b off (G9 (A++x::R)))(hl:(A++x::R).length<=140737488355328)
  (hA:∀a∈A,pr a=false) (hx:pr x=true):
  FW prog 203 #[FQ (FZ ⟨b,off,FX⟩) (A++x::R).length cap,.func (.func g) #[] #[P0 B]] w (R0 w (I0 A.length)):=by
 have HR:=G6 (fun W (hW:B0 w W)=>hr.kept hW hb);have HC:=G6 C;have HI:=G6 (fun W (hW:B0 w W)=>C.keep w W hi (LP hW));have HX:=G6 hx;have HA:=G6 hA;have hAn:A.length<(A++x::R).length:=by simp
 obtain⟨n,hn⟩:∃n,(A++x::R).length=n:=⟨_,rfl⟩;rw[hn]at hl hAn⊢;have HN:=G6 hn;have two:=C.two;clear hr C hi hx hA hn;rcases two with rfl|rfl
 all_goals
  go_enter func203,ntmps203;go_wp2_with fail
  go_loopg [8] n (fun kx s8 wr=>∃k:Nat,s8=I0 k/\k<=A.length/\n-k<=kx/\Hid (B0 w wr))
  case atStart=>exact⟨0,rfl,AY _,A8 _,G6 (AA _ _)⟩
  case round=>
   obtain⟨k,rfl,hk,hg,hB⟩:=hrel;have hlt:k<n:=by omega
   obtain⟨y,hy⟩:∃y,(A++x::R)[k]?=FZ y:=⟨_,AL (by rw[G5 HN];exact hlt)⟩;have qr:=G5 HR wr (G5 hB);have d0:=qr.w0 hy;have d1:=qr.w1 hy;have d2:=qr.w2 hy;have hbw:b<wr.heap.size:=AX hb (G5 hB).size;have CX:=(G5 HC).gives wr y (G5 HI wr (G5 hB));by_cases hka:k<A.length
   .have hp:pr y=false:=G5 HA y (by
     rw[List.getElem?_append_left hka]at hy;exact AZ hy)
    rw[hp]at CX;clear qr hy hp;go_wp2_with fail;refine CX.mono ?_;rintro e w1 ⟨rfl,hb1⟩;have hB1:=G8 (G5 hB) hb1;clear CX hb1;go_wp2_with fail
    go_roundg (n-(k+1))
    case measure=>omega
    case rel=>exact⟨k+1,rfl,by omega,A8 _,G6 hB1⟩
   .obtain rfl:k=A.length:=by omega
    have hp:pr y=true:=by
     have:(A++x::R)[A.length]?=FZ x:=by simp
     rw[this]at hy
     cases hy
     exact G5 HX
    rw[hp]at CX;clear qr hy hp;go_wp2_with fail;refine CX.mono ?_;rintro e w1 ⟨rfl,hb1⟩;have hB1:=G8 (G5 hB) hb1;clear CX hb1;go_wp2_with fail;go_ret;exact⟨rfl,hB1⟩
theorem B36{g:FuncId}{I:FU->Prop}(C:CK4 g B q pr I)(v:FV)(A:List Wa)(w:FU)(hi:I w)(hv:IU w v A)(hl:A.length<=140737488355328)(hA:∀a∈A,pr a=false):
  FW prog 203 #[v,.func (.func g) #[] #[P0 B]] w (R0 w (I0 (-1))):=by
 have KR:∀W,B0 w W->∀k x,A[k]?=FZ x->∃b off cap,v=FQ (FZ ⟨b,off,FX⟩) A.length cap/\b<w.heap.size/\IE W b off (G9 A):=fun W hW k x hx=>by
  obtain⟨b,off,cap,e,hb,hr,_,_⟩:=NZ hv (fun h0=>by obtain⟨h1,_⟩:=AU.1 hx;rw[h0]at h1;simp at h1);exact⟨b,off,cap,e,hb,hr.kept hW hb⟩
 have HKR:=G6 KR;have HC:=G6 C;have HI:=G6 (fun W (hW:B0 w W)=>C.keep w W hi (LP hW));have HA:=G6 hA;have two:=C.two;obtain⟨va,vc,rfl⟩:=GK hv;clear C hi hA KR hv;rcases two with rfl|rfl
 all_goals
  go_enter func203,ntmps203;go_wp2_with fail
  go_loopg [8] A.length (fun kx s8 wr=>∃k:Nat,s8=I0 k/\k<=A.length/\A.length-k<=kx/\Hid (B0 w wr))
  case atStart=>exact⟨0,rfl,AY _,A8 _,G6 (AA _ _)⟩
  case round=>
   obtain⟨k,rfl,hk,hg,hB⟩:=hrel;by_cases hlt:k<A.length
   .obtain⟨y,hy⟩:∃y,A[k]?=FZ y:=⟨_,AL hlt⟩;obtain⟨b,off,cap,he,hb,qr⟩:=G5 HKR wr (G5 hB) k y hy;simp only[AP]at he;obtain⟨rfl,_,rfl⟩:=he;have d0:=qr.w0 hy;have d1:=qr.w1 hy;have d2:=qr.w2 hy;have hbw:b<wr.heap.size:=AX hb (G5 hB).size;have CX:=(G5 HC).gives wr y (G5 HI wr (G5 hB));have hp:pr y=false:=G5 HA y (AZ hy);rw[hp]at CX;clear qr hy hp;go_wp2_with fail;refine CX.mono ?_;rintro e w1 ⟨rfl,hb1⟩;have hB1:=G8 (G5 hB) hb1;clear CX hb1;go_wp2_with fail
    go_roundg (A.length-(k+1))
    case measure=>omega
    case rel=>exact⟨k+1,rfl,by omega,A8 _,G6 hB1⟩
   .obtain rfl:k=A.length:=by omega
    go_wp2_with fail;go_ret;exact⟨rfl,G5 hB⟩
theorem kT[Lay α]{C:Nat}{v:FV}{xs:List α}(h:GZ W C v xs)(hB:∀k,v.ownBlock=FZ k->B<=k):GZ W B v xs:=by
 rcases h with h|⟨g,cap,rfl,_,h⟩
 .exact .inl h
 .exact .inr ⟨g,cap,rfl,hB g rfl,h⟩
theorem eH[Lay α]{v:FV}{xs:List α}(h:GZ W B v xs):∀k,v.ownBlock=FZ k->B<=k:=by
 rcases h with⟨rfl,_⟩|⟨g,cap,rfl,h1,h⟩
 .intro k hk;cases hk
 .intro k hk;simp only[D8,Option.some.injEq]at hk;omega
theorem BN1(w:FU)(n:Nt):JF (w.alloc (FT #[I0 n.s,I0 n.k,S0 n.p] 252)) w.heap.size n:=heap_alloc_new w _
theorem A39{w:FU}{ops:Array Oper}{o:Oper}{a:Act}{K:Act->FU->Prop}{Q:Exit->Act->FU->Prop}{E:Prop}(hgd:FI o (yielded ops a.tmps)=true)(s x:Operand)
  (ho:o.op=.call {callee:=.builtin .append,args:=#[s,x],argTypes:=#[35,35]})
  (v:FV) (ns:List Nt) (hs:a.eval s=v) (hown:GZ w 0 v ns)
  (q:Nat) (hx:a.eval x=FQ (FZ ⟨q,0,FX⟩) 1 1) (t:Nt) (hnews:JF w q t) (hl:(ns.length+1)*32<=140737488355328)
  (h:∀a' c' w',GZ w' 0 (FQ a' (ns.length+1) c') (ns++[t])->w.grownBy w' v.ownBlock->((Value.slice a' (ns.length+1) c').ownBlock=v.ownBlock\/(Value.slice a' (ns.length+1) c').ownBlock=FZ w.heap.size)->K (a.put o.dst (FQ a' (ns.length+1) c')) w'):
  if FI o (yielded ops a.tmps)=true then Oper.wp prog o a w K Q else E:=by
 rw[if_pos hgd];obtain⟨i0,hi0,hz0,hz1,hz2⟩:=AZ1;obtain⟨v',w',hr,h2,h3,_,h5⟩:=run_append_own_at (P:=prog) w 0 35 o.type 252 i0 _ 3 32 underlying35 hi0 hz0 hz1 hz2 rfl (by decide) v ns.length (G9 ns) hown.row ⟨q,0,FX⟩ 1 1 (A12 t) rfl (RS hnews) (Lay.one t) (by simp only[maxLen];omega) hl (AY _);have h2':GZ w' 0 v' (ns++[t]):=GZ.LD (by rw[AO,JE];exact h2);obtain⟨a',c',rfl,_⟩:=h2'.slice;have hlen:(ns++[t]).length=ns.length+1:=by simp
 rw[hlen]at h2' hr h5;unfold Oper.wp execOp;simp only[ho,resolve,invoke,builtin,DX,EM,DY,List.map_toArray,List.map_cons,List.map_nil,hs,hx,hr];exact h a' c' w' h2' h3 h5
theorem B37{k:Nat}{e:Ev}(h:ws[k]?=FZ x):TW (ws.take (k+1)) e=TW (ws.take k) e++(if zJ x e=true then [AY2 e x]else []):=by
 rw[PO h];simp only[TW,EW,List.map_append]
 cases hx:zJ x e<;>simp[hx]
theorem C60(ws:List Wa)(e:Ev)(k:Nat):(TW (ws.take k) e).length<=k:=by
 have:=qX (ws.take k) e;have h2:(ws.take k).length<=k:=by simp;omega
 omega
theorem BN2(q cap B:Nat)(ws:List Wa)(e:Ev)(w:FU)(hq:q<w.heap.size)(hr:IE w q 0 (G9 ws))(hE:JF w B e)(hl:ws.length*32<=140737488351232)(hp:e.p.length<=140737488355328):
  FW prog 172 #[FQ (FZ ⟨q,0,FX⟩) ws.length cap,evV e,.func (.func 170) #[] #[P0 B]] w fun r w'=>
   ∃v',r=.returned v'/\GZ w' w.heap.size v' (TW ws e)/\B0 w w':=by
 obtain⟨w0,hw0⟩:∃w0,w.alloc (FT #[I0 e.k,S0 e.p] 246)=w0:=⟨_,rfl⟩;have hz0:w0.heap.size=w.heap.size+1:=by rw[<-hw0];simp
 have hb0:B0 w w0:=by rw[<-hw0];exact G7 _ _
 have X0:JF w0 w.heap.size e:=by rw[<-hw0];exact A10 w e.k e.p
 have HR:=G6 (fun W (hW:B0 w0 W)=>(hr.kept hb0 hq).kept hW (by omega));have HX:=G6 (fun W (hW:B0 w0 W)=>(⟨by simpa using (JF.row ((hW.block _ (by omega)).trans X0) 0 _ rfl),by simpa using (JF.row ((hW.block _ (by omega)).trans X0) 1 _ rfl)⟩:W.cell? ⟨w.heap.size,0,FX⟩=FZ (I0 e.k)/\W.cell? ⟨w.heap.size,1,FX⟩=FZ (S0 e.p)));have CF:=G6 (fun W (hW:B0 w0 W) x=>xJ x e B W ((hW.block _ (by have:=(AB.1 hE).1;omega)).trans ((hb0.block _ (AB.1 hE).1).trans hE)));have CC:=fun W=>oQ e.p W (by omega);have HB0:=G6 hb0;clear hr hE X0 hb0;unfold evV;unfold waV at CF;go_enter func172,ntmps172;go_wp2_with fail
 try rw[hw0]
 go_loopg [7,12] ws.length (fun kx s7 s12 wr=>∃ (k:Nat) (va:Option Addr) (vc:Nat),s12=I0 k/\s7=FQ va (TW (ws.take k) e).length vc/\k<=ws.length/\ws.length-k<=kx/\Hid (GZ wr w0.heap.size (FQ va (TW (ws.take k) e).length vc) (TW (ws.take k) e))/\Hid (B0 w0 wr))
 case atStart=>exact⟨0,FX,0,rfl,rfl,AY _,A8 _,G6 (.inl ⟨rfl,rfl⟩),G6 (AA _ _)⟩
 case round=>
  obtain⟨k,va,vc,rfl,rfl,hk,hg,hO,hB⟩:=hrel;by_cases hlt:k<ws.length
  .obtain⟨x,hx⟩:∃x,ws[k]?=FZ x:=⟨_,AL hlt⟩;have qr:=G5 HR wr (G5 hB);have d0:=qr.w0 hx;have d1:=qr.w1 hx;have d2:=qr.w2 hx;simp only[BI]at d0 d1 d2;have hqw:q<wr.heap.size:=by have:=(G5 hB).size;omega
   have hts:=B37 (e:=e) hx;have hnl:=C60 ws e k;obtain⟨N,hN⟩:∃N,TW (ws.take k) e=N:=⟨_,rfl⟩;rw[hN]at hO hts hnl;have hB1:=G8 (G5 hB) (G7 wr (FT #[I0 x.s,I0 x.k,S0 x.p] 98));have CX:=G5 CF _ hB1 x;have HB1:=G6 hB1;rw[hN];clear qr hx hN hB1
   cases hpx:zJ x e
   .rw[hpx]at CX hts;simp only[Bool.false_eq_true,if_false,DL]at hts;have HTS:=G6 hts;clear hts hpx;go_wp2_with fail;refine CX.mono ?_;rintro r w1 ⟨rfl,hb1⟩;have HB2:=G6 (G8 (G5 HB1) hb1);have HO2:=G6 (((G5 hO).next (G7 wr (FT #[I0 x.s,I0 x.k,S0 x.p] 98))).next hb1);clear CX hb1;go_wp2_with fail
    go_roundg (ws.length-(k+1))
    case measure=>omega
    case rel=>exact⟨k+1,va,vc,rfl,by rw[G5 HTS],by omega,A8 _,by rw[G5 HTS];exact HO2,HB2⟩
   .rw[hpx]at CX hts;simp only[if_true]at hts;have HTS:=G6 hts;clear hts hpx;go_wp2_with fail;refine CX.mono ?_;rintro r w1 ⟨rfl,hb1⟩;have HB2:=G6 (G8 (G5 HB1) hb1);have O2:=((G5 hO).next (G7 wr (FT #[I0 x.s,I0 x.k,S0 x.p] 98))).next hb1;have K1:∀w2,B0 w1 w2->w2.cell? ⟨wr.heap.size,0,FX⟩=FZ (I0 x.s)/\w2.cell? ⟨w.heap.size,0,FX⟩=FZ (I0 e.k)/\w2.cell? ⟨w.heap.size,1,FX⟩=FZ (S0 e.p):=by
     intro w2 hb2;have hbb:=G8 (G5 HB2) hb2;refine⟨?_,(G5 HX w2 hbb).1,(G5 HX w2 hbb).2⟩;have hz:wr.heap.size<w1.heap.size:=by have:=hb1.size;simp at this;omega
     rw[hb2.cell (p:=⟨wr.heap.size,0,FX⟩) hz,hb1.cell (p:=⟨wr.heap.size,0,FX⟩) (by simp)];simp
    obtain⟨m0,m1,m2⟩:=K1 w1 (AA _ _);have HK1:=G6 K1;have KE:=G6 (fun w2 (hb2:B0 w1 w2)=>((O2.next hb2).next (G7 w2 (FT #[I0 x.s,I0 e.k,S0 e.p] 252))).lower (AY w0.heap.size));have KA:=G6 (eH O2);have K2:∀ (w2 w3:FU) (a3:Option Addr) (c3:Nat),B0 w1 w2->GZ w3 0 (FQ a3 (N.length+1) c3) (N++[⟨x.s,e.k,e.p⟩])->(w2.alloc (FT #[I0 x.s,I0 e.k,S0 e.p] 252)).grownBy w3 (Value.slice va N.length vc).ownBlock->
      ((Value.slice a3 (N.length+1) c3).ownBlock=(Value.slice va N.length vc).ownBlock\/(Value.slice a3 (N.length+1) c3).ownBlock=FZ (w2.alloc (FT #[I0 x.s,I0 e.k,S0 e.p] 252)).heap.size)->
      GZ w3 w0.heap.size (FQ a3 (N.length+1) c3) (N++[⟨x.s,e.k,e.p⟩])/\B0 w0 w3:=by
     intro w2 w3 a3 c3 hb2 ho3 hg3 hl3;have hbb:=G8 (G8 (G5 HB2) hb2) (G7 w2 (FT #[I0 x.s,I0 e.k,S0 e.p] 252));refine⟨kT ho3 (fun j hj=>?_),hbb.grown hg3 hbb.size (G5 KA)⟩;rcases hl3 with h|h
     .rw[h]at hj;exact G5 KA j hj
     .rw[h]at hj;cases hj;exact hbb.size
    have HK2:=G6 K2;have hsz1:wr.heap.size<w1.heap.size:=by have:=hb1.size;simp at this;omega
    have hsz2:w.heap.size<w1.heap.size:=by have:=(G5 HB2).size;omega
    have hNl:(N.length+1)*32<=140737488355328:=by omega
    clear CX hb1 K1 K2 O2;go_wp2_with fail
    go_region_law (first
     |(refine A39 (by kernel_rfl) _ _ (by rfl) (FQ va N.length vc) N (by rfl) (G5 KE w2 (G5 HB3)) w2.heap.size (by rfl) ⟨x.s,e.k,e.p⟩ (BN1 w2 ⟨x.s,e.k,e.p⟩) hNl ?_;intro a3 c3 w3 ho3 hg3 hl3;obtain⟨o3,b3⟩:=G5 HK2 w2 w3 a3 c3 (G5 HB3) ho3 hg3 hl3;have HO3:=G6 o3;have HB4:=G6 b3;clear ho3 hg3 hl3 o3 b3)
     |(go_simp;refine(CC _).mono ?_;rintro r w2 ⟨rfl,hb2⟩;have HB3:Hid (B0 w1 w2):=(by first|exact hb2|exact I9 hb2);obtain⟨p0,p1,p2⟩:=G5 HK1 w2 (G5 HB3);clear hb2))
    all_goals
     go_wp2_with fail
     go_roundg (ws.length-(k+1))
     case measure=>omega
     case rel=>exact⟨k+1,_,_,rfl,by rw[G5 HTS,AO];rfl,by omega,A8 _,by rw[G5 HTS,AO];exact HO3,HB4⟩
  .obtain rfl:k=ws.length:=by omega
   rw[DU]at hO⊢;have HB:=G6 (G8 (G5 HB0) (G5 hB));have hO2:Hid (GZ wr w.heap.size (FQ va (TW ws e).length vc) (TW ws e)):=G6 ((G5 hO).lower (by omega));clear hO;go_wp2_with fail;go_ret;exact⟨_,rfl,G5 hO2,G5 HB⟩
theorem AD7(pr:Wa->Bool):∀ws:List Wa,(∀a∈ws,pr a=false)\/∃A x R,ws=A++x::R/\(∀a∈A,pr a=false)/\pr x=true
 |[]=>.inl (by simp)
 |y::r=>by
  cases h:pr y
  .rcases AD7 pr r with h1|⟨A,x,R,rfl,h1,h2⟩
   .exact .inl (by intro a ha;rcases BO.1 ha with rfl|ha;exact h;exact h1 a ha)
   .exact .inr ⟨y::A,x,R,rfl,(by intro a ha;rcases BO.1 ha with rfl|ha;exact h;exact h1 a ha),h2⟩
  .exact .inr ⟨[],y,r,rfl,by simp,h⟩
theorem xK(h:∀a∈ws,pr a=false):ws.filter (fun x=> !pr x)=ws:=by
 rw[List.filter_eq_self];intro a ha;simp[h a ha]
theorem AD8{g:FuncId}{I:FU->Prop}(C:CK4 g B q pr I)(cap:Nat)(ws:List Wa)(w:FU)(hi:I w)(ho:J9 w q cap ws)(hl:ws.length<=140737488355328):
  FW prog 173 #[FQ (FZ ⟨q,0,FX⟩) ws.length cap,.func (.func g) #[] #[P0 B]] w fun e w'=>
   e=.returned (FQ (FZ ⟨q,0,FX⟩) (ws.filter (fun x=> !pr x)).length cap)/\J9 w' q cap (ws.filter (fun x=> !pr x))/\w.grownBy w' (FZ q):=by
 rcases AD7 pr ws with hA|⟨A,x,R,hws,hA,hx⟩
 .rw[xK hA];have CN:=B36 C _ ws w hi (GZ.seq (.inr ⟨q,cap,rfl,AY _,ho⟩)) hl hA;have HO:=G6 ho;have two:=C.two;clear C hA hi ho;rcases two with rfl|rfl
  all_goals
   go_enter func173,ntmps173;go_wp2_with fail;refine CN.mono ?_;rintro e w1 ⟨rfl,hb1⟩;have HB:=G6 hb1;clear CN hb1;go_wp2_with fail;go_ret;exact⟨rfl,(G5 HO).next (G5 HB),LP (G5 HB)⟩
 .obtain⟨n,hn⟩:∃n,ws.length=n:=⟨_,rfl⟩;have hAn:A.length<n:=by rw[<-hn,hws];simp
  have hnc:n<=cap:=by rw[<-hn];exact ho.le
  have hcl:=ho.capLe;simp only[maxLen]at hcl;have CA:=C59 C q 0 cap A x R w hi ho.lt (by rw[<-hws];exact ho.row) (by rw[<-hws];exact hl) hA hx;rw[<-hws,hn]at CA;obtain⟨T,hT⟩:∃T,ws.filter (fun x=> !pr x)=T:=⟨_,rfl⟩;rw[hn]at hl⊢;rw[hT];have HTk:Hid (∀j,n<=j->(ws.take j).filter (fun x=> !pr x)=T):=G6 (fun j hj=>by rw[BL (by omega)];exact hT);have HF0:Hid ((ws.take (A.length+1)).filter (fun x=> !pr x)=A):=G6 (by
   rw[hws,List.take_append,BL (by omega),EW,xK hA];simp[hx])
  have HG0:Hid (ws=A++[x]++ws.drop (A.length+1)):=G6 (by
   rw[hws];simp)
  have HN:=G6 hn;have HO:=G6 ho;have HC:=G6 C;have HI:=G6 (fun W (hW:w.grownBy W (FZ q))=>C.keep w W hi hW);have two:=C.two;clear hn hws hA hx ho C hT hi;rcases two with rfl|rfl
  all_goals
   go_enter func173,ntmps173;go_wp2_with fail;refine CA.mono ?_;rintro e w1 ⟨rfl,hb1⟩;have HB:=G6 hb1;clear CA hb1;go_wp2_with fail
   go_loopg [5,6] n (fun kx s5 s6 wr=>∃ (j:Nat) (F G:List Wa),s5=I0 F.length/\s6=I0 j/\j<=n/\n-j<=kx/\F.length+G.length=j/\0<G.length/\Hid ((ws.take j).filter (fun x=> !pr x)=F)/\Hid (J9 wr q cap (F++G++ws.drop j))/\Hid (w.grownBy wr (FZ q)))
   case atStart=>exact⟨A.length+1,A,[x],rfl,rfl,by omega,by omega,rfl,by simp,HF0,G6 (by rw[<-G5 HG0];exact(G5 HO).next (G5 HB)),G6 (LP (G5 HB))⟩
   case round=>
    obtain⟨j,F,G,rfl,rfl,hj,hg,hFG,hG0,hF,hO,hW⟩:=hrel;have hFj:F.length<j:=by omega
    by_cases hlt:j<n
    .obtain⟨y,hy⟩:∃y,ws[j]?=FZ y:=⟨_,AL (by rw[G5 HN];exact hlt)⟩;have hd:ws.drop j=y::ws.drop (j+1):=by
      obtain⟨h1,h2⟩:=AU.1 hy;rw[List.drop_eq_getElem_cons h1,h2]
     have hf:(ws.take (j+1)).filter (fun x=> !pr x)=F++(if pr y=true then []else [y]):=by
      rw[PO hy,EW,G5 hF]
      cases hpy:pr y<;>simp[hpy]
     rw[hd]at hO;have hyr:(F++G++y::ws.drop (j+1))[j]?=FZ y:=by
      rw[List.getElem?_append_right (by simp;omega)];simp[hFG]
     obtain⟨z,G',rfl⟩:∃z G',G=z::G':=by
      cases G with
      |nil=>simp at hG0
      |cons z G'=>exact⟨z,G',rfl⟩
     have hzr:(F++z::G'++y::ws.drop (j+1))[F.length]?=FZ z:=by simp
     have d0:=(G5 hO).row.w0 hyr;have d1:=(G5 hO).row.w1 hyr;have d2:=(G5 hO).row.w2 hyr;have hq:=(G5 hO).lt;have hqn:q≠wr.heap.size:=by omega
     simp only[BI]at d0 d1 d2;have HW1:=G6 (IL (G5 hW) (LP (G7 wr (FT #[I0 y.s,I0 y.k,S0 y.p] 98))));have CX:=(G5 HC).gives _ y (G5 HI _ (G5 HW1));have hjn:(j:Int)<(n:Int):=by omega
     by_cases hp:pr y=true
     .rw[hp]at CX hf;rw[if_pos rfl,DL]at hf;have HF:=G6 hf;clear hy hd hf hyr hp hzr;go_wp2_with fail;refine CX.mono ?_;rintro e w2 ⟨rfl,hb2⟩;have HO2:Hid (J9 w2 q cap (F++(z::G'++[y])++ws.drop (j+1))):=G6 (by
       have:=((G5 hO).next (G7 wr (FT #[I0 y.s,I0 y.k,S0 y.p] 98))).next hb2;simpa using this)
      have HW2:=G6 (IL (G5 HW1) (LP hb2));clear CX hb2;go_wp2_with fail
      go_roundg (n-(j+1))
      case measure=>omega
      case rel=>exact⟨j+1,F,z::G'++[y],rfl,rfl,by omega,A8 _,by simp at hFG⊢;omega,by simp,HF,HO2,HW2⟩
     .have hp':pr y=false:=by simpa using hp
      rw[hp']at CX;rw[if_neg hp]at hf;have HF:=G6 hf;clear hy hd hf hyr hp hp';have hFn:(F.length:Int)<(n:Int):=by omega
      go_wp2_with fail;refine CX.mono ?_;rintro e w2 ⟨rfl,hb2⟩;have O2:=((G5 hO).next (G7 wr (FT #[I0 y.s,I0 y.k,S0 y.p] 98))).next hb2;have c0:w2.cell? ⟨wr.heap.size,0,FX⟩=FZ (I0 y.s):=by rw[hb2.cell (p:=⟨wr.heap.size,0,FX⟩) (by simp)];simp
      have c1:w2.cell? ⟨wr.heap.size,1,FX⟩=FZ (I0 y.k):=by rw[hb2.cell (p:=⟨wr.heap.size,1,FX⟩) (by simp)];simp
      have c2:w2.cell? ⟨wr.heap.size,2,FX⟩=FZ (S0 y.p):=by rw[hb2.cell (p:=⟨wr.heap.size,2,FX⟩) (by simp)];simp
      have e0:=O2.row.w0 hzr;have e1:=O2.row.w1 hzr;have e2:=O2.row.w2 hzr;simp only[BI]at e0 e1 e2;have f0:=O2.frozen (F.length*3);have f1:=O2.frozen (F.length*3+1);have f2:=O2.frozen (F.length*3+2);have hz2:wr.heap.size<w2.heap.size:=by have:=hb2.size;simp at this;omega
      have HO3:Hid (J9 (((w2.setCell ⟨q,F.length*3,FX⟩ (I0 y.s)).setCell ⟨q,F.length*3+1,FX⟩ (I0 y.k)).setCell ⟨q,F.length*3+2,FX⟩ (S0 y.p)) q cap ((F++[y])++(G'++[y])++ws.drop (j+1))):=G6 (by
       have O2':J9 w2 q cap (F++z::(G'++y::ws.drop (j+1))):=by simpa using O2
       have:=O2'.vX y;have e:F++[y]++(G'++[y])++ws.drop (j+1)=F++y::(G'++y::ws.drop (j+1)):=by simp
       rw[e];exact this)
      have HW3:Hid (w.grownBy (((w2.setCell ⟨q,F.length*3,FX⟩ (I0 y.s)).setCell ⟨q,F.length*3+1,FX⟩ (I0 y.k)).setCell ⟨q,F.length*3+2,FX⟩ (S0 y.p)) (FZ q)):=
       G6 (IL (IL (IL (IL (G5 HW1) (LP hb2)) (QC _)) (QC _)) (QC _))
      clear CX hb2 O2 hzr;go_wp2_with fail
      go_roundg (n-(j+1))
      case measure=>omega
      case rel=>exact⟨j+1,F++[y],G'++[y],by rw[AO];rfl,rfl,by omega,A8 _,by simp at hFG⊢;omega,by simp,HF,HO3,HW3⟩
    .obtain rfl:j=n:=by omega
     have hTF:T=F:=((G5 HTk j (A8 _)).symm.trans (G5 hF));have OF:J9 wr q cap F:=J9.head (B:=G++ws.drop j) (by have:=G5 hO;rwa[BQ]at this);have CS2:∀ty c,(Builtin.clear_ #[62] ty #[FQ (FZ ⟨q,F.length*3,FX⟩) (j-F.length) c]).run prog wr=.ok (.tuple #[]) (wr.setCells q (F.length*3) (ZA (j-F.length))):=fun ty c=>
      AO2 wr ty q _ _ c (by omega) (fun i hi=>OF.some (show F.length*3+i<cap*3 by omega)) (fun i hi=>OF.frozen _)
     have FIN:Hid (J9 (wr.setCells q (F.length*3) (ZA (j-F.length))) q cap F/\w.grownBy (wr.setCells q (F.length*3) (ZA (j-F.length))) (FZ q)):=
      G6 ⟨OF.spare _ _ (A8 _) (by rw[VK];show _<=cap*3;omega),IL (G5 hW) (I5 _ _ _)⟩
     have hcn:¬ (cap=F.length):=by omega
     have hFc:F.length<=cap:=by omega
     have hFn:F.length<=j:=by omega
     have hjj:¬ ((j:Int)<(j:Int)):=by omega
     clear OF hO hW hF HTk HF0 HG0;subst hTF;go_wp2_with fail;go_ret;exact⟨rfl,(G5 FIN).1,(G5 FIN).2⟩
theorem AO3(ws:List Wa)(es:List Ev)(k:Nat)(e:Ev)(h:es[k]?=FZ e):OX ws (es.take (k+1))=OX ws (es.take k)++TW (LG ws (es.take k)) e:=by
 rw[PO h,AY3];simp[OX]
theorem AO4(ws:List Wa)(es:List Ev)(k:Nat)(e:Ev)(h:es[k]?=FZ e):LG ws (es.take (k+1))=nD (LG ws (es.take k)) e:=by
 rw[PO h,AY4];simp[LG]
theorem nK{w:FU}{ops:Array Oper}{rest:List Oper}{o:Oper}{a:Act}{Q:Exit->Act->FU->Prop}(hgd:o.guard=FX)(s x:Operand)
  (ho:o.op=.call {callee:=.builtin .append,args:=#[s,x],argTypes:=#[35,35]})
  (v u:FV) (ns ms:List Nt) (C:Nat) (hs:a.eval s=v) (hown:GZ w 0 v ns) (hx:a.eval x=u) (hu:GZ w C u ms) (hl:(ns.length+ms.length)*32<=140737488355328)
  (h:∀a' c' w',GZ w' 0 (FQ a' (ns.length+ms.length) c') (ns++ms)->w.grownBy w' v.ownBlock->((Value.slice a' (ns.length+ms.length) c').ownBlock=v.ownBlock\/(Value.slice a' (ns.length+ms.length) c').ownBlock=FZ w.heap.size)->wpList prog ops Q rest (a.put o.dst (FQ a' (ns.length+ms.length) c')) w'):
  wpList prog ops Q (o::rest) a w:=by
 refine wpList_plain hgd fun K hK=>?_;obtain⟨i0,hi0,hz0,hz1,hz2⟩:=AZ1;rcases hu with⟨rfl,rfl⟩|⟨g,cap,rfl,_,hr⟩
 .obtain⟨a',c',rfl,_⟩:=hown.slice;have hrun:=run_append_owned_none (P:=prog) (w:=w) 0 35 o.type 252 i0 3 underlying35 hi0 _ ns.length (G9 ns) hown.row;unfold Oper.wp execOp;simp only[ho,resolve,invoke,builtin,DX,EM,DY,List.map_toArray,List.map_cons,List.map_nil,hs,hx,hrun];exact hK _ _ (h a' c' w (by rw[DL];exact hown) (World.grownBy.refl _ _) (.inl rfl))
 .obtain⟨v',w',hrun,h2,h3,_,h5⟩:=run_append_own_at (P:=prog) w 0 35 o.type 252 i0 _ 3 32 underlying35 hi0 hz0 hz1 hz2 rfl (by decide) v ns.length (G9 ns) hown.row ⟨g,0,FX⟩ ms.length cap (G9 ms) (GX ms) (fun j y hj=>by rw[Addr.add_lit];exact hr.row j y hj) (JL ms) (by simp only[maxLen];omega) hl (AY _);have h2':GZ w' 0 v' (ns++ms):=GZ.LD (by rw[AO,H8];exact h2);obtain⟨a',c',rfl,_⟩:=h2'.slice;rw[AO]at h2' hrun h5;unfold Oper.wp execOp;simp only[ho,resolve,invoke,builtin,DX,EM,DY,List.map_toArray,List.map_cons,List.map_nil,hs,hx,hrun];exact hK _ _ (h a' c' w' h2' h3 h5)
theorem JF.grown{V:FU}{e:Ev}(h:JF W B e)(hg:W.grownBy V (FZ q))(hne:B≠q):JF V B e:=
 (hg.block B (AB.1 h).1 (by simp[hne])).trans h
theorem AO5(B q:Nat)(e:Ev)(hne:B≠q):CK4 170 B q (fun x=>zJ x e) (fun W=>JF W B e):=
 ⟨.inl rfl,fun _ _ h hg=>h.grown hg hne,fun W x h=>xJ x e B W h⟩
theorem BN3(v u:FV)(ws:List Wa)(es:List Ev)(w:FU)(hv:IU w v ws)(hu:IU w u es)(hs:nI ws)(he:BY0 es)(hl:ws.length*32<=140737488351232)(hle:es.length<=140737488355328):
  FW prog 130 #[v,u] w fun r w'=>∃vn vl,r=.returned (.tuple #[vn,vl])/\GZ w' w.heap.size vn (OX ws es)/\(∃g,vl=FQ (FZ ⟨g,0,FX⟩) (LG ws es).length (ws.length+1)/\w.heap.size<=g/\J9 w' g (ws.length+1) (LG ws es))/\B0 w w':=by
 have CC:=ZT v ws w hv hs hl;have KR:∀W,B0 w W->∀k x,es[k]?=FZ x->∃b off cap,u=FQ (FZ ⟨b,off,FX⟩) es.length cap/\b<w.heap.size/\IE W b off (G9 es):=fun W hW k x hx=>by
  obtain⟨b,off,cap,e,hb,hr,_,_⟩:=NZ hu (fun h0=>by obtain⟨h1,_⟩:=AU.1 hx;rw[h0]at h1;simp at h1);exact⟨b,off,cap,e,hb,hr.kept hW hb⟩
 have HKR:=G6 KR;have HE:=G6 he;obtain⟨va,vc,rfl⟩:=GK hv;obtain⟨ua,uc,rfl⟩:=GK hu;obtain⟨i0,hi0,hz0,hz1,hz2⟩:=AZ1;clear hv hu hs he KR;go_enter func130,ntmps130;go_wp2_with fail;refine CC.mono ?_;rintro r w0 ⟨q,rfl,hq,ho,hb⟩;have HO:Hid (J9 w0 q (ws.length+1) ws):=G6 ho;have HB:=G6 hb;clear CC ho hb;go_wp2_with fail
 go_loopg [6,7,15] es.length (fun kx s6 s7 s15 wr=>∃ (k:Nat) (na:Option Addr) (nc:Nat),s15=I0 k/\s6=FQ na (OX ws (es.take k)).length nc/\s7=FQ (FZ ⟨q,0,FX⟩) (LG ws (es.take k)).length (ws.length+1)/\k<=es.length/\es.length-k<=kx/\
  Hid (GZ wr w.heap.size (FQ na (OX ws (es.take k)).length nc) (OX ws (es.take k)))/\Hid ((Value.slice na (OX ws (es.take k)).length nc).ownBlock≠FZ q)/\Hid (J9 wr q (ws.length+1) (LG ws (es.take k)))/\Hid (B0 w wr))
 case atStart=>exact⟨0,FX,0,rfl,rfl,rfl,AY _,A8 _,G6 (.inl ⟨rfl,rfl⟩),G6 (by simp[D8]),HO,HB⟩
 case round=>
  obtain⟨k,na,nc,rfl,rfl,rfl,hk,hg,hN,hnq,hO,hB⟩:=hrel;by_cases hlt:k<es.length
  .obtain⟨e,hx⟩:∃e,es[k]?=FZ e:=⟨_,AL hlt⟩;obtain⟨b,off,cap,he,hb,qr⟩:=G5 HKR wr (G5 hB) k e hx;simp only[AP]at he;obtain⟨rfl,_,rfl⟩:=he;have d0:=qr.e0 hx;have d1:=qr.e1 hx;have hep:=G5 HE e (AZ hx);have hbw:b<wr.heap.size:=AX hb (G5 hB).size;have HTN:=G6 (AO3 ws es k e hx);have HTW:=G6 (AO4 ws es k e hx);have hfl:=iI (es.take k) ws;obtain⟨N,hN'⟩:∃N,OX ws (es.take k)=N:=⟨_,rfl⟩;obtain⟨L,hL'⟩:∃L,LG ws (es.take k)=L:=⟨_,rfl⟩;rw[hN']at hN hnq HTN hfl⊢;rw[hL']at hO HTN HTW hfl⊢;have htl:=qX L e;clear qr hx hN' hL';obtain⟨wx,hwx⟩:∃wx,wr.alloc (FT #[I0 e.k,S0 e.p] 246)=wx:=⟨_,rfl⟩;have hbx:B0 wr wx:=by rw[<-hwx];exact G7 _ _
   have hzx:wx.heap.size=wr.heap.size+1:=by rw[<-hwx];simp
   have X:JF wx wr.heap.size e:=by rw[<-hwx];exact A10 wr e.k e.p
   have hqr:=(G5 hO).lt;have x0:wx.cell? ⟨wr.heap.size,0,FX⟩=FZ (I0 e.k):=by simpa using X.row 0 _ rfl
   have x1:wx.cell? ⟨wr.heap.size,1,FX⟩=FZ (S0 e.p):=by simpa using X.row 1 _ rfl
   have CT:=BN2 q (ws.length+1) wr.heap.size L e wx (by omega) ((G5 hO).next hbx).row X (by omega) hep;unfold evV at CT;have KT:∀w2 v2,GZ w2 wx.heap.size v2 (TW L e)->B0 wx w2->
     GZ w2 w.heap.size (FQ na N.length nc) N/\J9 w2 q (ws.length+1) L/\JF w2 wr.heap.size e/\B0 w w2/\(∀j,v2.ownBlock=FZ j->j≠q/\w.heap.size<=j/\j≠wr.heap.size)/\IU w2 v2 (TW L e):=by
    intro w2 v2 h2 hb2;have hb3:=G8 hbx hb2;refine⟨(G5 hN).next hb3,(G5 hO).next hb3,(hb2.block _ (by omega)).trans X,G8 (G5 hB) hb3,fun j hj=>?_,h2.seq⟩;have:=eH h2 j hj;have:=(G5 hB).size;omega
   have HKT:=G6 KT;have HXZ:=G6 hzx;have hno:(Value.slice na N.length nc).ownBlock≠FZ wr.heap.size:=fun h=>by have:=(G5 hN).low _ h;omega
   have HNO:=G6 hno;clear KT X hno;go_wp2_with fail;refine CT.mono ?_;rintro r w2 ⟨v2,rfl,ho2,hb2⟩;obtain⟨n2,o2,x2,b2,k2,s2⟩:=G5 HKT w2 v2 ho2 hb2;have hzz:wr.heap.size<w2.heap.size:=by have:=hb2.size;omega
   have hq2:=o2.lt;have HQ:=G6 (show wr.heap.size≠q by omega);have HN2:=G6 n2;have HO2:=G6 o2;have HX2:=G6 x2;have HB2:=G6 b2;have HV2:=G6 ho2;have hml:(N.length+(TW L e).length)*32<=140737488355328:=by omega
   have hLl:L.length<=140737488355328:=by omega
   obtain⟨M,hM⟩:∃M,TW L e=M:=⟨_,rfl⟩;rw[hM]at HV2 hml HTN;have HTL:Hid (∀L',L.filter (fun x=> !zJ x e)=L'->LG ws (es.take (k+1))=L'):=G6 (fun L' h=>(G5 HTW).trans h);obtain⟨v2a,v2c,rfl,_⟩:=(G5 HV2).slice;clear n2 o2 x2 b2 k2 s2 ho2 hb2 CT hM hfl htl hbx hzx hep HKT x0 x1 hwx;go_wp2_with (at_builtin;refine nK rfl _ _ rfl (FQ na N.length nc) (FQ v2a M.length v2c) N M wx.heap.size rfl ((G5 HN2).lower (AY _)) rfl (G5 HV2) hml ?_);intro a3 c3 w3 ho3 hg3 hl3;have hab:=eH (G5 HN2);have B3:B0 w w3:=(G5 HB2).grown hg3 (G5 HB2).size hab;have N3:GZ w3 w.heap.size (FQ a3 (N.length+M.length) c3) (N++M):=kT ho3 (fun j hj=>by
    rcases hl3 with h|h
    .rw[h]at hj;exact hab j hj
    .rw[h]at hj;cases hj;exact(G5 HB2).size)
   have Q3:(Value.slice a3 (N.length+M.length) c3).ownBlock≠FZ q:=by
    rcases hl3 with h|h
    .rw[h];exact G5 hnq
    .rw[h];intro h';cases h';omega
   have O3:J9 w3 q (ws.length+1) L:=by
    obtain⟨rest,h1,h2⟩:=G5 HO2;exact⟨rest,(hg3.block q hq2 (fun h=>G5 hnq h.symm)).trans h1,h2⟩
   have X3:JF w3 wr.heap.size e:=(hg3.block _ hzz (fun h=>G5 HNO h.symm)).trans (G5 HX2);have CD:=AD8 (AO5 wr.heap.size q e (G5 HQ)) (ws.length+1) L w3 X3 O3 hLl;have HB3:=G6 B3;have HN3:=G6 N3;have HQ3:=G6 Q3;obtain⟨L',hL'⟩:∃L',L.filter (fun x=> !zJ x e)=L':=⟨_,rfl⟩;have HL':=G6 (G5 HTL L' hL');rw[hL']at CD;clear ho3 hg3 hl3 hab B3 N3 Q3 O3 X3 hL';go_wp2_with fail;refine CD.mono ?_;rintro r w4 ⟨rfl,ho4,hg4⟩;have HB4:=G6 ((G5 HB3).grown hg4 (G5 HB3).size (fun j hj=>by cases hj;exact hq));have HN4:=G6 ((G5 HN3).grown hg4 (fun j hj h=>G5 HQ3 (hj.trans h)));have HO4:=G6 ho4;clear CD ho4 hg4;go_wp2_with fail
   go_roundg (es.length-(k+1))
   case measure=>omega
   case rel=>
    refine⟨k+1,a3,c3,rfl,?_,?_,by omega,A8 _,?_,?_,?_,HB4⟩
    .rw[G5 HTN,AO]
    .rw[G5 HL']
    .rw[G5 HTN,AO];exact HN4
    .rw[G5 HTN,AO];exact HQ3
    .rw[G5 HL'];exact HO4
  .obtain rfl:k=es.length:=by omega
   rw[DU]at hN hnq hO⊢;go_wp2_with fail
   go_ret2
   exact⟨_,_,rfl,G5 hN,⟨q,rfl,hq,G5 hO⟩,G5 hB⟩
theorem BN4(v:FV)(s:Int)(ws:List Wa)(w:FU)(hv:IU w v ws)(hs:nI ws)(hl:ws.length*32<=140737488351232):
  FW prog 131 #[v,I0 s] w fun r w'=>∃g,r=.returned (FQ (FZ ⟨g,0,FX⟩) (nG ws s).length (ws.length+1))/\w.heap.size<=g/\J9 w' g (ws.length+1) (nG ws s)/\B0 w w':=by
 have CC:=ZT v ws (w.alloc (FT #[I0 s] 3)) (hv.next (G7 _ _)) hs hl;obtain⟨va,vc,rfl⟩:=GK hv;have hLl:ws.length<=140737488355328:=by omega
 obtain⟨D,hD⟩:∃D,nG ws s=D:=⟨_,rfl⟩;rw[hD];have HD:Hid (ws.filter (fun x=> !decide (x.s=s))=D):=G6 hD;clear hv hs hD;go_enter func131,ntmps131;go_wp2_with fail;refine CC.mono ?_;rintro r w1 ⟨q,rfl,hq,ho,hb⟩;have hq1:w.heap.size+1<=q:=by simpa using hq
 have c1:w1.cell? ⟨w.heap.size,0,FX⟩=FZ (I0 s):=by rw[hb.cell (p:=⟨w.heap.size,0,FX⟩) (by simp)];simp
 have hz1:w.heap.size<w1.heap.size:=by have:=hb.size;simp at this;omega
 have K:CK4 174 w.heap.size q (fun x=>decide (x.s=s)) (fun W=>W.cell? ⟨w.heap.size,0,FX⟩=FZ (I0 s)/\w.heap.size<W.heap.size):=
  ⟨.inr rfl,fun _ _ h hg=>⟨hg.cell h.1 (by show FZ w.heap.size≠FZ q;simp;omega),AX h.2 hg.size⟩,fun W x h=>B35 x s w.heap.size W h.1 h.2⟩
 have CD:=AD8 K (ws.length+1) ws w1 ⟨c1,hz1⟩ ho hLl;have HB:=G6 (GU hb);rw[G5 HD]at CD;clear CC K ho hb c1 hq;go_wp2_with fail;refine CD.mono ?_;rintro r w2 ⟨rfl,ho2,hg2⟩;have HB2:=G6 ((G5 HB).grown hg2 (G5 HB).size (fun j hj=>by cases hj;omega));clear CD hg2;go_wp2_with fail;go_ret;exact⟨q,rfl,by omega,ho2,G5 HB2⟩
def eqW(x y:Wa):Bool:=x.s==y.s&&x.k==y.k&&x.p==y.p
theorem A55{y:Wa}:eqW x y=true↔x=y:=by
 obtain⟨a,b,c⟩:=x;obtain⟨d,e,f⟩:=y;simp[eqW,and_assoc]
def yC(ws:List Wa)(x:Wa):Bool:=ws.any (fun y=>eqW x y)
theorem BP5:yC ws x=true↔x∈ws:=by
 simp only[yC,List.any_eq_true];exact⟨fun⟨y,hy,h⟩=>by rw[A55.1 h];exact hy,fun h=>⟨x,h,A55.2 rfl⟩⟩
def uK(x:Wa):Int:=if x.k≠1/\x.k≠2 then 4 else if II x.p=false then 2 else if x.s<1\/2147483647<x.s then 3 else 0
def bZ(ws:List Wa)(x:Wa):Int:=if uK x≠0 then uK x else if yC ws x=true then 0 else if 400<=ws.length then 6 else 0
def pK(ws:List Wa)(x:Wa):List Wa:=if bZ ws x≠0 then []else if yC ws x=true then ws else ws++[x]
theorem C85(x y:Wa)(w:FU):(binOp .eql 98 (waV x) (waV y)).run prog w=.ok (.bool (eqW x y)) w:=by
 have u3:=underlying3;have a3:=isAgg3;have z3:=sizeOf3;have u9:=underlying9;have a9:=isAgg9;have z9:=sizeOf9;have hS:prog.underlying 98=FZ (.struct (prog.fieldsOf 98)):=by kernel_rfl
 have hp:prog.stoodInHeld 98=false:=by kernel_rfl
 simp only[waV];rw[run_eql_struct,show (10000:Nat)=9999+1 from rfl,run_equalIn_agg w 9999 98 _ _ hS hp];simp only[Program.fieldsOf,underlying98];go_simp;unfold eqW;by_cases h1:x.s=y.s<;>by_cases h2:x.k=y.k<;>by_cases h3:x.p=y.p<;>simp[h1,h2,h3]
theorem CM3(h:Below (w.heap.size+1) (w.alloc (FT #[I0 x.s,I0 x.k,S0 x.p] 98)) W):W.cell? ⟨w.heap.size,0,FX⟩=FZ (I0 x.s)/\W.cell? ⟨w.heap.size,1,FX⟩=FZ (I0 x.k)/\W.cell? ⟨w.heap.size,2,FX⟩=FZ (S0 x.p):=by
 have hb:W.heap[w.heap.size]?=FZ (FT #[I0 x.s,I0 x.k,S0 x.p] 98 (0,0)):=(h.block _ (by omega)).trans (heap_alloc_new w _);refine⟨?_,?_,?_⟩<;>simp[World.cell?,hb]
theorem C86(v:FV)(ws:List Wa)(x:Wa)(w:FU)(hv:IU w v ws)(hl:ws.length<=140737488355328):
  FW prog 137 #[v,waV x] w fun e w'=>(∃i:Int,e=.returned (I0 i)/\decide (0<=i)=yC ws x)/\B0 w w':=by
 have KR:∀W,B0 w W->∀ (k:Nat) (y:Wa),ws[k]?=FZ y->∃b off cap,v=FQ (FZ ⟨b,off,FX⟩) ws.length cap/\b<w.heap.size/\IE W b off (G9 ws):=fun W hW k y hx=>by
  obtain⟨b,off,cap,e,hb,hr,_,_⟩:=NZ hv (fun h0=>by obtain⟨h1,_⟩:=AU.1 hx;rw[h0]at h1;simp at h1);exact⟨b,off,cap,e,hb,hr.kept hW hb⟩
 have HKR:=G6 KR;have B0:B0 w (w.alloc (FT #[I0 x.s,I0 x.k,S0 x.p] 98)):=G7 _ _;have HB0:=G6 B0;obtain⟨va,vc,rfl⟩:=GK hv;have HQ:=G6 (fun y W=>C85 x y W);have HBX:=G6 (fun W (h:Below (w.heap.size+1) (w.alloc (FT #[I0 x.s,I0 x.k,S0 x.p] 98)) W)=>CM3 h);clear hv KR B0;unfold waV at HQ;unfold waV;go_enter func137,ntmps137;go_wp2_with fail
 go_loopg [8] ws.length (fun kx s8 wr=>∃k:Nat,s8=I0 k/\k<=ws.length/\ws.length-k<=kx/\Hid (yC (ws.take k) x=false)/\Hid (Below (w.heap.size+1) (w.alloc (FT #[I0 x.s,I0 x.k,S0 x.p] 98)) wr))
 case atStart=>exact⟨0,rfl,AY _,A8 _,G6 (by simp[yC]),G6 (AA _ _)⟩
 case round=>
  obtain⟨k,rfl,hk,hg,hh,hB⟩:=hrel;have HBw:Hid (B0 w wr):=G6 ((G5 HB0).trans ((G5 hB).mono (Nat.le_succ _)));obtain⟨c0,c1,c2⟩:=G5 HBX wr (G5 hB);by_cases hlt:k<ws.length
  .obtain⟨y,hy⟩:∃y,ws[k]?=FZ y:=⟨_,AL hlt⟩;obtain⟨b,off,cap,he,hb,q⟩:=G5 HKR wr (G5 HBw) k y hy;simp only[AP]at he;obtain⟨rfl,_,rfl⟩:=he;have d0:=q.w0 hy;have d1:=q.w1 hy;have d2:=q.w2 hy;have hkk:(k:Int)<(ws.length:Int):=by omega
   have qe:=G5 HQ y;have hms:yC (ws.take (k+1)) x=eqW x y:=by
    rw[PO hy,yC,List.any_append];have:=G5 hh;rw[yC]at this;rw[this];simp
   have HY:Hid (y∈ws):=G6 (AZ hy);clear q hy
   cases hxy:eqW x y
   .rw[hxy]at qe hms;have HMS:=G6 hms;clear hms hxy;go_wp2_with fail
    go_quiet (fail)
    go_wp2_with fail
    go_roundg (ws.length-(k+1))
    case measure=>omega
    case rel=>exact⟨k+1,rfl,by omega,A8 _,HMS,G6 ((G5 hB).trans ⟨rfl,rfl,rfl,A8 _,fun _ _=>rfl⟩)⟩
   .rw[hxy]at qe;have HH:Hid (yC ws x=true):=G6 (by
     rw[BP5,A55.1 hxy];exact G5 HY)
    clear hms hxy;go_wp2_with fail
    go_quiet (fail)
    go_wp2_with fail;go_ret;exact⟨⟨k,rfl,by rw[G5 HH];simp⟩,(G5 HBw).trans ⟨rfl,rfl,rfl,A8 _,fun _ _=>rfl⟩⟩
  .obtain rfl:k=ws.length:=by omega
   rw[DU]at hh;go_wp2_with fail;go_ret;exact⟨⟨-1,rfl,by rw[G5 hh];rfl⟩,G5 HBw⟩
theorem BP6(v:FV)(ws:List Wa)(x:Wa)(w:FU)(hv:IU w v ws)(hl:ws.length<=140737488355328):
  FW prog 99 #[v,waV x] w (R0 w (.bool (yC ws x))):=by
 have C:=C86 v ws x (w.alloc (FT #[I0 x.s,I0 x.k,S0 x.p] 98)) (hv.alloc _) hl;obtain⟨va,vc,rfl⟩:=GK hv;generalize yC ws x=r at C⊢;clear hv;unfold waV at C;unfold waV;go_enter func99,ntmps99;go_wp2_with fail;refine C.mono ?_;rintro e w1 ⟨⟨i,rfl,hi⟩,hb1⟩;have HB:=G6 (GU hb1);have HI:=G6 hi;clear C hb1 hi;go_wp2_with fail;go_ret;exact⟨SX (G5 HI),G5 HB⟩
theorem BP7(x:Wa)(w:FU):
  FW prog 98 #[waV x] w (R0 w (I0 (uK x))):=by
 obtain⟨s,k,p⟩:=x;have C:=fun W=>LY ⟨p.toArray⟩ W;have HE:=G6 (show ∀r:Int,r=(if k≠1/\k≠2 then 4 else if II p=false then 2 else if s<1\/2147483647<s then 3 else 0)->r=uK ⟨s,k,p⟩from fun r h=>h);unfold waV;simp only;obtain⟨r,hr⟩:∃r,uK ⟨s,k,p⟩=r:=⟨_,rfl⟩;have HR:=G6 hr;rw[hr];clear hr;rw[G5 HR]at HE;by_cases hk:k≠1/\k≠2
 .have h1:(k !=1)=true:=by simpa using hk.1
  have h2:(k !=2)=true:=by simpa using hk.2
  have h12:(k !=1&&k !=2)=true:=by rw[h1,h2];rfl
  have h3:r=4:=(G5 HE 4 (by rw[if_pos hk])).symm;subst h3;clear hk;go_enter func98,ntmps98;go_wp2_with fail;go_ret;exact⟨rfl,G7 _ _⟩
 .have hkk:k=1\/k=2:=by
   by_cases h:k=1
   .exact .inl h
   .by_cases h':k=2
    .exact .inr h'
    .exact absurd ⟨h,h'⟩ hk
  have HE2:=G6 (fun r' (h:r'=(if II p=false then 2 else if s<1\/2147483647<s then 3 else 0))=>G5 HE r' (by rw[if_neg hk];exact h));clear HE hk
  cases hg:II p
  .have h3:r=2:=(G5 HE2 2 (by rw[hg];rfl)).symm;subst h3;have Hg:=G6 hg;clear hg;rcases hkk with rfl|rfl
   all_goals
    go_enter func98,ntmps98;go_wp2_with fail;refine(C _).mono ?_;rintro e w1 ⟨rfl,hb1⟩;have HB:=G6 (GU hb1);rw[G5 Hg];clear hb1;go_wp2_with fail;go_ret;exact⟨rfl,G5 HB⟩
  .have h3:=G5 HE2;rw[hg]at h3;simp only[Bool.true_eq_false,if_false]at h3;have Hg:=G6 hg;clear hg HE2;by_cases hs1:s<1
   .have h4:r=3:=(h3 3 (by rw[if_pos (.inl hs1)])).symm;subst h4;clear h3;rcases hkk with rfl|rfl
    all_goals
     go_enter func98,ntmps98;go_wp2_with fail;refine(C _).mono ?_;rintro e w1 ⟨rfl,hb1⟩;have HB:=G6 (GU hb1);have c0:w1.cell? ⟨w.heap.size,0,FX⟩=FZ (I0 s):=by rw[hb1.cell (p:=⟨w.heap.size,0,FX⟩) (by simp)];simp
     rw[G5 Hg];clear hb1;go_wp2_with fail;go_ret;exact⟨rfl,G5 HB⟩
   .by_cases hs2:2147483647<s
    .have h4:r=3:=(h3 3 (by rw[if_pos (.inr hs2)])).symm;subst h4;clear h3;rcases hkk with rfl|rfl
     all_goals
      go_enter func98,ntmps98;go_wp2_with fail;refine(C _).mono ?_;rintro e w1 ⟨rfl,hb1⟩;have HB:=G6 (GU hb1);have c0:w1.cell? ⟨w.heap.size,0,FX⟩=FZ (I0 s):=by rw[hb1.cell (p:=⟨w.heap.size,0,FX⟩) (by simp)];simp
      rw[G5 Hg];clear hb1;go_wp2_with fail;go_ret;exact⟨rfl,G5 HB⟩
    .have h4:r=0:=(h3 0 (by rw[if_neg (by omega)])).symm;subst h4;clear h3;rcases hkk with rfl|rfl
     all_goals
      go_enter func98,ntmps98;go_wp2_with fail;refine(C _).mono ?_;rintro e w1 ⟨rfl,hb1⟩;have HB:=G6 (GU hb1);have c0:w1.cell? ⟨w.heap.size,0,FX⟩=FZ (I0 s):=by rw[hb1.cell (p:=⟨w.heap.size,0,FX⟩) (by simp)];simp
      rw[G5 Hg];clear hb1;go_wp2_with fail;go_ret;exact⟨rfl,G5 HB⟩
theorem A77{w:FU}{ops:Array Oper}{o:Oper}{a:Act}{K:Act->FU->Prop}{Q:Exit->Act->FU->Prop}{E:Prop}(hgd:FI o (yielded ops a.tmps)=true)(s x:Operand)
  (ho:o.op=.call {callee:=.builtin .append,args:=#[s,x],argTypes:=#[62,62]})
  (v:FV) (ns:List Wa) (hs:a.eval s=v) (hown:GZ w 0 v ns)
  (q:Nat) (hx:a.eval x=FQ (FZ ⟨q,0,FX⟩) 1 1) (t:Wa) (hnews:JF w q t) (hl:(ns.length+1)*32<=140737488355328)
  (h:∀a' c' w',GZ w' 0 (FQ a' (ns.length+1) c') (ns++[t])->w.grownBy w' v.ownBlock->((Value.slice a' (ns.length+1) c').ownBlock=v.ownBlock\/(Value.slice a' (ns.length+1) c').ownBlock=FZ w.heap.size)->K (a.put o.dst (FQ a' (ns.length+1) c')) w'):
  if FI o (yielded ops a.tmps)=true then Oper.wp prog o a w K Q else E:=by
 rw[if_pos hgd];obtain⟨i0,hi0,hz0,hz1,hz2⟩:=C34;obtain⟨v',w',hr,h2,h3,_,h5⟩:=run_append_own_at (P:=prog) w 0 62 o.type 98 i0 _ 3 32 underlying62 hi0 hz0 hz1 hz2 rfl (by decide) v ns.length (G9 ns) hown.row ⟨q,0,FX⟩ 1 1 (AB7 t) rfl (RS hnews) (Lay.one t) (by simp only[maxLen];omega) hl (AY _);have h2':GZ w' 0 v' (ns++[t]):=GZ.LD (by rw[AO,JE];exact h2);obtain⟨a',c',rfl,_⟩:=h2'.slice;have hlen:(ns++[t]).length=ns.length+1:=by simp
 rw[hlen]at h2' hr h5;unfold Oper.wp execOp;simp only[ho,resolve,invoke,builtin,DX,EM,DY,List.map_toArray,List.map_cons,List.map_nil,hs,hx,hr];exact h a' c' w' h2' h3 h5
theorem BU4(h:uK x≠0):bZ ws x=uK x/\pK ws x=[]:=by
 have e:bZ ws x=uK x:=by rw[bZ,if_pos h]
 exact⟨e,by rw[pK,e,if_pos h]⟩
theorem BU5(h:uK x=0)(hh:yC ws x=true):bZ ws x=0/\pK ws x=ws:=by
 have e:bZ ws x=0:=by rw[bZ,if_neg (by simp[h]),if_pos hh]
 exact⟨e,by rw[pK,e,if_neg (by simp),if_pos hh]⟩
theorem BB7(h:uK x=0)(hh:yC ws x=false)(hf:400<=ws.length):bZ ws x=6/\pK ws x=[]:=by
 have e:bZ ws x=6:=by rw[bZ,if_neg (by simp[h]),if_neg (by simp[hh]),if_pos hf]
 exact⟨e,by rw[pK,e,if_pos (by decide)]⟩
theorem BU6(h:uK x=0)(hh:yC ws x=false)(hf:¬400<=ws.length):bZ ws x=0/\pK ws x=ws++[x]:=by
 have e:bZ ws x=0:=by rw[bZ,if_neg (by simp[h]),if_neg (by simp[hh]),if_neg hf]
 exact⟨e,by rw[pK,e,if_neg (by simp),if_neg (by simp[hh])]⟩
theorem CD8{w:FU}{ws:List Wa}{x:Wa}(g3:Nat)(w4 w5:FU)(a5:Option Addr)(c5:Nat)(hg:w.heap.size<=g3)(hb:B0 w w4)(ho:GZ w5 0 (FQ a5 (ws.length+1) c5) (ws++[x]))(hg5:(w4.alloc (FT #[I0 x.s,I0 x.k,S0 x.p] 98)).grownBy w5 (Value.slice (FZ ⟨g3,0,FX⟩) ws.length (ws.length+1)).ownBlock)
  (hl:(Value.slice a5 (ws.length+1) c5).ownBlock=(Value.slice (FZ ⟨g3,0,FX⟩) ws.length (ws.length+1)).ownBlock\/(Value.slice a5 (ws.length+1) c5).ownBlock=FZ (w4.alloc (FT #[I0 x.s,I0 x.k,S0 x.p] 98)).heap.size):
  GZ w5 w.heap.size (FQ a5 (ws.length+1) c5) (ws++[x])/\B0 w w5:=by
 have hB:=G8 hb (G7 w4 (FT #[I0 x.s,I0 x.k,S0 x.p] 98));refine⟨kT ho (fun j hj=>?_),hB.grown hg5 hB.size (fun j hj=>by cases hj;exact hg)⟩;rcases hl with h|h
 .rw[h]at hj;cases hj;exact hg
 .rw[h]at hj;cases hj;exact hB.size
theorem CD9(v:FV)(ws:List Wa)(x:Wa)(w:FU)(hv:IU w v ws)(hs:nI ws)(hx:x.p.length<=140737488355328)(hl:ws.length*32<=140737488351232):
  FW prog 67 #[v,waV x] w fun r w'=>∃vl,r=.returned (.tuple #[vl,I0 (bZ ws x)])/\GZ w' w.heap.size vl (pK ws x)/\B0 w w':=by
 have CA:=fun W=>BP7 x W;have CC:=G6 (fun W (hW:B0 w W)=>ZT v ws W (hv.next hW) hs hl);have CK:=G6 (fun W (hW:B0 w W)=>BP6 v ws x W (hv.next hW) (by omega));have CO:=fun W=>AD5 x W hx;obtain⟨va,vc,rfl⟩:=GK hv;have HBX:Hid (∀W,Below (w.heap.size+1) (w.alloc (FT #[I0 x.s,I0 x.k,S0 x.p] 98)) W->(W.cell? ⟨w.heap.size,0,FX⟩=FZ (I0 x.s)/\W.cell? ⟨w.heap.size,1,FX⟩=FZ (I0 x.k)/\W.cell? ⟨w.heap.size,2,FX⟩=FZ (S0 x.p))/\B0 w W/\w.heap.size<W.heap.size):=G6 (fun W h=>⟨CM3 h,(G7 _ _).trans (h.mono (Nat.le_succ _)),by have:=h.size;simp at this;omega⟩);clear hv hs hx;unfold waV at CA CK CO;unfold waV;by_cases ha:uK x=0
 .rw[ha]at CA
  cases hh:yC ws x
  .rw[hh]at CK;by_cases hf:400<=ws.length
   .obtain⟨e1,e2⟩:=BB7 ha hh hf;rw[e1,e2];have hfi:(400:Int)<=(ws.length:Int):=by omega
    clear ha hh e1 e2;go_enter func67,ntmps67;go_wp2_with fail;refine(CA _).mono ?_;rintro e w1 ⟨rfl,hb1⟩;rw[show (w.alloc (FT #[I0 x.s,I0 x.k,S0 x.p] 98)).heap.size=w.heap.size+1 by simp]at hb1;obtain⟨⟨c0,c1,c2⟩,hB1,hz1⟩:=G5 HBX w1 hb1;have HB1:=G6 hB1;clear hb1 hB1;go_wp2_with fail;refine(G5 CK w1 (G5 HB1)).mono ?_;rintro e w2 ⟨rfl,hb2⟩;have HB2:=G6 (G8 (G5 HB1) hb2);clear hb2;go_wp2_with fail
    go_ret2
    exact⟨_,rfl,.inl ⟨rfl,rfl⟩,G5 HB2⟩
   .obtain⟨e1,e2⟩:=BU6 ha hh hf;rw[e1,e2];have hfi:¬ ((400:Int)<=(ws.length:Int)):=by omega
    have hfd:decide ((400:Int)<=(ws.length:Int))=false:=by simp;omega
    clear ha hh e1 e2;go_enter func67,ntmps67;go_wp2_with fail;refine(CA _).mono ?_;rintro e w1 ⟨rfl,hb1⟩;rw[show (w.alloc (FT #[I0 x.s,I0 x.k,S0 x.p] 98)).heap.size=w.heap.size+1 by simp]at hb1;obtain⟨⟨c0,c1,c2⟩,hB1,hz1⟩:=G5 HBX w1 hb1;have HB1:=G6 hB1;have HC1:=G6 hb1;clear hb1 hB1;go_wp2_with fail;refine(G5 CK w1 (G5 HB1)).mono ?_;rintro e w2 ⟨rfl,hb2⟩;have hC2:=(G5 HC1).trans (hb2.mono (by omega));obtain⟨⟨m0,m1,m2⟩,hB2,hz2⟩:=G5 HBX w2 hC2;have HB2:=G6 hB2;have HC2:=G6 hC2;have K1:Hid (∀w3,B0 w2 w3->(w3.cell? ⟨w.heap.size,0,FX⟩=FZ (I0 x.s)/\w3.cell? ⟨w.heap.size,1,FX⟩=FZ (I0 x.k)/\w3.cell? ⟨w.heap.size,2,FX⟩=FZ (S0 x.p))/\B0 w w3):=G6 (fun w3 hb3=>by
     obtain⟨h1,h2,_⟩:=G5 HBX w3 ((G5 HC2).trans (hb3.mono (by omega)));exact⟨h1,h2⟩)
    have CC2:=G6 (fun W (hW:B0 w2 W)=>G5 CC W (G8 (G5 HB2) hW));have hBs:=(G5 HB2).size;have HK5:=G6 (@CD8 w ws x);clear hb2 hB2 hC2 c0 c1 c2;go_wp2_with fail
    go_region_law (first
     |(refine A77 (by kernel_rfl) _ _ (by rfl) (FQ (FZ ⟨g3,0,FX⟩) ws.length (ws.length+1)) ws (by rfl) (G5 HO4) w4.heap.size (by rfl) x (AD6 w4 x) (by omega) ?_;intro a5 c5 w5 ho5 hg5 hl5;obtain⟨o5,b5⟩:=G5 HK5 g3 w4 w5 a5 c5 hg3 (G5 HB4) ho5 hg5 hl5;have HO5:=G6 o5;have HB5:=G6 b5;clear o5 b5;clear ho5 hg5 hl5)
     |(go_simp;refine(G5 CC2 _ (by first|exact AA _ _|exact(AA _ _).drew)).mono ?_;rintro e w3 ⟨g3,rfl,hg3',ho3,hb3⟩;have hg3:w.heap.size<=g3:=Nat.le_trans hBs hg3';have HB23:Hid (B0 w2 w3):=(by first|exact hb3|exact I9 hb3);obtain⟨⟨p0,p1,p2⟩,hB3⟩:=G5 K1 w3 (G5 HB23);have HB3:=G6 hB3;have HO3:=G6 ho3;clear hb3 hB3 ho3 hg3')
     |(go_simp;refine(CO _).mono ?_;rintro e w4 ⟨rfl,hb4⟩;have HB4:=G6 (G8 (G5 HB3) hb4);have HO4:Hid (GZ (w4.alloc (FT #[I0 x.s,I0 x.k,S0 x.p] 98)) 0 (FQ (FZ ⟨g3,0,FX⟩) ws.length (ws.length+1)) ws):=G6 (.inr ⟨g3,_,rfl,AY _,((G5 HO3).next hb4).next (G7 _ _)⟩);clear hb4))
    all_goals go_wp2_with fail
    all_goals go_ret2
    all_goals exact⟨_,rfl,G5 HO5,G5 HB5⟩
  .rw[hh]at CK;obtain⟨e1,e2⟩:=BU5 ha hh;rw[e1,e2];clear ha hh e1 e2;go_enter func67,ntmps67;go_wp2_with fail;refine(CA _).mono ?_;rintro e w1 ⟨rfl,hb1⟩;rw[show (w.alloc (FT #[I0 x.s,I0 x.k,S0 x.p] 98)).heap.size=w.heap.size+1 by simp]at hb1;obtain⟨⟨c0,c1,c2⟩,hB1,hz1⟩:=G5 HBX w1 hb1;have HB1:=G6 hB1;clear hb1 hB1;go_wp2_with fail;refine(G5 CK w1 (G5 HB1)).mono ?_;rintro e w2 ⟨rfl,hb2⟩;have HB2:=G6 (G8 (G5 HB1) hb2);clear hb2;go_wp2_with fail;refine(G5 CC w2 (G5 HB2)).mono ?_;rintro e w3 ⟨g,rfl,hg,ho,hb3⟩;have HB3:=G6 (G8 (G5 HB2) hb3);have hBs:=(G5 HB2).size;clear hb3;go_wp2_with fail
   go_ret2
   exact⟨_,rfl,.inr ⟨g,_,rfl,by omega,ho⟩,G5 HB3⟩
 .obtain⟨e1,e2⟩:=BU4 (ws:=ws) ha;rw[e1,e2];generalize uK x=r at CA ha⊢;have hrb:(r==0)=false:=by simpa using ha
  clear e1 e2;go_enter func67,ntmps67;go_wp2_with fail;refine(CA _).mono ?_;rintro e w1 ⟨rfl,hb1⟩;have HB1:=G6 (GU hb1);clear hb1;go_wp2_with fail
  go_ret2
  exact⟨_,rfl,.inl ⟨rfl,rfl⟩,G5 HB1⟩
