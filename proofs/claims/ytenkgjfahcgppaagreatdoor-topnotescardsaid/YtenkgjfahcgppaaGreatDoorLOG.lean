/-
  Part.
-/
import Derived.Test.YtenkgjfahcgppaaGreatDoorLOD
import Derived.Deep.RegionHeld3
import Derived.Lib.AppendZerosOnto
import Derived.Laws.AppendOwnNone
set_option maxRecDepth 20000
set_option maxHeartbeats 8000000
namespace Go.Proofs.YtenkgjfahcgppaaGreatDoor
open Go.RowKit Go.Proofs.Tryz
variable{w W:World}{b off i g cap B q:Nat}{xs ws:List Wa}{x:Wa}{α:Type}{pr:Wa->Bool}
def A25(w:Wa):List Value:=[I0 w.s,I0 w.k,S0 w.p]
def wJ(n:Nt):List Value:=[I0 n.s,I0 n.k,S0 n.p]
def waV(w:Wa):Value:=.agg #[I0 w.s,I0 w.k,S0 w.p]
instance layW:Lay Wa:=⟨3,A25,100,fun _=>rfl,fun x u hu=>by simp[A25]at hu;rcases hu with rfl|rfl|rfl<;>rfl⟩
instance layT:Lay Nt:=⟨3,wJ,69,fun _=>rfl,fun x u hu=>by simp[wJ]at hu;rcases hu with rfl|rfl|rfl<;>rfl⟩
theorem BL.w0(h:BL w b off (AO xs))(hi:xs[i]?=some x):w.cell? ⟨b,off+i*3,none⟩=some (I0 x.s):=
 h (i*3) _ (AZ xs i x hi 0 (by decide))
theorem BL.w1(h:BL w b off (AO xs))(hi:xs[i]?=some x):w.cell? ⟨b,off+i*3+1,none⟩=some (I0 x.k):=by
 rw[Nat.add_assoc];exact h (i*3+1) _ (AZ xs i x hi 1 (by decide))
theorem BL.w2(h:BL w b off (AO xs))(hi:xs[i]?=some x):w.cell? ⟨b,off+i*3+2,none⟩=some (S0 x.p):=by
 rw[Nat.add_assoc];exact h (i*3+2) _ (AZ xs i x hi 2 (by decide))
theorem BL.t0{xs:List Nt}(h:BL w b off (AO xs)){x:Nt}(hi:xs[i]?=some x):w.cell? ⟨b,off+i*3,none⟩=some (I0 x.s):=
 h (i*3) _ (AZ xs i x hi 0 (by decide))
theorem BL.t1{xs:List Nt}(h:BL w b off (AO xs)){x:Nt}(hi:xs[i]?=some x):w.cell? ⟨b,off+i*3+1,none⟩=some (I0 x.k):=by
 rw[Nat.add_assoc];exact h (i*3+1) _ (AZ xs i x hi 1 (by decide))
theorem BL.t2{xs:List Nt}(h:BL w b off (AO xs)){x:Nt}(hi:xs[i]?=some x):w.cell? ⟨b,off+i*3+2,none⟩=some (S0 x.p):=by
 rw[Nat.add_assoc];exact h (i*3+2) _ (AZ xs i x hi 2 (by decide))
theorem CA2:(prog.info? 100).map (fun i=>(i.zero,i.size,i.bytes))=some (some (.agg #[I0 0,I0 0,.string ⟨#[]⟩]),3,32):=by kernel_rfl
theorem BV4:∃i0,prog.info? 100=some i0/\i0.zero=some (.agg #[I0 0,I0 0,.string ⟨#[]⟩])/\i0.size=3/\i0.bytes=32:=by
 obtain⟨i0,h,e⟩:=Option.map_eq_some_iff.1 CA2;simp only[Prod.mk.injEq]at e;exact⟨i0,h,e⟩
theorem CA3:(prog.info? 69).map (fun i=>(i.zero,i.size,i.bytes))=some (some (.agg #[I0 0,I0 0,.string ⟨#[]⟩]),3,32):=by kernel_rfl
theorem AQ5:∃i0,prog.info? 69=some i0/\i0.zero=some (.agg #[I0 0,I0 0,.string ⟨#[]⟩])/\i0.size=3/\i0.bytes=32:=by
 obtain⟨i0,h,e⟩:=Option.map_eq_some_iff.1 CA3;simp only[Prod.mk.injEq]at e;exact⟨i0,h,e⟩
def iQ(ws:List Wa):Prop:=∀x∈ws,x.p.length<=140737488355328
def BP8(es:List Ev):Prop:=∀x∈es,x.p.length<=140737488355328
theorem AU8[Lay α]{xs:List α}(h:DY W g cap xs)(B:Nat)(hB:B<=g):W.ownsRow B (Lay.ty α) (Lay.k α) (.slice (some ⟨g,0,none⟩) xs.length cap) xs.length (AO xs):=
 BD.row (.inr ⟨g,cap,rfl,hB,h⟩)
theorem AU9[Lay α]{n:Nat}{xs:List α}(h:W.ownsRow B (Lay.ty α) (Lay.k α) (.slice (some ⟨g,0,none⟩) n cap) n (AO xs))(hn:n=xs.length):DY W g cap xs:=by
 subst hn;rcases BD.G8 h with⟨h1,_⟩|⟨g',cap',h1,_,h2⟩
 .simp at h1
 .simp only[Value.slice.injEq,Option.some.injEq,Addr.mk.injEq,and_true,true_and]at h1;obtain⟨rfl,rfl⟩:=h1;exact h2
theorem LD{xs:List α}{k:Nat}{x:α}(h:xs[k]?=some x):xs.take (k+1)=xs.take k++[x]:=by rw[List.take_add_one,h];rfl
theorem AR4{w':World}{r:Option Nat}(h:w.grownBy w' r)(B:Nat)(hB:B<=w.heap.size)(hr:∀k,r=some k->B<=k):Below B w w':=(Below.refl _ _).grown h hB hr
theorem GV{w':World}{r:Option Nat}(h:B0 w w'):w.grownBy w' r:=⟨h.os,h.tape,h.output,h.size,fun k hk _=>h.block k hk⟩
theorem DY.head[Lay α]{A B:List α}(h:DY W g cap (A++B)):DY W g cap A:=by
 obtain⟨rest,h1,h2,h4,h3⟩:=h;refine⟨AO B++rest,by rw[h1,BH,List.append_assoc],?_,?_,h3⟩
 .rw[List.length_append,BA B];rw[List.length_append,Nat.add_mul]at h2;omega
 .rw[List.length_append]at h4;omega
theorem jW(s:List UInt8)(w:World)(hs:s.length<=281474976710656):
  Calls prog 72 #[S0 s] w (R0 w (S0 s)):=by
 have C:=fun W=>stringslite_Clone ⟨s.toArray⟩ W (show (ByteArray.mk s.toArray).size<=_ from hs);go_enter func72,ntmps72;go_wp2_with fail;refine(C _).mono ?_;rintro e w1 ⟨rfl,hb1⟩;go_wp2_with fail;go_ret;exact⟨rfl,hb1⟩
theorem A43(x:Wa)(w:World)(hx:x.p.length<=140737488355328):
  Calls prog 154 #[waV x] w (R0 w (waV x)):=by
 obtain⟨s,k,p⟩:=x;unfold waV;have C:=fun W=>jW p W (by simp only at hx;omega);go_enter func154,ntmps154;go_wp2_with fail;refine(C _).mono ?_;rintro e w1 ⟨rfl,hb1⟩;have hB:=AY (AY hb1);have c0:w1.cell? ⟨w.heap.size,0,none⟩=some (I0 s):=by rw[hb1.cell (p:=⟨w.heap.size,0,none⟩) (by simp;omega)];simp
 have c1:w1.cell? ⟨w.heap.size,1,none⟩=some (I0 k):=by rw[hb1.cell (p:=⟨w.heap.size,1,none⟩) (by simp;omega)];simp
 have c2:w1.cell? ⟨w.heap.size,2,none⟩=some (S0 p):=by rw[hb1.cell (p:=⟨w.heap.size,2,none⟩) (by simp;omega)];simp
 have f2:w1.frozen? ⟨w.heap.size,2,none⟩=false:=by rw[hb1.frozen (p:=⟨w.heap.size,2,none⟩) (by simp;omega)];simp
 have d0:w1.cell? ⟨w.heap.size+1,0,none⟩=some (I0 0):=by rw[hb1.cell (p:=⟨w.heap.size+1,0,none⟩) (by simp)];simp
 have d1:w1.cell? ⟨w.heap.size+1,1,none⟩=some (I0 0):=by rw[hb1.cell (p:=⟨w.heap.size+1,1,none⟩) (by simp)];simp
 have d2:w1.cell? ⟨w.heap.size+1,2,none⟩=some (.string ⟨#[]⟩):=by rw[hb1.cell (p:=⟨w.heap.size+1,2,none⟩) (by simp)];simp
 have g0:w1.frozen? ⟨w.heap.size+1,0,none⟩=false:=by rw[hb1.frozen (p:=⟨w.heap.size+1,0,none⟩) (by simp)];simp
 have g1:w1.frozen? ⟨w.heap.size+1,1,none⟩=false:=by rw[hb1.frozen (p:=⟨w.heap.size+1,1,none⟩) (by simp)];simp
 have g2:w1.frozen? ⟨w.heap.size+1,2,none⟩=false:=by rw[hb1.frozen (p:=⟨w.heap.size+1,2,none⟩) (by simp)];simp
 have s2:w1.setCell ⟨w.heap.size,2,none⟩ (S0 p)=w1:=BJ c2;clear hb1 C;go_wp2_with fail;refine bodyPost_ret (v:=.agg #[I0 s,I0 k,S0 p]) (by simp[results,results154,go_sem,d0,d1,d2]) rfl ⟨rfl,?_⟩;exact((hB.setCell (by simp) _).setCell (by simp) _).setCell (by simp) _
theorem A44(w:World)(x:Wa):EW (w.alloc (.cells #[I0 x.s,I0 x.k,S0 x.p] 100)) w.heap.size x:=heap_alloc_new w _
theorem WI(v:Value)(ws:List Wa)(w:World)(hv:BQ w v ws)(hs:iQ ws)(hl:ws.length*32<=140737488351232):
  Calls prog 153 #[v] w fun e w'=>∃g,e=.returned (.slice (some ⟨g,0,none⟩) ws.length (ws.length+1))/\w.heap.size<=g/\DY w' g (ws.length+1) ws/\B0 w w':=by
 have KR:∀W,B0 w W->∀k x,ws[k]?=some x->∃b off cap,v=.slice (some ⟨b,off,none⟩) ws.length cap/\b<w.heap.size/\BL W b off (AO ws):=fun W hW k x hx=>by
  obtain⟨b,off,cap,e,hb,hr,_,_⟩:=J7 hv (fun h0=>by obtain⟨h1,_⟩:=List.getElem?_eq_some_iff.1 hx;rw[h0]at h1;simp at h1);exact⟨b,off,cap,e,hb,hr.kept hW hb⟩
 have HKR:=AA KR;have HS:=AA hs;obtain⟨va,vc,rfl⟩:=AU hv;obtain⟨i0,hi0,hz0,hz1,hz2⟩:=BV4;clear hv hs KR;go_enter func153,ntmps153;go_wp2_with (at_make;refine wpList_make_own _ rfl _ _ 41 rfl w.heap.size 100 i0 _ 3 underlying41 hi0 hz0 hz1 .i64 .i64 _ (ws.length+1) rfl rfl (by omega) ?m1 ?m2 (Nat.le_refl _) ?_)
 case m1=>rw[hz2];omega
 case m2=>simp only[maxLen];omega
 intro w0 ho0 hg0;have HO:Hid (DY w0 w.heap.size (ws.length+1) (ws.take 0)):=AA (AU9 (α:=Wa) (xs:=ws.take 0) ho0 rfl);have HB:Hid (B0 w w0):=AA (AR4 hg0 _ (Nat.le_refl _) (by simp));clear ho0 hg0;go_wp2_with fail
 go_loopg [3,12] ws.length (fun kx s3 s12 wr=>∃k:Nat,s12=I0 k/\s3=.slice (some ⟨w.heap.size,0,none⟩) k (ws.length+1)/\k<=ws.length/\ws.length-k<=kx/\Hid (DY wr w.heap.size (ws.length+1) (ws.take k))/\Hid (B0 w wr))
 case atStart=>exact⟨0,rfl,rfl,Nat.zero_le _,Nat.le_refl _,HO,HB⟩
 case round=>
  obtain⟨k,rfl,rfl,hk,hg,hO,hB⟩:=hrel;by_cases hlt:k<ws.length
  .obtain⟨x,hx⟩:∃x,ws[k]?=some x:=⟨_,List.getElem?_eq_getElem hlt⟩;obtain⟨b,off,cap,he,hb,q⟩:=A8 HKR wr (A8 hB) k x hx;simp only[Value.slice.injEq]at he;obtain⟨rfl,_,rfl⟩:=he;have d0:=q.w0 hx;have d1:=q.w1 hx;have d2:=q.w2 hx;have hbw:b<wr.heap.size:=Nat.lt_of_lt_of_le hb (A8 hB).size;have hgl:=(A8 hO).lt;have CX:=fun W=>A43 x W (A8 HS x (List.mem_of_getElem? hx));unfold waV at CX;have HT1:=AA (LD hx);have hlk:(ws.take k).length=k:=by simp;omega
   clear q hx;go_wp2_with fail;refine(CX _).mono ?_;rintro e w1 ⟨rfl,hb1⟩;have hb2:=AY hb1;have HO1:=AA (((A8 hO).next hb2).next (AB w1 (.cells #[I0 x.s,I0 x.k,S0 x.p] 100)));have HB1:=AA (AL (A8 hB) (AL hb2 (AB w1 (.cells #[I0 x.s,I0 x.k,S0 x.p] 100))));clear CX hb1 hb2;go_wp2_with (at_builtin;refine wpList_append_fits _ rfl _ _ 41 rfl w.heap.size 100 i0 3 underlying41 hi0 hz1 w.heap.size k (ws.length+1) (AO (ws.take k)) rfl ?a1 ⟨w1.heap.size,0,none⟩ 1 1 (A25 x) rfl rfl ?a2 (Lay.one x) (by omega) ?_)
   case a1=>
    have:=AU8 (A8 HO1) w.heap.size (Nat.le_refl _);rw[hlk]at this;exact this
   case a2=>exact O7 (A44 w1 x)
   intro w2 ho2 hg2;have HO2:Hid (DY w2 w.heap.size (ws.length+1) (ws.take (k+1))):=AA (by
    rw[A8 HT1];refine AU9 (α:=Wa) (B:=w.heap.size) (n:=k+1) ?_ (by simp;omega);rw[EK];exact ho2)
   have HB2:Hid (B0 w w2):=AA ((A8 HB1).grown hg2 (A8 HB1).size (by intro k hk;cases hk;exact Nat.le_refl _));clear ho2 hg2;go_wp2_with fail
   go_roundg (ws.length-(k+1))
   case measure=>omega
   case rel=>exact⟨k+1,rfl,rfl,by omega,Nat.le_refl _,HO2,HB2⟩
  .obtain rfl:k=ws.length:=by omega
   rw[List.take_length]at hO;go_wp2_with fail;go_ret;exact⟨_,rfl,Nat.le_refl _,A8 hO,A8 hB⟩
theorem OT{a b:Bool}(h:a=b):Ending.returned (.bool a)=.returned (.bool b):=by rw[h]
theorem AF0(x:Wa)(e:Ev)(w:World):
  Calls prog 221 #[waV x,evV e] w fun r w'=>r=.returned (.bool (uV x e))/\B0 w w':=by
 obtain⟨s,k,p⟩:=x;obtain⟨ek,ep⟩:=e;have HB:=AA (AL (AB w (.cells #[I0 s,I0 k,S0 p] 100)) (AB _ (.cells #[I0 ek,S0 ep] 67)));have HO:=AA (show ∀r:Bool,r=(decide (p=ep)&&(if k=2 then decide (ek=4)||decide (ek=2)else decide (ek=1)||decide (ek=2)||decide (ek=3)))->r=uV ⟨s,k,p⟩ ⟨ek,ep⟩from fun r h=>h);unfold waV evV;simp only;by_cases hp:p=ep
 .have hpb:(p==ep)=true:=by simpa using hp
  have HP:=AA hp;clear hp;by_cases hk:k=2
  .subst hk;by_cases h4:ek=4
   .subst h4;go_enter func221,ntmps221;go_wp2_with fail;go_ret;exact⟨OT (A8 HO _ (by simp[A8 HP])),A8 HB⟩
   .go_enter func221,ntmps221;go_wp2_with fail;go_ret;exact⟨OT (A8 HO _ (by by_cases h:ek=2<;>simp[A8 HP,h,h4])),A8 HB⟩
  .by_cases h1:ek=1
   .subst h1;go_enter func221,ntmps221;go_wp2_with fail;go_ret;exact⟨OT (A8 HO _ (by simp[A8 HP,hk])),A8 HB⟩
   .by_cases h2:ek=2
    .subst h2;go_enter func221,ntmps221;go_wp2_with fail;go_ret;exact⟨OT (A8 HO _ (by simp[A8 HP,hk])),A8 HB⟩
    .go_enter func221,ntmps221;go_wp2_with fail;go_ret;exact⟨OT (A8 HO _ (by by_cases h:ek=3<;>simp[A8 HP,hk,h,h1,h2])),A8 HB⟩
 .have hpb:(p==ep)=false:=by simpa using hp
  go_enter func221,ntmps221;go_wp2_with fail;go_ret;exact⟨OT (A8 HO _ (by simp[hp])),A8 HB⟩
theorem rP(x:Wa)(e:Ev)(B:Nat)(w:World)(h:EW w B e):
  Calls prog 220 #[waV x,P0 B] w fun r w'=>r=.returned (.bool (uV x e))/\B0 w w':=by
 have C:=fun W=>AF0 x e W;have hB:B<w.heap.size:=(Array.getElem?_eq_some_iff.1 h).1;have c0:w.cell? ⟨B,0,none⟩=some (I0 e.k):=by simpa using h.row 0 _ rfl
 have c1:w.cell? ⟨B,1,none⟩=some (S0 e.p):=by simpa using h.row 1 _ rfl
 clear h;unfold waV evV at C;unfold waV;generalize uV x e=r at C⊢;have hne:B≠w.heap.size:=by omega
 go_enter func220,ntmps220;go_wp2_with fail;refine(C _).mono ?_;rintro e w1 ⟨rfl,hb1⟩;have hB1:=AY hb1;clear C hb1;go_wp2_with fail;go_ret;exact⟨rfl,hB1⟩
theorem AV0(x:Wa)(s:Int)(B:Nat)(w:World)(h:w.cell? ⟨B,0,none⟩=some (I0 s))(hB:B<w.heap.size):
  Calls prog 224 #[waV x,P0 B] w fun r w'=>r=.returned (.bool (decide (x.s=s)))/\B0 w w':=by
 obtain⟨xs,xk,xp⟩:=x;unfold waV;have hne:B≠w.heap.size:=by omega
 go_enter func224,ntmps224;go_wp2_with fail;go_ret;exact⟨rfl,AB _ _⟩
def VL(m:Nat):List Value:=(Builtin.zeroCells (Value.agg #[I0 0,I0 0,.string ⟨#[]⟩]).cells m).toList
theorem RJ(m:Nat):(VL m).length=m*3:=by
 rw[VL,Array.length_toList,size_zeroCells];rfl
theorem AF1(m:Nat):∀u∈VL m,u.oneCell'=true:=by
 intro u hu;simp only[VL,Builtin.zeroCells,Value.cells,Array.toList_map,List.mem_map]at hu;obtain⟨i,_,rfl⟩:=hu;have:i%3<3:=Nat.mod_lt _ (by decide);show (#[I0 0,I0 0,.string ⟨#[]⟩][i%3]!).oneCell'=true;rcases(show i%3=0\/i%3=1\/i%3=2 by omega)with e|e|e<;>rw[e]<;>rfl
theorem AF2(w:World)(ty:TypeId)(b o m c:Nat)(hm:0<m)(hc:∀j,j<m*3->(w.cell? ⟨b,o+j,none⟩).isSome=true)(hf:∀j,j<m*3->w.frozen? ⟨b,o+j,none⟩=false):
  (Builtin.clear_ #[41] ty #[.slice (some ⟨b,o,none⟩) m c]).run prog w=.ok (.tuple #[]) (w.setCells b o (VL m)):=by
 have hst:=run_storeCells_cells (P:=prog) b o (VL m) 0 w (by rw[RJ];simpa using hc) (by rw[RJ];simpa using hf) (AF1 m);simp only[Nat.add_zero]at hst;obtain⟨k,rfl⟩:∃k,m=k+1:=⟨m-1,by omega⟩;simp[Builtin.clear_,run_underlying underlying41];exact(by
  have:=hst;unfold VL at this⊢;rw[this];rfl)
structure CC5(g:FuncId)(B:Nat)(q:Nat)(pr:Wa->Bool)(I:World->Prop):Prop where
 two:g=220\/g=224
 keep:∀W V,I W->W.grownBy V (some q)->I V
 gives:∀W x,I W->Calls prog g #[.agg #[I0 x.s,I0 x.k,S0 x.p],P0 B] W fun r w'=>r=.returned (.bool (pr x))/\B0 W w'
theorem BX7{g:FuncId}{B q:Nat}{pr:Wa->Bool}{I:World->Prop}(C:CC5 g B q pr I)(b off cap:Nat)(A:List Wa)(x:Wa)(R:List Wa)(w:World)(hi:I w)(hb:b<w.heap.size)(hr:BL w b off (AO (A++x::R)))(hl:(A++x::R).length<=140737488355328)
  (hA:∀a∈A,pr a=false) (hx:pr x=true):
  Calls prog 240 #[.slice (some ⟨b,off,none⟩) (A++x::R).length cap,.func (.func g) #[] #[P0 B]] w (R0 w (I0 A.length)):=by
 have HR:=AA (fun W (hW:B0 w W)=>hr.kept hW hb);have HC:=AA C;have HI:=AA (fun W (hW:B0 w W)=>C.keep w W hi (GV hW));have HX:=AA hx;have HA:=AA hA;have hAn:A.length<(A++x::R).length:=by simp
 obtain⟨n,hn⟩:∃n,(A++x::R).length=n:=⟨_,rfl⟩;rw[hn]at hl hAn⊢;have HN:=AA hn;have two:=C.two;clear hr C hi hx hA hn;rcases two with rfl|rfl
 all_goals
  go_enter func240,ntmps240;go_wp2_with fail
  go_loopg [8] n (fun kx s8 wr=>∃k:Nat,s8=I0 k/\k<=A.length/\n-k<=kx/\Hid (B0 w wr))
  case atStart=>exact⟨0,rfl,Nat.zero_le _,Nat.le_refl _,AA (Below.refl _ _)⟩
  case round=>
   obtain⟨k,rfl,hk,hg,hB⟩:=hrel;have hlt:k<n:=by omega
   obtain⟨y,hy⟩:∃y,(A++x::R)[k]?=some y:=⟨_,List.getElem?_eq_getElem (by rw[A8 HN];exact hlt)⟩;have qr:=A8 HR wr (A8 hB);have d0:=qr.w0 hy;have d1:=qr.w1 hy;have d2:=qr.w2 hy;have hbw:b<wr.heap.size:=Nat.lt_of_lt_of_le hb (A8 hB).size;have CX:=(A8 HC).gives wr y (A8 HI wr (A8 hB));by_cases hka:k<A.length
   .have hp:pr y=false:=A8 HA y (by
     rw[List.getElem?_append_left hka]at hy;exact List.mem_of_getElem? hy)
    rw[hp]at CX;clear qr hy hp;go_wp2_with fail;refine CX.mono ?_;rintro e w1 ⟨rfl,hb1⟩;have hB1:=AL (A8 hB) hb1;clear CX hb1;go_wp2_with fail
    go_roundg (n-(k+1))
    case measure=>omega
    case rel=>exact⟨k+1,rfl,by omega,Nat.le_refl _,AA hB1⟩
   .obtain rfl:k=A.length:=by omega
    have hp:pr y=true:=by
     have:(A++x::R)[A.length]?=some x:=by simp
     rw[this]at hy
     cases hy
     exact A8 HX
    rw[hp]at CX;clear qr hy hp;go_wp2_with fail;refine CX.mono ?_;rintro e w1 ⟨rfl,hb1⟩;have hB1:=AL (A8 hB) hb1;clear CX hb1;go_wp2_with fail;go_ret;exact⟨rfl,hB1⟩
theorem AV1{g:FuncId}{I:World->Prop}(C:CC5 g B q pr I)(v:Value)(A:List Wa)(w:World)(hi:I w)(hv:BQ w v A)(hl:A.length<=140737488355328)(hA:∀a∈A,pr a=false):
  Calls prog 240 #[v,.func (.func g) #[] #[P0 B]] w (R0 w (I0 (-1))):=by
 have KR:∀W,B0 w W->∀k x,A[k]?=some x->∃b off cap,v=.slice (some ⟨b,off,none⟩) A.length cap/\b<w.heap.size/\BL W b off (AO A):=fun W hW k x hx=>by
  obtain⟨b,off,cap,e,hb,hr,_,_⟩:=J7 hv (fun h0=>by obtain⟨h1,_⟩:=List.getElem?_eq_some_iff.1 hx;rw[h0]at h1;simp at h1);exact⟨b,off,cap,e,hb,hr.kept hW hb⟩
 have HKR:=AA KR;have HC:=AA C;have HI:=AA (fun W (hW:B0 w W)=>C.keep w W hi (GV hW));have HA:=AA hA;have two:=C.two;obtain⟨va,vc,rfl⟩:=AU hv;clear C hi hA KR hv;rcases two with rfl|rfl
 all_goals
  go_enter func240,ntmps240;go_wp2_with fail
  go_loopg [8] A.length (fun kx s8 wr=>∃k:Nat,s8=I0 k/\k<=A.length/\A.length-k<=kx/\Hid (B0 w wr))
  case atStart=>exact⟨0,rfl,Nat.zero_le _,Nat.le_refl _,AA (Below.refl _ _)⟩
  case round=>
   obtain⟨k,rfl,hk,hg,hB⟩:=hrel;by_cases hlt:k<A.length
   .obtain⟨y,hy⟩:∃y,A[k]?=some y:=⟨_,List.getElem?_eq_getElem hlt⟩;obtain⟨b,off,cap,he,hb,qr⟩:=A8 HKR wr (A8 hB) k y hy;simp only[Value.slice.injEq]at he;obtain⟨rfl,_,rfl⟩:=he;have d0:=qr.w0 hy;have d1:=qr.w1 hy;have d2:=qr.w2 hy;have hbw:b<wr.heap.size:=Nat.lt_of_lt_of_le hb (A8 hB).size;have CX:=(A8 HC).gives wr y (A8 HI wr (A8 hB));have hp:pr y=false:=A8 HA y (List.mem_of_getElem? hy);rw[hp]at CX;clear qr hy hp;go_wp2_with fail;refine CX.mono ?_;rintro e w1 ⟨rfl,hb1⟩;have hB1:=AL (A8 hB) hb1;clear CX hb1;go_wp2_with fail
    go_roundg (A.length-(k+1))
    case measure=>omega
    case rel=>exact⟨k+1,rfl,by omega,Nat.le_refl _,AA hB1⟩
   .obtain rfl:k=A.length:=by omega
    go_wp2_with fail;go_ret;exact⟨rfl,A8 hB⟩
theorem fD[Lay α]{C:Nat}{v:Value}{xs:List α}(h:BD W C v xs)(hB:∀k,v.ownBlock=some k->B<=k):BD W B v xs:=by
 rcases h with h|⟨g,cap,rfl,_,h⟩
 .exact .inl h
 .exact .inr ⟨g,cap,rfl,hB g rfl,h⟩
theorem Z7[Lay α]{v:Value}{xs:List α}(h:BD W B v xs):∀k,v.ownBlock=some k->B<=k:=by
 rcases h with⟨rfl,_⟩|⟨g,cap,rfl,h1,h⟩
 .intro k hk;cases hk
 .intro k hk;simp only[Value.ownBlock,Option.some.injEq]at hk;omega
theorem BF1(w:World)(n:Nt):EW (w.alloc (.cells #[I0 n.s,I0 n.k,S0 n.p] 69)) w.heap.size n:=heap_alloc_new w _
theorem xY{w:World}{ops:Array Oper}{o:Oper}{a:Act}{K:Act->World->Prop}{Q:Exit->Act->World->Prop}{E:Prop}(hgd:Region.wanted o (yielded ops a.tmps)=true)(s x:Operand)
  (ho:o.op=.call {callee:=.builtin .append,args:=#[s,x],argTypes:=#[63,63]})
  (v:Value) (ns:List Nt) (hs:a.eval s=v) (hown:BD w 0 v ns)
  (q:Nat) (hx:a.eval x=.slice (some ⟨q,0,none⟩) 1 1) (t:Nt) (hnews:EW w q t) (hl:(ns.length+1)*32<=140737488355328)
  (h:∀a' c' w',BD w' 0 (.slice a' (ns.length+1) c') (ns++[t])->w.grownBy w' v.ownBlock->((Value.slice a' (ns.length+1) c').ownBlock=v.ownBlock\/(Value.slice a' (ns.length+1) c').ownBlock=some w.heap.size)->K (a.put o.dst (.slice a' (ns.length+1) c')) w'):
  if Region.wanted o (yielded ops a.tmps)=true then Oper.wp prog o a w K Q else E:=by
 rw[if_pos hgd];obtain⟨i0,hi0,hz0,hz1,hz2⟩:=AQ5;obtain⟨v',w',hr,h2,h3,_,h5⟩:=run_append_own_at (P:=prog) w 0 63 o.type 69 i0 _ 3 32 underlying63 hi0 hz0 hz1 hz2 rfl (by decide) v ns.length (AO ns) hown.row ⟨q,0,none⟩ 1 1 (wJ t) rfl (O7 hnews) (Lay.one t) (by simp only[maxLen];omega) hl (Nat.zero_le _);have h2':BD w' 0 v' (ns++[t]):=BD.G8 (by rw[List.length_append,EK];exact h2);obtain⟨a',c',rfl,_⟩:=h2'.slice;have hlen:(ns++[t]).length=ns.length+1:=by simp
 rw[hlen]at h2' hr h5;unfold Oper.wp execOp;simp only[ho,resolve,invoke,builtin,Sem.run_bind,Sem.run_pure,Result.andThen_ok,List.map_toArray,List.map_cons,List.map_nil,hs,hx,hr];exact h a' c' w' h2' h3 h5
theorem AV2{k:Nat}{e:Ev}(h:ws[k]?=some x):PO (ws.take (k+1)) e=PO (ws.take k) e++(if uV x e=true then [AP6 e x]else []):=by
 rw[LD h];simp only[PO,List.filter_append,List.map_append]
 cases hx:uV x e<;>simp[hx]
theorem BX8(ws:List Wa)(e:Ev)(k:Nat):(PO (ws.take k) e).length<=k:=by
 have:=lT (ws.take k) e;have h2:(ws.take k).length<=k:=by simp;omega
 omega
theorem BF2(q cap B:Nat)(ws:List Wa)(e:Ev)(w:World)(hq:q<w.heap.size)(hr:BL w q 0 (AO ws))(hE:EW w B e)(hl:ws.length*32<=140737488351232)(hp:e.p.length<=140737488355328):
  Calls prog 222 #[.slice (some ⟨q,0,none⟩) ws.length cap,evV e,.func (.func 220) #[] #[P0 B]] w fun r w'=>
   ∃v',r=.returned v'/\BD w' w.heap.size v' (PO ws e)/\B0 w w':=by
 obtain⟨w0,hw0⟩:∃w0,w.alloc (.cells #[I0 e.k,S0 e.p] 67)=w0:=⟨_,rfl⟩;have hz0:w0.heap.size=w.heap.size+1:=by rw[<-hw0];simp
 have hb0:B0 w w0:=by rw[<-hw0];exact AB _ _
 have X0:EW w0 w.heap.size e:=by rw[<-hw0];exact wG w e.k e.p
 have HR:=AA (fun W (hW:B0 w0 W)=>(hr.kept hb0 hq).kept hW (by omega));have HX:=AA (fun W (hW:B0 w0 W)=>(⟨by simpa using (EW.row ((hW.block _ (by omega)).trans X0) 0 _ rfl),by simpa using (EW.row ((hW.block _ (by omega)).trans X0) 1 _ rfl)⟩:W.cell? ⟨w.heap.size,0,none⟩=some (I0 e.k)/\W.cell? ⟨w.heap.size,1,none⟩=some (S0 e.p)));have CF:=AA (fun W (hW:B0 w0 W) x=>rP x e B W ((hW.block _ (by have:=(Array.getElem?_eq_some_iff.1 hE).1;omega)).trans ((hb0.block _ (Array.getElem?_eq_some_iff.1 hE).1).trans hE)));have CC:=fun W=>jW e.p W (by omega);have HB0:=AA hb0;clear hr hE X0 hb0;unfold evV;unfold waV at CF;go_enter func222,ntmps222;go_wp2_with fail
 try rw[hw0]
 go_loopg [7,12] ws.length (fun kx s7 s12 wr=>∃ (k:Nat) (va:Option Addr) (vc:Nat),s12=I0 k/\s7=.slice va (PO (ws.take k) e).length vc/\k<=ws.length/\ws.length-k<=kx/\Hid (BD wr w0.heap.size (.slice va (PO (ws.take k) e).length vc) (PO (ws.take k) e))/\Hid (B0 w0 wr))
 case atStart=>exact⟨0,none,0,rfl,rfl,Nat.zero_le _,Nat.le_refl _,AA (.inl ⟨rfl,rfl⟩),AA (Below.refl _ _)⟩
 case round=>
  obtain⟨k,va,vc,rfl,rfl,hk,hg,hO,hB⟩:=hrel;by_cases hlt:k<ws.length
  .obtain⟨x,hx⟩:∃x,ws[k]?=some x:=⟨_,List.getElem?_eq_getElem hlt⟩;have qr:=A8 HR wr (A8 hB);have d0:=qr.w0 hx;have d1:=qr.w1 hx;have d2:=qr.w2 hx;simp only[Nat.zero_add]at d0 d1 d2;have hqw:q<wr.heap.size:=by have:=(A8 hB).size;omega
   have hts:=AV2 (e:=e) hx;have hnl:=BX8 ws e k;obtain⟨N,hN⟩:∃N,PO (ws.take k) e=N:=⟨_,rfl⟩;rw[hN]at hO hts hnl;have hB1:=AL (A8 hB) (AB wr (.cells #[I0 x.s,I0 x.k,S0 x.p] 100));have CX:=A8 CF _ hB1 x;have HB1:=AA hB1;rw[hN];clear qr hx hN hB1
   cases hpx:uV x e
   .rw[hpx]at CX hts;simp only[Bool.false_eq_true,if_false,List.append_nil]at hts;have HTS:=AA hts;clear hts hpx;go_wp2_with fail;refine CX.mono ?_;rintro r w1 ⟨rfl,hb1⟩;have HB2:=AA (AL (A8 HB1) hb1);have HO2:=AA (((A8 hO).next (AB wr (.cells #[I0 x.s,I0 x.k,S0 x.p] 100))).next hb1);clear CX hb1;go_wp2_with fail
    go_roundg (ws.length-(k+1))
    case measure=>omega
    case rel=>exact⟨k+1,va,vc,rfl,by rw[A8 HTS],by omega,Nat.le_refl _,by rw[A8 HTS];exact HO2,HB2⟩
   .rw[hpx]at CX hts;simp only[if_true]at hts;have HTS:=AA hts;clear hts hpx;go_wp2_with fail;refine CX.mono ?_;rintro r w1 ⟨rfl,hb1⟩;have HB2:=AA (AL (A8 HB1) hb1);have O2:=((A8 hO).next (AB wr (.cells #[I0 x.s,I0 x.k,S0 x.p] 100))).next hb1;have K1:∀w2,B0 w1 w2->w2.cell? ⟨wr.heap.size,0,none⟩=some (I0 x.s)/\w2.cell? ⟨w.heap.size,0,none⟩=some (I0 e.k)/\w2.cell? ⟨w.heap.size,1,none⟩=some (S0 e.p):=by
     intro w2 hb2;have hbb:=AL (A8 HB2) hb2;refine⟨?_,(A8 HX w2 hbb).1,(A8 HX w2 hbb).2⟩;have hz:wr.heap.size<w1.heap.size:=by have:=hb1.size;simp at this;omega
     rw[hb2.cell (p:=⟨wr.heap.size,0,none⟩) hz,hb1.cell (p:=⟨wr.heap.size,0,none⟩) (by simp)];simp
    obtain⟨m0,m1,m2⟩:=K1 w1 (Below.refl _ _);have HK1:=AA K1;have KE:=AA (fun w2 (hb2:B0 w1 w2)=>((O2.next hb2).next (AB w2 (.cells #[I0 x.s,I0 e.k,S0 e.p] 69))).lower (Nat.zero_le w0.heap.size));have KA:=AA (Z7 O2);have K2:∀ (w2 w3:World) (a3:Option Addr) (c3:Nat),B0 w1 w2->BD w3 0 (.slice a3 (N.length+1) c3) (N++[⟨x.s,e.k,e.p⟩])->(w2.alloc (.cells #[I0 x.s,I0 e.k,S0 e.p] 69)).grownBy w3 (Value.slice va N.length vc).ownBlock->
      ((Value.slice a3 (N.length+1) c3).ownBlock=(Value.slice va N.length vc).ownBlock\/(Value.slice a3 (N.length+1) c3).ownBlock=some (w2.alloc (.cells #[I0 x.s,I0 e.k,S0 e.p] 69)).heap.size)->
      BD w3 w0.heap.size (.slice a3 (N.length+1) c3) (N++[⟨x.s,e.k,e.p⟩])/\B0 w0 w3:=by
     intro w2 w3 a3 c3 hb2 ho3 hg3 hl3;have hbb:=AL (AL (A8 HB2) hb2) (AB w2 (.cells #[I0 x.s,I0 e.k,S0 e.p] 69));refine⟨fD ho3 (fun j hj=>?_),hbb.grown hg3 hbb.size (A8 KA)⟩;rcases hl3 with h|h
     .rw[h]at hj;exact A8 KA j hj
     .rw[h]at hj;cases hj;exact hbb.size
    have HK2:=AA K2;have hsz1:wr.heap.size<w1.heap.size:=by have:=hb1.size;simp at this;omega
    have hsz2:w.heap.size<w1.heap.size:=by have:=(A8 HB2).size;omega
    have hNl:(N.length+1)*32<=140737488355328:=by omega
    clear CX hb1 K1 K2 O2;go_wp2_with fail
    go_region_law (first
     |(refine xY (by kernel_rfl) _ _ (by rfl) (.slice va N.length vc) N (by rfl) (A8 KE w2 (A8 HB3)) w2.heap.size (by rfl) ⟨x.s,e.k,e.p⟩ (BF1 w2 ⟨x.s,e.k,e.p⟩) hNl ?_;intro a3 c3 w3 ho3 hg3 hl3;obtain⟨o3,b3⟩:=A8 HK2 w2 w3 a3 c3 (A8 HB3) ho3 hg3 hl3;have HO3:=AA o3;have HB4:=AA b3;clear ho3 hg3 hl3 o3 b3)
     |(go_simp;refine(CC _).mono ?_;rintro r w2 ⟨rfl,hb2⟩;have HB3:Hid (B0 w1 w2):=(by first|exact hb2|exact BK hb2);obtain⟨p0,p1,p2⟩:=A8 HK1 w2 (A8 HB3);clear hb2))
    all_goals
     go_wp2_with fail
     go_roundg (ws.length-(k+1))
     case measure=>omega
     case rel=>exact⟨k+1,_,_,rfl,by rw[A8 HTS,List.length_append];rfl,by omega,Nat.le_refl _,by rw[A8 HTS,List.length_append];exact HO3,HB4⟩
  .obtain rfl:k=ws.length:=by omega
   rw[List.take_length]at hO⊢;have HB:=AA (AL (A8 HB0) (A8 hB));have hO2:Hid (BD wr w.heap.size (.slice va (PO ws e).length vc) (PO ws e)):=AA ((A8 hO).lower (by omega));clear hO;go_wp2_with fail;go_ret;exact⟨_,rfl,A8 hO2,A8 HB⟩
theorem A45(pr:Wa->Bool):∀ws:List Wa,(∀a∈ws,pr a=false)\/∃A x R,ws=A++x::R/\(∀a∈A,pr a=false)/\pr x=true
 |[]=>.inl (by simp)
 |y::r=>by
  cases h:pr y
  .rcases A45 pr r with h1|⟨A,x,R,rfl,h1,h2⟩
   .exact .inl (by intro a ha;rcases List.mem_cons.1 ha with rfl|ha;exact h;exact h1 a ha)
   .exact .inr ⟨y::A,x,R,rfl,(by intro a ha;rcases List.mem_cons.1 ha with rfl|ha;exact h;exact h1 a ha),h2⟩
  .exact .inr ⟨[],y,r,rfl,by simp,h⟩
theorem rQ(h:∀a∈ws,pr a=false):ws.filter (fun x=> !pr x)=ws:=by
 rw[List.filter_eq_self];intro a ha;simp[h a ha]
theorem A46{g:FuncId}{I:World->Prop}(C:CC5 g B q pr I)(cap:Nat)(ws:List Wa)(w:World)(hi:I w)(ho:DY w q cap ws)(hl:ws.length<=140737488355328):
  Calls prog 223 #[.slice (some ⟨q,0,none⟩) ws.length cap,.func (.func g) #[] #[P0 B]] w fun e w'=>
   e=.returned (.slice (some ⟨q,0,none⟩) (ws.filter (fun x=> !pr x)).length cap)/\DY w' q cap (ws.filter (fun x=> !pr x))/\w.grownBy w' (some q):=by
 rcases A45 pr ws with hA|⟨A,x,R,hws,hA,hx⟩
 .rw[rQ hA];have CN:=AV1 C _ ws w hi (BD.seq (.inr ⟨q,cap,rfl,Nat.zero_le _,ho⟩)) hl hA;have HO:=AA ho;have two:=C.two;clear C hA hi ho;rcases two with rfl|rfl
  all_goals
   go_enter func223,ntmps223;go_wp2_with fail;refine CN.mono ?_;rintro e w1 ⟨rfl,hb1⟩;have HB:=AA hb1;clear CN hb1;go_wp2_with fail;go_ret;exact⟨rfl,(A8 HO).next (A8 HB),GV (A8 HB)⟩
 .obtain⟨n,hn⟩:∃n,ws.length=n:=⟨_,rfl⟩;have hAn:A.length<n:=by rw[<-hn,hws];simp
  have hnc:n<=cap:=by rw[<-hn];exact ho.le
  have hcl:=ho.capLe;simp only[maxLen]at hcl;have CA:=BX7 C q 0 cap A x R w hi ho.lt (by rw[<-hws];exact ho.row) (by rw[<-hws];exact hl) hA hx;rw[<-hws,hn]at CA;obtain⟨T,hT⟩:∃T,ws.filter (fun x=> !pr x)=T:=⟨_,rfl⟩;rw[hn]at hl⊢;rw[hT];have HTk:Hid (∀j,n<=j->(ws.take j).filter (fun x=> !pr x)=T):=AA (fun j hj=>by rw[List.take_of_length_le (by omega)];exact hT);have HF0:Hid ((ws.take (A.length+1)).filter (fun x=> !pr x)=A):=AA (by
   rw[hws,List.take_append,List.take_of_length_le (by omega),List.filter_append,rQ hA];simp[hx])
  have HG0:Hid (ws=A++[x]++ws.drop (A.length+1)):=AA (by
   rw[hws];simp)
  have HN:=AA hn;have HO:=AA ho;have HC:=AA C;have HI:=AA (fun W (hW:w.grownBy W (some q))=>C.keep w W hi hW);have two:=C.two;clear hn hws hA hx ho C hT hi;rcases two with rfl|rfl
  all_goals
   go_enter func223,ntmps223;go_wp2_with fail;refine CA.mono ?_;rintro e w1 ⟨rfl,hb1⟩;have HB:=AA hb1;clear CA hb1;go_wp2_with fail
   go_loopg [5,6] n (fun kx s5 s6 wr=>∃ (j:Nat) (F G:List Wa),s5=I0 F.length/\s6=I0 j/\j<=n/\n-j<=kx/\F.length+G.length=j/\0<G.length/\Hid ((ws.take j).filter (fun x=> !pr x)=F)/\Hid (DY wr q cap (F++G++ws.drop j))/\Hid (w.grownBy wr (some q)))
   case atStart=>exact⟨A.length+1,A,[x],rfl,rfl,by omega,by omega,rfl,by simp,HF0,AA (by rw[<-A8 HG0];exact(A8 HO).next (A8 HB)),AA (GV (A8 HB))⟩
   case round=>
    obtain⟨j,F,G,rfl,rfl,hj,hg,hFG,hG0,hF,hO,hW⟩:=hrel;have hFj:F.length<j:=by omega
    by_cases hlt:j<n
    .obtain⟨y,hy⟩:∃y,ws[j]?=some y:=⟨_,List.getElem?_eq_getElem (by rw[A8 HN];exact hlt)⟩;have hd:ws.drop j=y::ws.drop (j+1):=by
      obtain⟨h1,h2⟩:=List.getElem?_eq_some_iff.1 hy;rw[List.drop_eq_getElem_cons h1,h2]
     have hf:(ws.take (j+1)).filter (fun x=> !pr x)=F++(if pr y=true then []else [y]):=by
      rw[LD hy,List.filter_append,A8 hF]
      cases hpy:pr y<;>simp[hpy]
     rw[hd]at hO;have hyr:(F++G++y::ws.drop (j+1))[j]?=some y:=by
      rw[List.getElem?_append_right (by simp;omega)];simp[hFG]
     obtain⟨z,G',rfl⟩:∃z G',G=z::G':=by
      cases G with
      |nil=>simp at hG0
      |cons z G'=>exact⟨z,G',rfl⟩
     have hzr:(F++z::G'++y::ws.drop (j+1))[F.length]?=some z:=by simp
     have d0:=(A8 hO).row.w0 hyr;have d1:=(A8 hO).row.w1 hyr;have d2:=(A8 hO).row.w2 hyr;have hq:=(A8 hO).lt;have hqn:q≠wr.heap.size:=by omega
     simp only[Nat.zero_add]at d0 d1 d2;have HW1:=AA (BZ (A8 hW) (GV (AB wr (.cells #[I0 y.s,I0 y.k,S0 y.p] 100))));have CX:=(A8 HC).gives _ y (A8 HI _ (A8 HW1));have hjn:(j:Int)<(n:Int):=by omega
     by_cases hp:pr y=true
     .rw[hp]at CX hf;rw[if_pos rfl,List.append_nil]at hf;have HF:=AA hf;clear hy hd hf hyr hp hzr;go_wp2_with fail;refine CX.mono ?_;rintro e w2 ⟨rfl,hb2⟩;have HO2:Hid (DY w2 q cap (F++(z::G'++[y])++ws.drop (j+1))):=AA (by
       have:=((A8 hO).next (AB wr (.cells #[I0 y.s,I0 y.k,S0 y.p] 100))).next hb2;simpa using this)
      have HW2:=AA (BZ (A8 HW1) (GV hb2));clear CX hb2;go_wp2_with fail
      go_roundg (n-(j+1))
      case measure=>omega
      case rel=>exact⟨j+1,F,z::G'++[y],rfl,rfl,by omega,Nat.le_refl _,by simp at hFG⊢;omega,by simp,HF,HO2,HW2⟩
     .have hp':pr y=false:=by simpa using hp
      rw[hp']at CX;rw[if_neg hp]at hf;have HF:=AA hf;clear hy hd hf hyr hp hp';have hFn:(F.length:Int)<(n:Int):=by omega
      go_wp2_with fail;refine CX.mono ?_;rintro e w2 ⟨rfl,hb2⟩;have O2:=((A8 hO).next (AB wr (.cells #[I0 y.s,I0 y.k,S0 y.p] 100))).next hb2;have c0:w2.cell? ⟨wr.heap.size,0,none⟩=some (I0 y.s):=by rw[hb2.cell (p:=⟨wr.heap.size,0,none⟩) (by simp)];simp
      have c1:w2.cell? ⟨wr.heap.size,1,none⟩=some (I0 y.k):=by rw[hb2.cell (p:=⟨wr.heap.size,1,none⟩) (by simp)];simp
      have c2:w2.cell? ⟨wr.heap.size,2,none⟩=some (S0 y.p):=by rw[hb2.cell (p:=⟨wr.heap.size,2,none⟩) (by simp)];simp
      have e0:=O2.row.w0 hzr;have e1:=O2.row.w1 hzr;have e2:=O2.row.w2 hzr;simp only[Nat.zero_add]at e0 e1 e2;have f0:=O2.frozen (F.length*3);have f1:=O2.frozen (F.length*3+1);have f2:=O2.frozen (F.length*3+2);have hz2:wr.heap.size<w2.heap.size:=by have:=hb2.size;simp at this;omega
      have HO3:Hid (DY (((w2.setCell ⟨q,F.length*3,none⟩ (I0 y.s)).setCell ⟨q,F.length*3+1,none⟩ (I0 y.k)).setCell ⟨q,F.length*3+2,none⟩ (S0 y.p)) q cap ((F++[y])++(G'++[y])++ws.drop (j+1))):=AA (by
       have O2':DY w2 q cap (F++z::(G'++y::ws.drop (j+1))):=by simpa using O2
       have:=O2'.qJ y;have e:F++[y]++(G'++[y])++ws.drop (j+1)=F++y::(G'++y::ws.drop (j+1)):=by simp
       rw[e];exact this)
      have HW3:Hid (w.grownBy (((w2.setCell ⟨q,F.length*3,none⟩ (I0 y.s)).setCell ⟨q,F.length*3+1,none⟩ (I0 y.k)).setCell ⟨q,F.length*3+2,none⟩ (S0 y.p)) (some q)):=
       AA (BZ (BZ (BZ (BZ (A8 HW1) (GV hb2)) (LY _)) (LY _)) (LY _))
      clear CX hb2 O2 hzr;go_wp2_with fail
      go_roundg (n-(j+1))
      case measure=>omega
      case rel=>exact⟨j+1,F++[y],G'++[y],by rw[List.length_append];rfl,rfl,by omega,Nat.le_refl _,by simp at hFG⊢;omega,by simp,HF,HO3,HW3⟩
    .obtain rfl:j=n:=by omega
     have hTF:T=F:=((A8 HTk j (Nat.le_refl _)).symm.trans (A8 hF));have OF:DY wr q cap F:=DY.head (B:=G++ws.drop j) (by have:=A8 hO;rwa[List.append_assoc]at this);have CL8:∀ty c,(Builtin.clear_ #[41] ty #[.slice (some ⟨q,F.length*3,none⟩) (j-F.length) c]).run prog wr=.ok (.tuple #[]) (wr.setCells q (F.length*3) (VL (j-F.length))):=fun ty c=>
      AF2 wr ty q _ _ c (by omega) (fun i hi=>OF.some (show F.length*3+i<cap*3 by omega)) (fun i hi=>OF.frozen _)
     have FIN:Hid (DY (wr.setCells q (F.length*3) (VL (j-F.length))) q cap F/\w.grownBy (wr.setCells q (F.length*3) (VL (j-F.length))) (some q)):=
      AA ⟨OF.spare _ _ (Nat.le_refl _) (by rw[RJ];show _<=cap*3;omega),BZ (A8 hW) (BI _ _ _)⟩
     have hcn:¬ (cap=F.length):=by omega
     have hFc:F.length<=cap:=by omega
     have hFn:F.length<=j:=by omega
     have hjj:¬ ((j:Int)<(j:Int)):=by omega
     clear OF hO hW hF HTk HF0 HG0;subst hTF;go_wp2_with fail;go_ret;exact⟨rfl,(A8 FIN).1,(A8 FIN).2⟩
theorem AF3(ws:List Wa)(es:List Ev)(k:Nat)(e:Ev)(h:es[k]?=some e):KP ws (es.take (k+1))=KP ws (es.take k)++PO (G9 ws (es.take k)) e:=by
 rw[LD h,AP7];simp[KP]
theorem AF4(ws:List Wa)(es:List Ev)(k:Nat)(e:Ev)(h:es[k]?=some e):G9 ws (es.take (k+1))=iM (G9 ws (es.take k)) e:=by
 rw[LD h,AP8];simp[G9]
theorem iT{w:World}{ops:Array Oper}{rest:List Oper}{o:Oper}{a:Act}{Q:Exit->Act->World->Prop}(hgd:o.guard=none)(s x:Operand)
  (ho:o.op=.call {callee:=.builtin .append,args:=#[s,x],argTypes:=#[63,63]})
  (v u:Value) (ns ms:List Nt) (C:Nat) (hs:a.eval s=v) (hown:BD w 0 v ns) (hx:a.eval x=u) (hu:BD w C u ms) (hl:(ns.length+ms.length)*32<=140737488355328)
  (h:∀a' c' w',BD w' 0 (.slice a' (ns.length+ms.length) c') (ns++ms)->w.grownBy w' v.ownBlock->((Value.slice a' (ns.length+ms.length) c').ownBlock=v.ownBlock\/(Value.slice a' (ns.length+ms.length) c').ownBlock=some w.heap.size)->wpList prog ops Q rest (a.put o.dst (.slice a' (ns.length+ms.length) c')) w'):
  wpList prog ops Q (o::rest) a w:=by
 refine wpList_plain hgd fun K hK=>?_;obtain⟨i0,hi0,hz0,hz1,hz2⟩:=AQ5;rcases hu with⟨rfl,rfl⟩|⟨g,cap,rfl,_,hr⟩
 .obtain⟨a',c',rfl,_⟩:=hown.slice;have hrun:=run_append_owned_none (P:=prog) (w:=w) 0 63 o.type 69 i0 3 underlying63 hi0 _ ns.length (AO ns) hown.row;unfold Oper.wp execOp;simp only[ho,resolve,invoke,builtin,Sem.run_bind,Sem.run_pure,Result.andThen_ok,List.map_toArray,List.map_cons,List.map_nil,hs,hx,hrun];exact hK _ _ (h a' c' w (by rw[List.append_nil];exact hown) (World.grownBy.refl _ _) (.inl rfl))
 .obtain⟨v',w',hrun,h2,h3,_,h5⟩:=run_append_own_at (P:=prog) w 0 63 o.type 69 i0 _ 3 32 underlying63 hi0 hz0 hz1 hz2 rfl (by decide) v ns.length (AO ns) hown.row ⟨g,0,none⟩ ms.length cap (AO ms) (BA ms) (fun j y hj=>by rw[Addr.add_lit];exact hr.row j y hj) (EZ ms) (by simp only[maxLen];omega) hl (Nat.zero_le _);have h2':BD w' 0 v' (ns++ms):=BD.G8 (by rw[List.length_append,BH];exact h2);obtain⟨a',c',rfl,_⟩:=h2'.slice;rw[List.length_append]at h2' hrun h5;unfold Oper.wp execOp;simp only[ho,resolve,invoke,builtin,Sem.run_bind,Sem.run_pure,Result.andThen_ok,List.map_toArray,List.map_cons,List.map_nil,hs,hx,hrun];exact hK _ _ (h a' c' w' h2' h3 h5)
theorem EW.grown{V:World}{e:Ev}(h:EW W B e)(hg:W.grownBy V (some q))(hne:B≠q):EW V B e:=
 (hg.block B (Array.getElem?_eq_some_iff.1 h).1 (by simp[hne])).trans h
theorem AF5(B q:Nat)(e:Ev)(hne:B≠q):CC5 220 B q (fun x=>uV x e) (fun W=>EW W B e):=
 ⟨.inl rfl,fun _ _ h hg=>h.grown hg hne,fun W x h=>rP x e B W h⟩
theorem BF3(v u:Value)(ws:List Wa)(es:List Ev)(w:World)(hv:BQ w v ws)(hu:BQ w u es)(hs:iQ ws)(he:BP8 es)(hl:ws.length*32<=140737488351232)(hle:es.length<=140737488355328):
  Calls prog 185 #[v,u] w fun r w'=>∃vn vl,r=.returned (.tuple #[vn,vl])/\BD w' w.heap.size vn (KP ws es)/\(∃g,vl=.slice (some ⟨g,0,none⟩) (G9 ws es).length (ws.length+1)/\w.heap.size<=g/\DY w' g (ws.length+1) (G9 ws es))/\B0 w w':=by
 have CC:=WI v ws w hv hs hl;have KR:∀W,B0 w W->∀k x,es[k]?=some x->∃b off cap,u=.slice (some ⟨b,off,none⟩) es.length cap/\b<w.heap.size/\BL W b off (AO es):=fun W hW k x hx=>by
  obtain⟨b,off,cap,e,hb,hr,_,_⟩:=J7 hu (fun h0=>by obtain⟨h1,_⟩:=List.getElem?_eq_some_iff.1 hx;rw[h0]at h1;simp at h1);exact⟨b,off,cap,e,hb,hr.kept hW hb⟩
 have HKR:=AA KR;have HE:=AA he;obtain⟨va,vc,rfl⟩:=AU hv;obtain⟨ua,uc,rfl⟩:=AU hu;obtain⟨i0,hi0,hz0,hz1,hz2⟩:=AQ5;clear hv hu hs he KR;go_enter func185,ntmps185;go_wp2_with fail;refine CC.mono ?_;rintro r w0 ⟨q,rfl,hq,ho,hb⟩;have HO:Hid (DY w0 q (ws.length+1) ws):=AA ho;have HB:=AA hb;clear CC ho hb;go_wp2_with fail
 go_loopg [6,7,15] es.length (fun kx s6 s7 s15 wr=>∃ (k:Nat) (na:Option Addr) (nc:Nat),s15=I0 k/\s6=.slice na (KP ws (es.take k)).length nc/\s7=.slice (some ⟨q,0,none⟩) (G9 ws (es.take k)).length (ws.length+1)/\k<=es.length/\es.length-k<=kx/\
  Hid (BD wr w.heap.size (.slice na (KP ws (es.take k)).length nc) (KP ws (es.take k)))/\Hid ((Value.slice na (KP ws (es.take k)).length nc).ownBlock≠some q)/\Hid (DY wr q (ws.length+1) (G9 ws (es.take k)))/\Hid (B0 w wr))
 case atStart=>exact⟨0,none,0,rfl,rfl,rfl,Nat.zero_le _,Nat.le_refl _,AA (.inl ⟨rfl,rfl⟩),AA (by simp[Value.ownBlock]),HO,HB⟩
 case round=>
  obtain⟨k,na,nc,rfl,rfl,rfl,hk,hg,hN,hnq,hO,hB⟩:=hrel;by_cases hlt:k<es.length
  .obtain⟨e,hx⟩:∃e,es[k]?=some e:=⟨_,List.getElem?_eq_getElem hlt⟩;obtain⟨b,off,cap,he,hb,qr⟩:=A8 HKR wr (A8 hB) k e hx;simp only[Value.slice.injEq]at he;obtain⟨rfl,_,rfl⟩:=he;have d0:=qr.e0 hx;have d1:=qr.e1 hx;have hep:=A8 HE e (List.mem_of_getElem? hx);have hbw:b<wr.heap.size:=Nat.lt_of_lt_of_le hb (A8 hB).size;have HTN:=AA (AF3 ws es k e hx);have HTW:=AA (AF4 ws es k e hx);have hfl:=bC (es.take k) ws;obtain⟨N,hN'⟩:∃N,KP ws (es.take k)=N:=⟨_,rfl⟩;obtain⟨L,hL'⟩:∃L,G9 ws (es.take k)=L:=⟨_,rfl⟩;rw[hN']at hN hnq HTN hfl⊢;rw[hL']at hO HTN HTW hfl⊢;have htl:=lT L e;clear qr hx hN' hL';obtain⟨wx,hwx⟩:∃wx,wr.alloc (.cells #[I0 e.k,S0 e.p] 67)=wx:=⟨_,rfl⟩;have hbx:B0 wr wx:=by rw[<-hwx];exact AB _ _
   have hzx:wx.heap.size=wr.heap.size+1:=by rw[<-hwx];simp
   have X:EW wx wr.heap.size e:=by rw[<-hwx];exact wG wr e.k e.p
   have hqr:=(A8 hO).lt;have x0:wx.cell? ⟨wr.heap.size,0,none⟩=some (I0 e.k):=by simpa using X.row 0 _ rfl
   have x1:wx.cell? ⟨wr.heap.size,1,none⟩=some (S0 e.p):=by simpa using X.row 1 _ rfl
   have CT:=BF2 q (ws.length+1) wr.heap.size L e wx (by omega) ((A8 hO).next hbx).row X (by omega) hep;unfold evV at CT;have KT:∀w2 v2,BD w2 wx.heap.size v2 (PO L e)->B0 wx w2->
     BD w2 w.heap.size (.slice na N.length nc) N/\DY w2 q (ws.length+1) L/\EW w2 wr.heap.size e/\B0 w w2/\(∀j,v2.ownBlock=some j->j≠q/\w.heap.size<=j/\j≠wr.heap.size)/\BQ w2 v2 (PO L e):=by
    intro w2 v2 h2 hb2;have hb3:=AL hbx hb2;refine⟨(A8 hN).next hb3,(A8 hO).next hb3,(hb2.block _ (by omega)).trans X,AL (A8 hB) hb3,fun j hj=>?_,h2.seq⟩;have:=Z7 h2 j hj;have:=(A8 hB).size;omega
   have HKT:=AA KT;have HXZ:=AA hzx;have hno:(Value.slice na N.length nc).ownBlock≠some wr.heap.size:=fun h=>by have:=(A8 hN).low _ h;omega
   have HNO:=AA hno;clear KT X hno;go_wp2_with fail;refine CT.mono ?_;rintro r w2 ⟨v2,rfl,ho2,hb2⟩;obtain⟨n2,o2,x2,b2,k2,s2⟩:=A8 HKT w2 v2 ho2 hb2;have hzz:wr.heap.size<w2.heap.size:=by have:=hb2.size;omega
   have hq2:=o2.lt;have HQ:=AA (show wr.heap.size≠q by omega);have HN2:=AA n2;have HO2:=AA o2;have HX2:=AA x2;have HB2:=AA b2;have HV2:=AA ho2;have hml:(N.length+(PO L e).length)*32<=140737488355328:=by omega
   have hLl:L.length<=140737488355328:=by omega
   obtain⟨M,hM⟩:∃M,PO L e=M:=⟨_,rfl⟩;rw[hM]at HV2 hml HTN;have HTL:Hid (∀L',L.filter (fun x=> !uV x e)=L'->G9 ws (es.take (k+1))=L'):=AA (fun L' h=>(A8 HTW).trans h);obtain⟨v2a,v2c,rfl,_⟩:=(A8 HV2).slice;clear n2 o2 x2 b2 k2 s2 ho2 hb2 CT hM hfl htl hbx hzx hep HKT x0 x1 hwx;go_wp2_with (at_builtin;refine iT rfl _ _ rfl (.slice na N.length nc) (.slice v2a M.length v2c) N M wx.heap.size rfl ((A8 HN2).lower (Nat.zero_le _)) rfl (A8 HV2) hml ?_);intro a3 c3 w3 ho3 hg3 hl3;have hab:=Z7 (A8 HN2);have B3:B0 w w3:=(A8 HB2).grown hg3 (A8 HB2).size hab;have N3:BD w3 w.heap.size (.slice a3 (N.length+M.length) c3) (N++M):=fD ho3 (fun j hj=>by
    rcases hl3 with h|h
    .rw[h]at hj;exact hab j hj
    .rw[h]at hj;cases hj;exact(A8 HB2).size)
   have Q3:(Value.slice a3 (N.length+M.length) c3).ownBlock≠some q:=by
    rcases hl3 with h|h
    .rw[h];exact A8 hnq
    .rw[h];intro h';cases h';omega
   have O3:DY w3 q (ws.length+1) L:=by
    obtain⟨rest,h1,h2⟩:=A8 HO2;exact⟨rest,(hg3.block q hq2 (fun h=>A8 hnq h.symm)).trans h1,h2⟩
   have X3:EW w3 wr.heap.size e:=(hg3.block _ hzz (fun h=>A8 HNO h.symm)).trans (A8 HX2);have CD:=A46 (AF5 wr.heap.size q e (A8 HQ)) (ws.length+1) L w3 X3 O3 hLl;have HB3:=AA B3;have HN3:=AA N3;have HQ3:=AA Q3;obtain⟨L',hL'⟩:∃L',L.filter (fun x=> !uV x e)=L':=⟨_,rfl⟩;have HL':=AA (A8 HTL L' hL');rw[hL']at CD;clear ho3 hg3 hl3 hab B3 N3 Q3 O3 X3 hL';go_wp2_with fail;refine CD.mono ?_;rintro r w4 ⟨rfl,ho4,hg4⟩;have HB4:=AA ((A8 HB3).grown hg4 (A8 HB3).size (fun j hj=>by cases hj;exact hq));have HN4:=AA ((A8 HN3).grown hg4 (fun j hj h=>A8 HQ3 (hj.trans h)));have HO4:=AA ho4;clear CD ho4 hg4;go_wp2_with fail
   go_roundg (es.length-(k+1))
   case measure=>omega
   case rel=>
    refine⟨k+1,a3,c3,rfl,?_,?_,by omega,Nat.le_refl _,?_,?_,?_,HB4⟩
    .rw[A8 HTN,List.length_append]
    .rw[A8 HL']
    .rw[A8 HTN,List.length_append];exact HN4
    .rw[A8 HTN,List.length_append];exact HQ3
    .rw[A8 HL'];exact HO4
  .obtain rfl:k=es.length:=by omega
   rw[List.take_length]at hN hnq hO⊢;go_wp2_with fail
   go_ret2
   exact⟨_,_,rfl,A8 hN,⟨q,rfl,hq,A8 hO⟩,A8 hB⟩
theorem BF4(v:Value)(s:Int)(ws:List Wa)(w:World)(hv:BQ w v ws)(hs:iQ ws)(hl:ws.length*32<=140737488351232):
  Calls prog 186 #[v,I0 s] w fun r w'=>∃g,r=.returned (.slice (some ⟨g,0,none⟩) (iO ws s).length (ws.length+1))/\w.heap.size<=g/\DY w' g (ws.length+1) (iO ws s)/\B0 w w':=by
 have CC:=WI v ws (w.alloc (.cells #[I0 s] 3)) (hv.next (AB _ _)) hs hl;obtain⟨va,vc,rfl⟩:=AU hv;have hLl:ws.length<=140737488355328:=by omega
 obtain⟨D,hD⟩:∃D,iO ws s=D:=⟨_,rfl⟩;rw[hD];have HD:Hid (ws.filter (fun x=> !decide (x.s=s))=D):=AA hD;clear hv hs hD;go_enter func186,ntmps186;go_wp2_with fail;refine CC.mono ?_;rintro r w1 ⟨q,rfl,hq,ho,hb⟩;have hq1:w.heap.size+1<=q:=by simpa using hq
 have c1:w1.cell? ⟨w.heap.size,0,none⟩=some (I0 s):=by rw[hb.cell (p:=⟨w.heap.size,0,none⟩) (by simp)];simp
 have hz1:w.heap.size<w1.heap.size:=by have:=hb.size;simp at this;omega
 have K:CC5 224 w.heap.size q (fun x=>decide (x.s=s)) (fun W=>W.cell? ⟨w.heap.size,0,none⟩=some (I0 s)/\w.heap.size<W.heap.size):=
  ⟨.inr rfl,fun _ _ h hg=>⟨hg.cell h.1 (by show some w.heap.size≠some q;simp;omega),Nat.lt_of_lt_of_le h.2 hg.size⟩,fun W x h=>AV0 x s w.heap.size W h.1 h.2⟩
 have CD:=A46 K (ws.length+1) ws w1 ⟨c1,hz1⟩ ho hLl;have HB:=AA (AY hb);rw[A8 HD]at CD;clear CC K ho hb c1 hq;go_wp2_with fail;refine CD.mono ?_;rintro r w2 ⟨rfl,ho2,hg2⟩;have HB2:=AA ((A8 HB).grown hg2 (A8 HB).size (fun j hj=>by cases hj;omega));clear CD hg2;go_wp2_with fail;go_ret;exact⟨q,rfl,by omega,ho2,A8 HB2⟩
def eqW(x y:Wa):Bool:=x.s==y.s&&x.k==y.k&&x.p==y.p
theorem yO{y:Wa}:eqW x y=true↔x=y:=by
 obtain⟨a,b,c⟩:=x;obtain⟨d,e,f⟩:=y;simp[eqW,and_assoc]
def sN(ws:List Wa)(x:Wa):Bool:=ws.any (fun y=>eqW x y)
theorem BH5:sN ws x=true↔x∈ws:=by
 simp only[sN,List.any_eq_true];exact⟨fun⟨y,hy,h⟩=>by rw[yO.1 h];exact hy,fun h=>⟨x,h,yO.2 rfl⟩⟩
def oU(x:Wa):Int:=if x.k≠1/\x.k≠2 then 4 else if DN x.p=false then 2 else if x.s<1\/2147483647<x.s then 3 else 0
def YA(ws:List Wa)(x:Wa):Int:=if oU x≠0 then oU x else if sN ws x=true then 0 else if 400<=ws.length then 6 else 0
def kH(ws:List Wa)(x:Wa):List Wa:=if YA ws x≠0 then []else if sN ws x=true then ws else ws++[x]
theorem C03(x y:Wa)(w:World):(binOp .eql 100 (waV x) (waV y)).run prog w=.ok (.bool (eqW x y)) w:=by
 have u3:=underlying3;have a3:=isAgg3;have z3:=sizeOf3;have u9:=underlying9;have a9:=isAgg9;have z9:=sizeOf9;have hS:prog.underlying 100=some (.struct (prog.fieldsOf 100)):=by kernel_rfl
 have hp:prog.stoodInHeld 100=false:=by kernel_rfl
 simp only[waV];rw[run_eql_struct,show (10000:Nat)=9999+1 from rfl,run_equalIn_agg w 9999 100 _ _ hS hp];simp only[Program.fieldsOf,underlying100];go_simp;unfold eqW;by_cases h1:x.s=y.s<;>by_cases h2:x.k=y.k<;>by_cases h3:x.p=y.p<;>simp[h1,h2,h3]
theorem CE4(h:Below (w.heap.size+1) (w.alloc (.cells #[I0 x.s,I0 x.k,S0 x.p] 100)) W):W.cell? ⟨w.heap.size,0,none⟩=some (I0 x.s)/\W.cell? ⟨w.heap.size,1,none⟩=some (I0 x.k)/\W.cell? ⟨w.heap.size,2,none⟩=some (S0 x.p):=by
 have hb:W.heap[w.heap.size]?=some (.cells #[I0 x.s,I0 x.k,S0 x.p] 100 (0,0)):=(h.block _ (by omega)).trans (heap_alloc_new w _);refine⟨?_,?_,?_⟩<;>simp[World.cell?,hb]
theorem C04(v:Value)(ws:List Wa)(x:Wa)(w:World)(hv:BQ w v ws)(hl:ws.length<=140737488355328):
  Calls prog 191 #[v,waV x] w fun e w'=>(∃i:Int,e=.returned (I0 i)/\decide (0<=i)=sN ws x)/\B0 w w':=by
 have KR:∀W,B0 w W->∀ (k:Nat) (y:Wa),ws[k]?=some y->∃b off cap,v=.slice (some ⟨b,off,none⟩) ws.length cap/\b<w.heap.size/\BL W b off (AO ws):=fun W hW k y hx=>by
  obtain⟨b,off,cap,e,hb,hr,_,_⟩:=J7 hv (fun h0=>by obtain⟨h1,_⟩:=List.getElem?_eq_some_iff.1 hx;rw[h0]at h1;simp at h1);exact⟨b,off,cap,e,hb,hr.kept hW hb⟩
 have HKR:=AA KR;have B0:B0 w (w.alloc (.cells #[I0 x.s,I0 x.k,S0 x.p] 100)):=AB _ _;have HB0:=AA B0;obtain⟨va,vc,rfl⟩:=AU hv;have HQ:=AA (fun y W=>C03 x y W);have HBX:=AA (fun W (h:Below (w.heap.size+1) (w.alloc (.cells #[I0 x.s,I0 x.k,S0 x.p] 100)) W)=>CE4 h);clear hv KR B0;unfold waV at HQ;unfold waV;go_enter func191,ntmps191;go_wp2_with fail
 go_loopg [8] ws.length (fun kx s8 wr=>∃k:Nat,s8=I0 k/\k<=ws.length/\ws.length-k<=kx/\Hid (sN (ws.take k) x=false)/\Hid (Below (w.heap.size+1) (w.alloc (.cells #[I0 x.s,I0 x.k,S0 x.p] 100)) wr))
 case atStart=>exact⟨0,rfl,Nat.zero_le _,Nat.le_refl _,AA (by simp[sN]),AA (Below.refl _ _)⟩
 case round=>
  obtain⟨k,rfl,hk,hg,hh,hB⟩:=hrel;have HBw:Hid (B0 w wr):=AA ((A8 HB0).trans ((A8 hB).mono (Nat.le_succ _)));obtain⟨c0,c1,c2⟩:=A8 HBX wr (A8 hB);by_cases hlt:k<ws.length
  .obtain⟨y,hy⟩:∃y,ws[k]?=some y:=⟨_,List.getElem?_eq_getElem hlt⟩;obtain⟨b,off,cap,he,hb,q⟩:=A8 HKR wr (A8 HBw) k y hy;simp only[Value.slice.injEq]at he;obtain⟨rfl,_,rfl⟩:=he;have d0:=q.w0 hy;have d1:=q.w1 hy;have d2:=q.w2 hy;have hkk:(k:Int)<(ws.length:Int):=by omega
   have qe:=A8 HQ y;have hms:sN (ws.take (k+1)) x=eqW x y:=by
    rw[LD hy,sN,List.any_append];have:=A8 hh;rw[sN]at this;rw[this];simp
   have HY:Hid (y∈ws):=AA (List.mem_of_getElem? hy);clear q hy
   cases hxy:eqW x y
   .rw[hxy]at qe hms;have HMS:=AA hms;clear hms hxy;go_wp2_with fail
    go_quiet (fail)
    go_wp2_with fail
    go_roundg (ws.length-(k+1))
    case measure=>omega
    case rel=>exact⟨k+1,rfl,by omega,Nat.le_refl _,HMS,AA ((A8 hB).trans ⟨rfl,rfl,rfl,Nat.le_refl _,fun _ _=>rfl⟩)⟩
   .rw[hxy]at qe;have HH:Hid (sN ws x=true):=AA (by
     rw[BH5,yO.1 hxy];exact A8 HY)
    clear hms hxy;go_wp2_with fail
    go_quiet (fail)
    go_wp2_with fail;go_ret;exact⟨⟨k,rfl,by rw[A8 HH];simp⟩,(A8 HBw).trans ⟨rfl,rfl,rfl,Nat.le_refl _,fun _ _=>rfl⟩⟩
  .obtain rfl:k=ws.length:=by omega
   rw[List.take_length]at hh;go_wp2_with fail;go_ret;exact⟨⟨-1,rfl,by rw[A8 hh];rfl⟩,A8 HBw⟩
theorem BH6(v:Value)(ws:List Wa)(x:Wa)(w:World)(hv:BQ w v ws)(hl:ws.length<=140737488355328):
  Calls prog 152 #[v,waV x] w (R0 w (.bool (sN ws x))):=by
 have C:=C04 v ws x (w.alloc (.cells #[I0 x.s,I0 x.k,S0 x.p] 100)) (hv.alloc _) hl;obtain⟨va,vc,rfl⟩:=AU hv;generalize sN ws x=r at C⊢;clear hv;unfold waV at C;unfold waV;go_enter func152,ntmps152;go_wp2_with fail;refine C.mono ?_;rintro e w1 ⟨⟨i,rfl,hi⟩,hb1⟩;have HB:=AA (AY hb1);have HI:=AA hi;clear C hb1 hi;go_wp2_with fail;go_ret;exact⟨OT (A8 HI),A8 HB⟩
theorem BH7(x:Wa)(w:World):
  Calls prog 151 #[waV x] w (R0 w (I0 (oU x))):=by
 obtain⟨s,k,p⟩:=x;have C:=fun W=>GN ⟨p.toArray⟩ W;have HE:=AA (show ∀r:Int,r=(if k≠1/\k≠2 then 4 else if DN p=false then 2 else if s<1\/2147483647<s then 3 else 0)->r=oU ⟨s,k,p⟩from fun r h=>h);unfold waV;simp only;obtain⟨r,hr⟩:∃r,oU ⟨s,k,p⟩=r:=⟨_,rfl⟩;have HR:=AA hr;rw[hr];clear hr;rw[A8 HR]at HE;by_cases hk:k≠1/\k≠2
 .have h1:(k !=1)=true:=by simpa using hk.1
  have h2:(k !=2)=true:=by simpa using hk.2
  have h12:(k !=1&&k !=2)=true:=by rw[h1,h2];rfl
  have h3:r=4:=(A8 HE 4 (by rw[if_pos hk])).symm;subst h3;clear hk;go_enter func151,ntmps151;go_wp2_with fail;go_ret;exact⟨rfl,AB _ _⟩
 .have hkk:k=1\/k=2:=by
   by_cases h:k=1
   .exact .inl h
   .by_cases h':k=2
    .exact .inr h'
    .exact absurd ⟨h,h'⟩ hk
  have HE2:=AA (fun r' (h:r'=(if DN p=false then 2 else if s<1\/2147483647<s then 3 else 0))=>A8 HE r' (by rw[if_neg hk];exact h));clear HE hk
  cases hg:DN p
  .have h3:r=2:=(A8 HE2 2 (by rw[hg];rfl)).symm;subst h3;have Hg:=AA hg;clear hg;rcases hkk with rfl|rfl
   all_goals
    go_enter func151,ntmps151;go_wp2_with fail;refine(C _).mono ?_;rintro e w1 ⟨rfl,hb1⟩;have HB:=AA (AY hb1);rw[A8 Hg];clear hb1;go_wp2_with fail;go_ret;exact⟨rfl,A8 HB⟩
  .have h3:=A8 HE2;rw[hg]at h3;simp only[Bool.true_eq_false,if_false]at h3;have Hg:=AA hg;clear hg HE2;by_cases hs1:s<1
   .have h4:r=3:=(h3 3 (by rw[if_pos (.inl hs1)])).symm;subst h4;clear h3;rcases hkk with rfl|rfl
    all_goals
     go_enter func151,ntmps151;go_wp2_with fail;refine(C _).mono ?_;rintro e w1 ⟨rfl,hb1⟩;have HB:=AA (AY hb1);have c0:w1.cell? ⟨w.heap.size,0,none⟩=some (I0 s):=by rw[hb1.cell (p:=⟨w.heap.size,0,none⟩) (by simp)];simp
     rw[A8 Hg];clear hb1;go_wp2_with fail;go_ret;exact⟨rfl,A8 HB⟩
   .by_cases hs2:2147483647<s
    .have h4:r=3:=(h3 3 (by rw[if_pos (.inr hs2)])).symm;subst h4;clear h3;rcases hkk with rfl|rfl
     all_goals
      go_enter func151,ntmps151;go_wp2_with fail;refine(C _).mono ?_;rintro e w1 ⟨rfl,hb1⟩;have HB:=AA (AY hb1);have c0:w1.cell? ⟨w.heap.size,0,none⟩=some (I0 s):=by rw[hb1.cell (p:=⟨w.heap.size,0,none⟩) (by simp)];simp
      rw[A8 Hg];clear hb1;go_wp2_with fail;go_ret;exact⟨rfl,A8 HB⟩
    .have h4:r=0:=(h3 0 (by rw[if_neg (by omega)])).symm;subst h4;clear h3;rcases hkk with rfl|rfl
     all_goals
      go_enter func151,ntmps151;go_wp2_with fail;refine(C _).mono ?_;rintro e w1 ⟨rfl,hb1⟩;have HB:=AA (AY hb1);have c0:w1.cell? ⟨w.heap.size,0,none⟩=some (I0 s):=by rw[hb1.cell (p:=⟨w.heap.size,0,none⟩) (by simp)];simp
      rw[A8 Hg];clear hb1;go_wp2_with fail;go_ret;exact⟨rfl,A8 HB⟩
theorem zQ{w:World}{ops:Array Oper}{o:Oper}{a:Act}{K:Act->World->Prop}{Q:Exit->Act->World->Prop}{E:Prop}(hgd:Region.wanted o (yielded ops a.tmps)=true)(s x:Operand)
  (ho:o.op=.call {callee:=.builtin .append,args:=#[s,x],argTypes:=#[41,41]})
  (v:Value) (ns:List Wa) (hs:a.eval s=v) (hown:BD w 0 v ns)
  (q:Nat) (hx:a.eval x=.slice (some ⟨q,0,none⟩) 1 1) (t:Wa) (hnews:EW w q t) (hl:(ns.length+1)*32<=140737488355328)
  (h:∀a' c' w',BD w' 0 (.slice a' (ns.length+1) c') (ns++[t])->w.grownBy w' v.ownBlock->((Value.slice a' (ns.length+1) c').ownBlock=v.ownBlock\/(Value.slice a' (ns.length+1) c').ownBlock=some w.heap.size)->K (a.put o.dst (.slice a' (ns.length+1) c')) w'):
  if Region.wanted o (yielded ops a.tmps)=true then Oper.wp prog o a w K Q else E:=by
 rw[if_pos hgd];obtain⟨i0,hi0,hz0,hz1,hz2⟩:=BV4;obtain⟨v',w',hr,h2,h3,_,h5⟩:=run_append_own_at (P:=prog) w 0 41 o.type 100 i0 _ 3 32 underlying41 hi0 hz0 hz1 hz2 rfl (by decide) v ns.length (AO ns) hown.row ⟨q,0,none⟩ 1 1 (A25 t) rfl (O7 hnews) (Lay.one t) (by simp only[maxLen];omega) hl (Nat.zero_le _);have h2':BD w' 0 v' (ns++[t]):=BD.G8 (by rw[List.length_append,EK];exact h2);obtain⟨a',c',rfl,_⟩:=h2'.slice;have hlen:(ns++[t]).length=ns.length+1:=by simp
 rw[hlen]at h2' hr h5;unfold Oper.wp execOp;simp only[ho,resolve,invoke,builtin,Sem.run_bind,Sem.run_pure,Result.andThen_ok,List.map_toArray,List.map_cons,List.map_nil,hs,hx,hr];exact h a' c' w' h2' h3 h5
theorem BM4(h:oU x≠0):YA ws x=oU x/\kH ws x=[]:=by
 have e:YA ws x=oU x:=by rw[YA,if_pos h]
 exact⟨e,by rw[kH,e,if_pos h]⟩
theorem BM5(h:oU x=0)(hh:sN ws x=true):YA ws x=0/\kH ws x=ws:=by
 have e:YA ws x=0:=by rw[YA,if_neg (by simp[h]),if_pos hh]
 exact⟨e,by rw[kH,e,if_neg (by simp),if_pos hh]⟩
theorem B40(h:oU x=0)(hh:sN ws x=false)(hf:400<=ws.length):YA ws x=6/\kH ws x=[]:=by
 have e:YA ws x=6:=by rw[YA,if_neg (by simp[h]),if_neg (by simp[hh]),if_pos hf]
 exact⟨e,by rw[kH,e,if_pos (by decide)]⟩
theorem BM6(h:oU x=0)(hh:sN ws x=false)(hf:¬400<=ws.length):YA ws x=0/\kH ws x=ws++[x]:=by
 have e:YA ws x=0:=by rw[YA,if_neg (by simp[h]),if_neg (by simp[hh]),if_neg hf]
 exact⟨e,by rw[kH,e,if_neg (by simp),if_neg (by simp[hh])]⟩
theorem C56{w:World}{ws:List Wa}{x:Wa}(g3:Nat)(w4 w5:World)(a5:Option Addr)(c5:Nat)(hg:w.heap.size<=g3)(hb:B0 w w4)(ho:BD w5 0 (.slice a5 (ws.length+1) c5) (ws++[x]))(hg5:(w4.alloc (.cells #[I0 x.s,I0 x.k,S0 x.p] 100)).grownBy w5 (Value.slice (some ⟨g3,0,none⟩) ws.length (ws.length+1)).ownBlock)
  (hl:(Value.slice a5 (ws.length+1) c5).ownBlock=(Value.slice (some ⟨g3,0,none⟩) ws.length (ws.length+1)).ownBlock\/(Value.slice a5 (ws.length+1) c5).ownBlock=some (w4.alloc (.cells #[I0 x.s,I0 x.k,S0 x.p] 100)).heap.size):
  BD w5 w.heap.size (.slice a5 (ws.length+1) c5) (ws++[x])/\B0 w w5:=by
 have hB:=AL hb (AB w4 (.cells #[I0 x.s,I0 x.k,S0 x.p] 100));refine⟨fD ho (fun j hj=>?_),hB.grown hg5 hB.size (fun j hj=>by cases hj;exact hg)⟩;rcases hl with h|h
 .rw[h]at hj;cases hj;exact hg
 .rw[h]at hj;cases hj;exact hB.size
theorem C57(v:Value)(ws:List Wa)(x:Wa)(w:World)(hv:BQ w v ws)(hs:iQ ws)(hx:x.p.length<=140737488355328)(hl:ws.length*32<=140737488351232):
  Calls prog 112 #[v,waV x] w fun r w'=>∃vl,r=.returned (.tuple #[vl,I0 (YA ws x)])/\BD w' w.heap.size vl (kH ws x)/\B0 w w':=by
 have CA:=fun W=>BH7 x W;have CC:=AA (fun W (hW:B0 w W)=>WI v ws W (hv.next hW) hs hl);have CK:=AA (fun W (hW:B0 w W)=>BH6 v ws x W (hv.next hW) (by omega));have CO:=fun W=>A43 x W hx;obtain⟨va,vc,rfl⟩:=AU hv;have HBX:Hid (∀W,Below (w.heap.size+1) (w.alloc (.cells #[I0 x.s,I0 x.k,S0 x.p] 100)) W->(W.cell? ⟨w.heap.size,0,none⟩=some (I0 x.s)/\W.cell? ⟨w.heap.size,1,none⟩=some (I0 x.k)/\W.cell? ⟨w.heap.size,2,none⟩=some (S0 x.p))/\B0 w W/\w.heap.size<W.heap.size):=AA (fun W h=>⟨CE4 h,(AB _ _).trans (h.mono (Nat.le_succ _)),by have:=h.size;simp at this;omega⟩);clear hv hs hx;unfold waV at CA CK CO;unfold waV;by_cases ha:oU x=0
 .rw[ha]at CA
  cases hh:sN ws x
  .rw[hh]at CK;by_cases hf:400<=ws.length
   .obtain⟨e1,e2⟩:=B40 ha hh hf;rw[e1,e2];have hfi:(400:Int)<=(ws.length:Int):=by omega
    clear ha hh e1 e2;go_enter func112,ntmps112;go_wp2_with fail;refine(CA _).mono ?_;rintro e w1 ⟨rfl,hb1⟩;rw[show (w.alloc (.cells #[I0 x.s,I0 x.k,S0 x.p] 100)).heap.size=w.heap.size+1 by simp]at hb1;obtain⟨⟨c0,c1,c2⟩,hB1,hz1⟩:=A8 HBX w1 hb1;have HB1:=AA hB1;clear hb1 hB1;go_wp2_with fail;refine(A8 CK w1 (A8 HB1)).mono ?_;rintro e w2 ⟨rfl,hb2⟩;have HB2:=AA (AL (A8 HB1) hb2);clear hb2;go_wp2_with fail
    go_ret2
    exact⟨_,rfl,.inl ⟨rfl,rfl⟩,A8 HB2⟩
   .obtain⟨e1,e2⟩:=BM6 ha hh hf;rw[e1,e2];have hfi:¬ ((400:Int)<=(ws.length:Int)):=by omega
    have hfd:decide ((400:Int)<=(ws.length:Int))=false:=by simp;omega
    clear ha hh e1 e2;go_enter func112,ntmps112;go_wp2_with fail;refine(CA _).mono ?_;rintro e w1 ⟨rfl,hb1⟩;rw[show (w.alloc (.cells #[I0 x.s,I0 x.k,S0 x.p] 100)).heap.size=w.heap.size+1 by simp]at hb1;obtain⟨⟨c0,c1,c2⟩,hB1,hz1⟩:=A8 HBX w1 hb1;have HB1:=AA hB1;have HC1:=AA hb1;clear hb1 hB1;go_wp2_with fail;refine(A8 CK w1 (A8 HB1)).mono ?_;rintro e w2 ⟨rfl,hb2⟩;have hC2:=(A8 HC1).trans (hb2.mono (by omega));obtain⟨⟨m0,m1,m2⟩,hB2,hz2⟩:=A8 HBX w2 hC2;have HB2:=AA hB2;have HC2:=AA hC2;have K1:Hid (∀w3,B0 w2 w3->(w3.cell? ⟨w.heap.size,0,none⟩=some (I0 x.s)/\w3.cell? ⟨w.heap.size,1,none⟩=some (I0 x.k)/\w3.cell? ⟨w.heap.size,2,none⟩=some (S0 x.p))/\B0 w w3):=AA (fun w3 hb3=>by
     obtain⟨h1,h2,_⟩:=A8 HBX w3 ((A8 HC2).trans (hb3.mono (by omega)));exact⟨h1,h2⟩)
    have CC2:=AA (fun W (hW:B0 w2 W)=>A8 CC W (AL (A8 HB2) hW));have hBs:=(A8 HB2).size;have HK5:=AA (@C56 w ws x);clear hb2 hB2 hC2 c0 c1 c2;go_wp2_with fail
    go_region_law (first
     |(refine zQ (by kernel_rfl) _ _ (by rfl) (.slice (some ⟨g3,0,none⟩) ws.length (ws.length+1)) ws (by rfl) (A8 HO4) w4.heap.size (by rfl) x (A44 w4 x) (by omega) ?_;intro a5 c5 w5 ho5 hg5 hl5;obtain⟨o5,b5⟩:=A8 HK5 g3 w4 w5 a5 c5 hg3 (A8 HB4) ho5 hg5 hl5;have HO5:=AA o5;have HB5:=AA b5;clear o5 b5;clear ho5 hg5 hl5)
     |(go_simp;refine(A8 CC2 _ (by first|exact Below.refl _ _|exact(Below.refl _ _).drew)).mono ?_;rintro e w3 ⟨g3,rfl,hg3',ho3,hb3⟩;have hg3:w.heap.size<=g3:=Nat.le_trans hBs hg3';have HB23:Hid (B0 w2 w3):=(by first|exact hb3|exact BK hb3);obtain⟨⟨p0,p1,p2⟩,hB3⟩:=A8 K1 w3 (A8 HB23);have HB3:=AA hB3;have HO3:=AA ho3;clear hb3 hB3 ho3 hg3')
     |(go_simp;refine(CO _).mono ?_;rintro e w4 ⟨rfl,hb4⟩;have HB4:=AA (AL (A8 HB3) hb4);have HO4:Hid (BD (w4.alloc (.cells #[I0 x.s,I0 x.k,S0 x.p] 100)) 0 (.slice (some ⟨g3,0,none⟩) ws.length (ws.length+1)) ws):=AA (.inr ⟨g3,_,rfl,Nat.zero_le _,((A8 HO3).next hb4).next (AB _ _)⟩);clear hb4))
    all_goals go_wp2_with fail
    all_goals go_ret2
    all_goals exact⟨_,rfl,A8 HO5,A8 HB5⟩
  .rw[hh]at CK;obtain⟨e1,e2⟩:=BM5 ha hh;rw[e1,e2];clear ha hh e1 e2;go_enter func112,ntmps112;go_wp2_with fail;refine(CA _).mono ?_;rintro e w1 ⟨rfl,hb1⟩;rw[show (w.alloc (.cells #[I0 x.s,I0 x.k,S0 x.p] 100)).heap.size=w.heap.size+1 by simp]at hb1;obtain⟨⟨c0,c1,c2⟩,hB1,hz1⟩:=A8 HBX w1 hb1;have HB1:=AA hB1;clear hb1 hB1;go_wp2_with fail;refine(A8 CK w1 (A8 HB1)).mono ?_;rintro e w2 ⟨rfl,hb2⟩;have HB2:=AA (AL (A8 HB1) hb2);clear hb2;go_wp2_with fail;refine(A8 CC w2 (A8 HB2)).mono ?_;rintro e w3 ⟨g,rfl,hg,ho,hb3⟩;have HB3:=AA (AL (A8 HB2) hb3);have hBs:=(A8 HB2).size;clear hb3;go_wp2_with fail
   go_ret2
   exact⟨_,rfl,.inr ⟨g,_,rfl,by omega,ho⟩,A8 HB3⟩
 .obtain⟨e1,e2⟩:=BM4 (ws:=ws) ha;rw[e1,e2];generalize oU x=r at CA ha⊢;have hrb:(r==0)=false:=by simpa using ha
  clear e1 e2;go_enter func112,ntmps112;go_wp2_with fail;refine(CA _).mono ?_;rintro e w1 ⟨rfl,hb1⟩;have HB1:=AA (AY hb1);clear hb1;go_wp2_with fail
  go_ret2
  exact⟨_,rfl,.inl ⟨rfl,rfl⟩,A8 HB1⟩
