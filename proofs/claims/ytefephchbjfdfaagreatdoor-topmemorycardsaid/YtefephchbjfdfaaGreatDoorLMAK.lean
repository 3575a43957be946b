/-
  Part.
-/
import Derived.ProofKit
import Derived.OpenShut
import Derived.Deep.Slices
import Derived.Test.YtefephchbjfdfaaGreatDoorLMU
set_option maxRecDepth 20000
set_option maxHeartbeats 8000000
namespace Go.Proofs.YtefephchbjfdfaaGreatDoor
open Go.RowKit Go.Proofs.Tryz
open _root_.List renaming mem_append->D8,length_map->EJ,mem_map->F5
open _root_.List.cons renaming injEq->EI
open _root_.Option renaming some->G8
open Go.ChangeShapes Go.WideShapes Go.ChangeAt Go.ChangeMaps
theorem BV4:laidOutB prog=true:=by kernel_rfl
theorem AG3(s:ByteArray):∃l:List UInt8,s=⟨l.toArray⟩:=⟨s.data.toList,rfl⟩
section
variable {H:Type} {enc:TypeId×Value->H} {W:World} {base:Nat} {spare:Nat->Bool} {held:Bool}
theorem YA{e:TypeId}:∀ (l:List (DataW H)) (d:DataW H) (x:Nat),d∈l->x∈DataW.weights prog e d->x∈DataW.weightsAll prog e l
 |d'::r,d,x,h,hx=>by
  rw[DataW.weightsAll];rcases List.mem_cons.1 h with rfl|h
  .exact D8.2 (.inl hx)
  .exact D8.2 (.inr (YA r d x h hx))
theorem BD8{α:Type}[Lay α](al:α){T E:TypeId}(hU:prog.underlying T=G8 (.slice E))(hk:prog.cellsOf E=Lay.k α)(hk0:0<Lay.k α){bytes:Nat}(hby:prog.bytesOf E=bytes)(P:α->Prop)(Q:Nat->α->Prop)
  (ho:∀ {n:Nat} {cs:List Value} {x:DataW H×List MemPlace},cs.length=Lay.k α->DataW.trod enc prog W base spare held n E cs=G8 x->∃f:α,cs=Lay.cs f/\P f/\∀M,(∀y∈DataW.weights prog E x.1,y<=M)->Q M f)
  {fuel:Nat} {v:Value} {y:DataW H×List MemPlace} (h:DataW.trod enc prog W base spare held fuel T [v]=G8 y):
  ∃xs:List α,IV W v xs/\(∀x∈xs,P x)/\∀M,(∀x∈DataW.weights prog T y.1,x<=M)->xs.length*bytes<=M/\∀x∈xs,Q M x:=by
 rcases Go.Deep.open_slice hU h with⟨h1,hx⟩|⟨a,len,cap,m,k,D,Pl,h1,hb,hl,hm,hmm,hx,hel⟩
 .simp only[EI,and_true]at h1;rw[h1];exact⟨[],IV.nil W,by simp,fun M _=>⟨by simp,by simp⟩⟩
 .simp only[EI,and_true]at h1;rw[h1];subst hx;have hlm:len<=m:=by rw[hmm];split<;>omega
  have each:∀i,i<len->∃f:α,(∀c,c<Lay.k α->W.cell? (a.add (i*Lay.k α+c))=(Lay.cs f)[c]?)/\P f/\∀M,(∀y∈DataW.weights prog E (D i),y<=M)->Q M f:=by
   intro i hi;obtain⟨cs',g1,g2⟩:=hel i (by omega);rw[hk]at g1;obtain⟨_,hlen,hcell⟩:=World.cells?_some g1;obtain⟨f,rfl,hp,hq⟩:=ho hlen g2;refine⟨f,fun c hc=>?_,hp,hq⟩;have:=hcell c hc;rwa[Go.Deep.add_add]at this
  have:Inhabited α:=⟨al⟩;obtain⟨F,hF⟩:=Go.Deep.choose_lt each;refine⟨(List.range len).map F,?_,?_,?_⟩
  .by_cases h0:len=0
   .subst h0;exact .inl ⟨G8 a,cap,rfl,rfl,hm⟩
   .have c0:=(hF 0 (by omega)).1 0 hk0;obtain⟨y,hy⟩:∃y,(Lay.cs (F 0))[0]?=G8 y:=⟨_,List.getElem?_eq_getElem (by rw[Lay.len];exact hk0)⟩;rw[hy]at c0;obtain⟨b,off,sp⟩:=a;have hsp:sp=none:=by
     cases sp with
     |none=>rfl
     |some s=>simp[World.cell?,Addr.add]at c0;split at c0<;>simp at c0
    subst hsp;have hblt:b<W.heap.size:=World.block_lt_of_cell? W _ (show W.cell? ((⟨b,off,none⟩:Addr).add (0*Lay.k α+0))=G8 _ from c0)|>fun h=>by simpa [Addr.add]using h
    refine .inr ⟨b,off,cap,by simp,by simpa using hl,hm,hblt,by simp;omega,fun j u hj=>?_⟩;have hjl:j<len*Lay.k α:=by
     have:=(List.getElem?_eq_some_iff.1 hj).1;rw[GX,EJ,List.length_range]at this;exact this
    have hi:j/Lay.k α<len:=Nat.div_lt_of_lt_mul (by rw[Nat.mul_comm];exact hjl);have hm':j%Lay.k α<Lay.k α:=Nat.mod_lt _ hk0;have hdm:j/Lay.k α*Lay.k α+j%Lay.k α=j:=by rw[Nat.mul_comm];exact Nat.div_add_mod j _
    have hg:=GZ ((List.range len).map F) (j/Lay.k α) (F (j/Lay.k α)) (by rw[List.getElem?_map,List.getElem?_range hi];rfl) (j%Lay.k α) hm';rw[hdm,hj]at hg;have:=(hF (j/Lay.k α) hi).1 (j%Lay.k α) hm';rw[hdm,Addr.add_lit,<-hg]at this;exact this
  .intro x hx;obtain⟨i,hi,rfl⟩:=F5.1 hx;exact(hF i (by simpa using hi)).2.1
  .intro M hM;have hw':DataW.weights prog T (DataW.slice ((List.range len).map D) ((List.range (m-len)).map fun j=>D (len+j)):DataW H)=
     (len+(m-len))*bytes::(DataW.weightsAll prog E ((List.range len).map D)++DataW.weightsAll prog E ((List.range (m-len)).map fun j=>D (len+j))):=by
    simp[DataW.weights,hU,hby]
   rw[hw']at hM;refine⟨?_,fun f hf=>?_⟩
   .have:=hM _ (List.mem_cons_self ..);simp only[EJ,List.length_range];exact Nat.le_trans (Nat.mul_le_mul_right _ (by omega)) this
   .obtain⟨i,hi,rfl⟩:=F5.1 hf;have hi':i<len:=by simpa using hi
    exact(hF i hi').2.2 M fun x hx=>hM x (List.mem_cons_of_mem _ (D8.2 (.inl (YA _ (D i) x (F5.2 ⟨i,hi,rfl⟩) hx))))
theorem CR4{ts:List TypeId}{ds:List (DataW H)}(h:(DataW.weightsEach prog ts ds).all (· <=reachBytes)=true){j:Nat}{T:TypeId}{d:DataW H}(ht:ts[j]?=G8 T)(hd:ds[j]?=G8 d):∀x∈DataW.weights prog T d,x<=140737488351232:=by
 intro x hx;have e:reachBytes=140737488351232:=by decide
 have h1:=List.all_eq_true.1 h _ (DataW.weights_mem_each ht hd x hx);rw[e]at h1;simpa using h1
end
theorem dI:prog.cellsOf 9=1:=by kernel_rfl
theorem LU:prog.cellsOf 3=1:=by kernel_rfl
theorem AR9:prog.cellsOf 4=1:=by kernel_rfl
theorem dJ:prog.cellsOf 28=6:=by kernel_rfl
theorem BV5:prog.cellsOf 30=13:=by kernel_rfl
theorem BV6:prog.bytesOf 30=120:=by kernel_rfl
structure DdI(d:Dd):Prop where
 k:(Lit.int .i64 d.k).wf=true
 c:(Lit.int .i64 d.c).wf=true
 s:(Lit.int .i64 d.s).wf=true
 o:(Lit.int .i64 d.q.o).wf=true
 qs:(Lit.int .i64 d.q.s).wf=true
 v:(Lit.int .i64 d.q.v).wf=true
 f:(Lit.int .i64 d.q.f).wf=true
 lo:(Lit.int .i64 d.lo).wf=true
 sl:(Lit.int .i64 d.sl).wf=true
 ke:(Lit.int .i64 d.ke).wf=true
def dd0:Dd:=⟨0,0,0,⟨0,0,[],[],0,0⟩,0,0,0,false⟩
section
variable {H:Type} {enc:TypeId×Value->H} {W:World} {base:Nat} {spare:Nat->Bool} {held:Bool}
theorem BV7{n:Nat}{c0 c1 c2 c3 c4 c5:Value}{x:DataW H×List MemPlace}(h:DataW.trod enc prog W base spare held n 28 [c0,c1,c2,c3,c4,c5]=G8 x):
  ∃f:Rq,(c0=I0 f.o/\c1=I0 f.s/\c2=S0 f.p/\c3=S0 f.d/\c4=I0 f.v/\c5=I0 f.f)/\((Lit.int .i64 f.o).wf=true/\(Lit.int .i64 f.s).wf=true/\(Lit.int .i64 f.v).wf=true/\(Lit.int .i64 f.f).wf=true)/\∀M,(∀y∈DataW.weights prog 28 x.1,y<=M)->f.p.length<=M/\f.d.length<=M:=by
 obtain⟨xs,k,_,hx,_,hlen,hfs⟩:=DataW.trod_struct underlying28 h
 match xs,hlen with
 |[y0,y1,y2,y3,y4,y5],_=>
  obtain⟨o,e0,rfl,w0⟩:=DataW.trod_int underlying3 (show DataW.trod enc prog W base spare held k 3 [c0]=G8 y0 by simpa [LU]using hfs 0 _ rfl);obtain⟨s,e1,rfl,w1⟩:=DataW.trod_int underlying3 (show DataW.trod enc prog W base spare held k 3 [c1]=G8 y1 by simpa [LU]using hfs 1 _ rfl);obtain⟨p',e2,rfl,_⟩:=DataW.trod_string underlying9 (show DataW.trod enc prog W base spare held k 9 [c2]=G8 y2 by simpa [LU,dI]using hfs 2 _ rfl);obtain⟨d',e3,rfl,_⟩:=DataW.trod_string underlying9 (show DataW.trod enc prog W base spare held k 9 [c3]=G8 y3 by simpa [LU,dI]using hfs 3 _ rfl);obtain⟨v',e4,rfl,w4⟩:=DataW.trod_int underlying3 (show DataW.trod enc prog W base spare held k 3 [c4]=G8 y4 by simpa [LU,dI]using hfs 4 _ rfl);obtain⟨u',e5,rfl,w5⟩:=DataW.trod_int underlying3 (show DataW.trod enc prog W base spare held k 3 [c5]=G8 y5 by simpa [LU,dI]using hfs 5 _ rfl);simp only[EI,and_true]at e0 e1 e2 e3 e4 e5;subst e0 e1 e2 e3 e4 e5;obtain⟨pl,rfl⟩:=AG3 p';obtain⟨dl,rfl⟩:=AG3 d';subst hx;refine⟨⟨o,s,pl,dl,v',u'⟩,⟨rfl,rfl,rfl,rfl,rfl,rfl⟩,⟨w0,w1,w4,w5⟩,fun M hM=>?_⟩;simp only[DataW.weights,underlying28,List.map_cons,List.map_nil,DataW.weightsEach]at hM;simpa using hM
theorem BV8{n:Nat}{cs:List Value}{x:DataW H×List MemPlace}(hl:cs.length=13)(h:DataW.trod enc prog W base spare held n 30 cs=G8 x):
  ∃f:Dd,cs=zZ f/\DdI f/\∀M,(∀y∈DataW.weights prog 30 x.1,y<=M)->f.q.p.length<=M/\f.q.d.length<=M:=by
 match cs,hl with
 |[c0,c1,c2,c3,c4,c5,c6,c7,c8,c9,c10,c11,c12],_=>
  obtain⟨xs,k,_,hx,_,hlen,hfs⟩:=DataW.trod_struct underlying30 h
  match xs,hlen with
  |[y0,y1,y2,y3,y4,y5,y6,y7],_=>
   obtain⟨k',e0,rfl,w0⟩:=DataW.trod_int underlying3 (show DataW.trod enc prog W base spare held k 3 [c0]=G8 y0 by simpa [LU]using hfs 0 _ rfl);obtain⟨c',e1,rfl,w1⟩:=DataW.trod_int underlying3 (show DataW.trod enc prog W base spare held k 3 [c1]=G8 y1 by simpa [LU]using hfs 1 _ rfl);obtain⟨s',e2,rfl,w2⟩:=DataW.trod_int underlying3 (show DataW.trod enc prog W base spare held k 3 [c2]=G8 y2 by simpa [LU]using hfs 2 _ rfl);obtain⟨q,⟨q0,q1,q2,q3,q4,q5⟩,⟨g0,g1,g2,g3⟩,hq⟩:=BV7 (show DataW.trod enc prog W base spare held k 28 [c3,c4,c5,c6,c7,c8]=G8 y3 by simpa [LU,dJ]using hfs 3 _ rfl);obtain⟨lo,e4,rfl,w4⟩:=DataW.trod_int underlying3 (show DataW.trod enc prog W base spare held k 3 [c9]=G8 y4 by simpa [LU,dJ]using hfs 4 _ rfl);obtain⟨sl,e5,rfl,w5⟩:=DataW.trod_int underlying3 (show DataW.trod enc prog W base spare held k 3 [c10]=G8 y5 by simpa [LU,dJ]using hfs 5 _ rfl);obtain⟨ke,e6,rfl,w6⟩:=DataW.trod_int underlying3 (show DataW.trod enc prog W base spare held k 3 [c11]=G8 y6 by simpa [LU,dJ]using hfs 6 _ rfl);obtain⟨wt,e7,rfl⟩:=DataW.trod_bool underlying4 (show DataW.trod enc prog W base spare held k 4 [c12]=G8 y7 by simpa [LU,dJ,AR9]using hfs 7 _ rfl);simp only[EI,and_true]at e0 e1 e2 e4 e5 e6 e7;subst e0 e1 e2 e4 e5 e6 e7 q0 q1 q2 q3 q4 q5;subst hx;refine⟨⟨k',c',s',q,lo,sl,ke,wt⟩,rfl,⟨w0,w1,w2,g0,g1,g2,g3,w4,w5,w6⟩,fun M hM=>hq M fun y hy=>hM y ?_⟩;simp only[DataW.weights,underlying30,List.map_cons,List.map_nil,DataW.weightsEach];simp[hy]
theorem AS0{r:Reach}{b0:Nat}{v:Value}{d:DataW H}{p:List MemPlace}(hv:Value.okWide prog W r b0 22 v)(h:DataW.Trod enc prog W base spare held 22 v d p):
  ∃ds:List Dd,IV W v ds/\(∀x∈ds,DdI x)/\∀M,(∀x∈DataW.weights prog 22 d,x<=M)->ds.length*120<=M/\∀x∈ds,x.q.p.length<=M/\x.q.d.length<=M:=by
 obtain⟨fuel,hf⟩:=h;obtain⟨sa,sl,sc,rfl⟩:=okWide_slice underlying22 hv;obtain⟨rs,h1,h2,h3⟩:=BD8 dd0 underlying22 BV5 (by decide) BV6 DdI (fun M x=>x.q.p.length<=M/\x.q.d.length<=M) BV8 (y:=(d,p)) (show DataW.trod enc prog W base spare held fuel 22 [.slice sa sl sc]=G8 (d,p) by simpa [Value.cells]using hf);exact⟨rs,h1,h2,h3⟩
end
