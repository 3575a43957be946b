/-
  Part.
-/
import Derived.Test.YthcncjimjclfpaaGreatDoorLSA
import Derived.Test.YthcncjimjclfpaaGreatDoorRows
import Derived.ProofKit
import Derived.OpenShut
import Derived.SizedLaws
import Derived.Deep.Slices
set_option maxRecDepth 20000
set_option maxHeartbeats 8000000
namespace Go.Proofs.YthcncjimjclfpaaGreatDoor
open Go.RowKit Go.Proofs.Tryz
open _root_.List renaming mem_append->BU,length_map->EG,mem_map->EU
open Go.ChangeShapes Go.WideShapes Go.ChangeAt Go.ChangeMaps
theorem BW6:laidOutB prog=true:=by kernel_rfl
section
variable {H:Type} {enc:TypeId×Value->H} {W:World} {base:Nat} {spare:Nat->Bool} {held:Bool}
theorem YE{e:TypeId}:∀ (l:List (DataW H)) (d:DataW H) (x:Nat),d∈l->x∈DataW.weights prog e d->x∈DataW.weightsAll prog e l
 |d'::r,d,x,h,hx=>by
  rw[DataW.weightsAll];rcases List.mem_cons.1 h with rfl|h
  .exact BU.2 (.inl hx)
  .exact BU.2 (.inr (YE r d x h hx))
theorem BE1{α:Type}[Lay α](al:α){T E:TypeId}(hU:prog.underlying T=some (.slice E))(hk:prog.cellsOf E=Lay.k α)(hk0:0<Lay.k α){bytes:Nat}(hby:prog.bytesOf E=bytes)(P:α->Prop)(Q:Nat->α->Prop)
  (ho:∀ {n:Nat} {cs:List Value} {x:DataW H×List MemPlace},cs.length=Lay.k α->DataW.trod enc prog W base spare held n E cs=some x->∃f:α,cs=Lay.cs f/\P f/\∀M,(∀y∈DataW.weights prog E x.1,y<=M)->Q M f)
  {fuel:Nat} {v:Value} {y:DataW H×List MemPlace} (h:DataW.trod enc prog W base spare held fuel T [v]=some y):
  ∃xs:List α,IU W v xs/\(∀x∈xs,P x)/\∀M,(∀x∈DataW.weights prog T y.1,x<=M)->xs.length*bytes<=M/\∀x∈xs,Q M x:=by
 rcases Go.Deep.open_slice hU h with⟨h1,hx⟩|⟨a,len,cap,m,k,D,Pl,h1,hb,hl,hm,hmm,hx,hel⟩
 .simp only[List.cons.injEq,and_true]at h1;rw[h1];exact⟨[],IU.nil W,by simp,fun M _=>⟨by simp,by simp⟩⟩
 .simp only[List.cons.injEq,and_true]at h1;rw[h1];subst hx;have hlm:len<=m:=by rw[hmm];split<;>omega
  have each:∀i,i<len->∃f:α,(∀c,c<Lay.k α->W.cell? (a.add (i*Lay.k α+c))=(Lay.cs f)[c]?)/\P f/\∀M,(∀y∈DataW.weights prog E (D i),y<=M)->Q M f:=by
   intro i hi;obtain⟨cs',g1,g2⟩:=hel i (by omega);rw[hk]at g1;obtain⟨_,hlen,hcell⟩:=World.cells?_some g1;obtain⟨f,rfl,hp,hq⟩:=ho hlen g2;refine⟨f,fun c hc=>?_,hp,hq⟩;have:=hcell c hc;rwa[Go.Deep.add_add]at this
  have:Inhabited α:=⟨al⟩;obtain⟨F,hF⟩:=Go.Deep.choose_lt each;refine⟨(List.range len).map F,?_,?_,?_⟩
  .by_cases h0:len=0
   .subst h0;exact .inl ⟨some a,cap,rfl,rfl,hm⟩
   .have c0:=(hF 0 (by omega)).1 0 hk0;obtain⟨y,hy⟩:∃y,(Lay.cs (F 0))[0]?=some y:=⟨_,List.getElem?_eq_getElem (by rw[Lay.len];exact hk0)⟩;rw[hy]at c0;obtain⟨b,off,sp⟩:=a;have hsp:sp=none:=by
     cases sp with
     |none=>rfl
     |some s=>simp[World.cell?,Addr.add]at c0;split at c0<;>simp at c0
    subst hsp;have hblt:b<W.heap.size:=World.block_lt_of_cell? W _ (show W.cell? ((⟨b,off,none⟩:Addr).add (0*Lay.k α+0))=some _ from c0)|>fun h=>by simpa [Addr.add]using h
    refine .inr ⟨b,off,cap,by simp,by simpa using hl,hm,hblt,by simp;omega,fun j u hj=>?_⟩;have hjl:j<len*Lay.k α:=by
     have:=(List.getElem?_eq_some_iff.1 hj).1;rw[GX,EG,List.length_range]at this;exact this
    have hi:j/Lay.k α<len:=Nat.div_lt_of_lt_mul (by rw[Nat.mul_comm];exact hjl);have hm':j%Lay.k α<Lay.k α:=Nat.mod_lt _ hk0;have hdm:j/Lay.k α*Lay.k α+j%Lay.k α=j:=by rw[Nat.mul_comm];exact Nat.div_add_mod j _
    have hg:=GV ((List.range len).map F) (j/Lay.k α) (F (j/Lay.k α)) (by rw[List.getElem?_map,List.getElem?_range hi];rfl) (j%Lay.k α) hm';rw[hdm,hj]at hg;have:=(hF (j/Lay.k α) hi).1 (j%Lay.k α) hm';rw[hdm,Addr.add_lit,<-hg]at this;exact this
  .intro x hx;obtain⟨i,hi,rfl⟩:=EU.1 hx;exact(hF i (by simpa using hi)).2.1
  .intro M hM;have hw':DataW.weights prog T (DataW.slice ((List.range len).map D) ((List.range (m-len)).map fun j=>D (len+j)):DataW H)=
     (len+(m-len))*bytes::(DataW.weightsAll prog E ((List.range len).map D)++DataW.weightsAll prog E ((List.range (m-len)).map fun j=>D (len+j))):=by
    simp[DataW.weights,hU,hby]
   rw[hw']at hM;refine⟨?_,fun f hf=>?_⟩
   .have:=hM _ (List.mem_cons_self ..);simp only[EG,List.length_range];exact Nat.le_trans (Nat.mul_le_mul_right _ (by omega)) this
   .obtain⟨i,hi,rfl⟩:=EU.1 hf;have hi':i<len:=by simpa using hi
    exact(hF i hi').2.2 M fun x hx=>hM x (List.mem_cons_of_mem _ (BU.2 (.inl (YE _ (D i) x (EU.2 ⟨i,hi,rfl⟩) hx))))
end
theorem BE2:prog.cellsOf 3=1:=by kernel_rfl
theorem BE3:prog.bytesOf 3=8:=by kernel_rfl
section
variable {H:Type} {enc:TypeId×Value->H} {W:World} {base:Nat} {spare:Nat->Bool} {held:Bool}
theorem BE4{n:Nat}{cs:List Value}{x:DataW H×List MemPlace}(hl:cs.length=1)(h:DataW.trod enc prog W base spare held n 3 cs=some x):
  ∃f:Int,cs=[I0 f]/\(-9223372036854775808<=f/\f<=9223372036854775807)/\∀M,(∀y∈DataW.weights prog 3 x.1,y<=M)->True:=by
 match cs,hl with
 |[c0],_=>
  obtain⟨s,e0,_,hw⟩:=DataW.trod_int underlying3 h;exact⟨s,e0,bounds_i64 hw,fun _ _=>trivial⟩
theorem AS9{r:Reach}{b0:Nat}{v:Value}{d:DataW H}{p:List MemPlace}(hv:Value.okWide prog W r b0 59 v)(h:DataW.Trod enc prog W base spare held 59 v d p):
  ∃is:List Int,IU W v is/\∀x∈is,-9223372036854775808<=x/\x<=9223372036854775807:=by
 obtain⟨fuel,hf⟩:=h;obtain⟨sa,sl,sc,rfl⟩:=okWide_slice underlying59 hv;obtain⟨is,h1,h2,_⟩:=BE1 (0:Int) underlying59 BE2 (by decide) BE3 (fun x=> -9223372036854775808<=x/\x<=9223372036854775807) (fun _ _=>True) BE4 (y:=(d,p)) (show DataW.trod enc prog W base spare held fuel 59 [.slice sa sl sc]=some (d,p) by simpa [Value.cells]using hf);exact⟨is,h1,h2⟩
end
