/-
  Part.
-/
import Derived.Test.YtkpojhhfjddegaaGreatDoorLOU
import Derived.Deep.AppendLies
import Derived.ProofKit
import Derived.OpenShut
import Derived.Deep.Slices
set_option maxRecDepth 20000
set_option maxHeartbeats 8000000
namespace Go.Proofs.YtkpojhhfjddegaaGreatDoor
open Go.RowKit Go.Proofs.Tryz
open _root_.List renaming length_append->AP,getElem?_eq_some_iff->AV,mem_append->D8,length_map->EJ,mem_map->F5
def Z9(e:Int):DF:=⟨JI,RI (L6 e 0),[]⟩
theorem C14:bl JI O9=true:=by decide
theorem fP(s t:List UInt8):Gap [⟨O9,s,t⟩] [] [⟨O9,s,t⟩] JI:=⟨rfl,by simp,by simp[C14]⟩
theorem dH(a b s t:List UInt8):There [⟨JI,a,b⟩,⟨O9,s,t⟩] [] ⟨JI,a,b⟩ [⟨O9,s,t⟩] JI:=(fP s t).ins (f':=⟨JI,a,b⟩) rfl
theorem lV(a b s t:List UInt8):There [⟨JI,a,b⟩,⟨O9,s,t⟩] [⟨JI,a,b⟩] ⟨O9,s,t⟩ [] O9:=⟨rfl,rfl,by simp[C14],by simp⟩
theorem UJ{a b s t:List UInt8}(h1:a.length+b.length<=1048576)(h2:s.length+t.length<=1048576):LV [⟨JI,a,b⟩,⟨O9,s,t⟩]:=
 rW (dF h2) (fP s t) ZU (by simp) (f':=⟨JI,a,b⟩) rfl h1
theorem CA3{m:List GU}{e:Int}(he:zIn e=true)(hm:(IG m).length<=1048576):lQ 88 (fun x=>#[x,I0 e]) [PS m] [Z9 e,PS m] 0:=by
 have hx:=bK (L6 e 0);have g0:LV [PS m]:=dF (by simpa using hm);have g1:LV [⟨JI,[],RI (L6 e 0)⟩,PS m]:=UJ (by simp;omega) (by simpa using hm);refine A62 [PS m] [] [⟨JI,[],RI (L6 e 0)⟩,PS m] [Z9 e,PS m] e 7 0 (UR he (by decide)).2 (by decide) (wW fun v W hv=>?_) (MV fun v W hv=>?_) (MV fun v W hv=>?_)
 .exact B20 v [PS m] JI 7 W hv (JW g0) (.inr ⟨g0,⟨_,_,fP (IG m) []⟩,rfl⟩)
 .exact bU v [PS m] [] [PS m] JI (RI (L6 e 0)) W hv (JW g0) g0 ZU (by simp) (fP (IG m) []) (by omega)
 .have:=YT v _ [] [PS m] ⟨JI,[],RI (L6 e 0)⟩ JI W hv (JW g1) g1 (dH [] (RI (L6 e 0)) (IG m) []);simpa [Z9]using this
theorem CA4{ts:List GU}(h:Logs ts){j:Nat}{x:GU}(hx:ts[j]?=some x):UA x.z ts=ts.take (j+1):=by
 obtain⟨hj,hxe⟩:=AV.1 hx;have hr:=List.pairwise_iff_getElem.1 h.rise;unfold UA;have p1:∀t∈ts.take (j+1),decide (t.z<=x.z)=true:=by
  intro t ht;obtain⟨i,hi,rfl⟩:=List.getElem_of_mem ht;have hi':i<j+1:=by simp at hi;omega
  simp only[List.getElem_take,decide_eq_true_eq];rw[<-hxe];by_cases e:i=j
  .subst e;exact Int.le_refl _
  .have:=hr i j (by omega) hj (by omega);omega
 have e0:=List.takeWhile_append_of_pos (l₂:=ts.drop (j+1)) p1;rw[List.take_append_drop]at e0;rw[e0]
 cases hd:ts.drop (j+1)with
 |nil=>simp
 |cons y r=>
  have hy:ts[j+1]?=some y:=by
   have:=congrArg (fun l=>l[0]?) hd;simpa using this
  obtain⟨hk,rfl⟩:=AV.1 hy;have:=hr j (j+1) hj hk (by omega);rw[hxe]at this;rw[List.takeWhile_cons_of_neg (by simp;omega),List.append_nil]
theorem BR7{d:List GU}{i:Nat}{x:GU}(h:d[i]?=some x):d=d.take i++x::d.drop (i+1):=by
 obtain⟨hk,rfl⟩:=AV.1 h;simp
theorem mP{α:Type}[Lay α]{w:World}{ops:Array Oper}{rest:List Oper}{o:Oper}{a:Act}{Q:Exit->Act->World->Prop}(hgd:o.guard=none)(s x:Operand)(T:TypeId)
  (ho:o.op=.call {callee:=.builtin .append,args:=#[s,x],argTypes:=#[T,T]})
  (i0:TypeInfo) (z:Value) (bytes:Nat) (hU:prog.underlying T=some (.slice (Lay.ty α))) (hi0:prog.info? (Lay.ty α)=some i0) (hz0:i0.zero=some z) (hz1:i0.size=Lay.k α) (hz2:i0.bytes=bytes) (hzs:z.cells.size=Lay.k α) (hk0:0<Lay.k α)
  (v:Value) (ns:List α) (hs:a.eval s=v) (B:Nat) (hown:H6 w B v ns) (q:Nat) (hx:a.eval x=.slice (some ⟨q,0,none⟩) 1 1) (t:α) (hnews:JM w q t) (hl:(ns.length+1)*bytes<=140737488355328) (hm:ns.length+1<=maxLen) (hB:B<=w.heap.size)
  (h:∀a' c' w',H6 w' B (.slice a' (ns.length+1) c') (ns++[t])->w.grownBy w' v.ownBlock->wpList prog ops Q rest (a.put o.dst (.slice a' (ns.length+1) c')) w'):
  wpList prog ops Q (o::rest) a w:=by
 refine wpList_plain hgd fun K hK=>?_;obtain⟨v',w',hr,h2,h3,_⟩:=run_append_own (P:=prog) w B T o.type (Lay.ty α) i0 z (Lay.k α) bytes hU hi0 hz0 hz1 hz2 hzs hk0 v ns.length (GK ns) hown.row ⟨q,0,none⟩ 1 1 (Lay.cs t) (by rw[Lay.len,Nat.one_mul]) (SV hnews) (Lay.one t) hm hl hB;have h2':H6 w' B v' (ns++[t]):=H6.LC (by rw[AP,JH];exact h2);obtain⟨a',c',rfl,_⟩:=h2'.slice;rw[AP,List.length_singleton]at h2' hr;unfold Oper.wp execOp;simp only[ho,resolve,invoke,builtin,Sem.run_bind,Sem.run_pure,Result.andThen_ok,List.map_toArray,List.map_cons,List.map_nil,hs,hx,hr];exact hK _ _ (h a' c' w' h2' h3)
open Go.ChangeShapes Go.WideShapes Go.ChangeAt Go.ChangeMaps
theorem dS:laidOutB prog=true:=by kernel_rfl
theorem AJ3(s:ByteArray):∃l:List UInt8,s=⟨l.toArray⟩:=⟨s.data.toList,rfl⟩
section
variable {H:Type} {enc:TypeId×Value->H} {W:World} {base:Nat} {spare:Nat->Bool} {held:Bool}
theorem YL{e:TypeId}:∀ (l:List (DataW H)) (d:DataW H) (x:Nat),d∈l->x∈DataW.weights prog e d->x∈DataW.weightsAll prog e l
 |d'::r,d,x,h,hx=>by
  rw[DataW.weightsAll];rcases List.mem_cons.1 h with rfl|h
  .exact D8.2 (.inl hx)
  .exact D8.2 (.inr (YL r d x h hx))
theorem BG4{α:Type}[Lay α](al:α){T E:TypeId}(hU:prog.underlying T=some (.slice E))(hk:prog.cellsOf E=Lay.k α)(hk0:0<Lay.k α){bytes:Nat}(hby:prog.bytesOf E=bytes)(P:α->Prop)(Q:Nat->α->Prop)
  (ho:∀ {n:Nat} {cs:List Value} {x:DataW H×List MemPlace},cs.length=Lay.k α->DataW.trod enc prog W base spare held n E cs=some x->∃f:α,cs=Lay.cs f/\P f/\∀M,(∀y∈DataW.weights prog E x.1,y<=M)->Q M f)
  {fuel:Nat} {v:Value} {y:DataW H×List MemPlace} (h:DataW.trod enc prog W base spare held fuel T [v]=some y):
  ∃xs:List α,IK W v xs/\(∀x∈xs,P x)/\∀M,(∀x∈DataW.weights prog T y.1,x<=M)->xs.length*bytes<=M/\∀x∈xs,Q M x:=by
 rcases Go.Deep.open_slice hU h with⟨h1,hx⟩|⟨a,len,cap,m,k,D,Pl,h1,hb,hl,hm,hmm,hx,hel⟩
 .simp only[List.cons.injEq,and_true]at h1;rw[h1];exact⟨[],IK.nil W,by simp,fun M _=>⟨by simp,by simp⟩⟩
 .simp only[List.cons.injEq,and_true]at h1;rw[h1];subst hx;have hlm:len<=m:=by rw[hmm];split<;>omega
  have each:∀i,i<len->∃f:α,(∀c,c<Lay.k α->W.cell? (a.add (i*Lay.k α+c))=(Lay.cs f)[c]?)/\P f/\∀M,(∀y∈DataW.weights prog E (D i),y<=M)->Q M f:=by
   intro i hi;obtain⟨cs',g1,g2⟩:=hel i (by omega);rw[hk]at g1;obtain⟨_,hlen,hcell⟩:=World.cells?_some g1;obtain⟨f,rfl,hp,hq⟩:=ho hlen g2;refine⟨f,fun c hc=>?_,hp,hq⟩;have:=hcell c hc;rwa[Go.Deep.add_add]at this
  have:Inhabited α:=⟨al⟩;obtain⟨F,hF⟩:=Go.Deep.choose_lt each;refine⟨(List.range len).map F,?_,?_,?_⟩
  .by_cases h0:len=0
   .subst h0;exact .inl ⟨some a,cap,rfl,rfl,hm⟩
   .have c0:=(hF 0 (by omega)).1 0 hk0;obtain⟨y,hy⟩:∃y,(Lay.cs (F 0))[0]?=some y:=⟨_,List.getElem?_eq_getElem (by rw[Lay.len];exact hk0)⟩;rw[hy]at c0;obtain⟨b,off,sp⟩:=a;have hsp:sp=none:=by
     cases sp with
     |none=>rfl
     |some s=>simp[World.cell?,Addr.add]at c0;split at c0<;>simp at c0
    subst hsp;have hblt:b<W.heap.size:=World.block_lt_of_cell? W _ (show W.cell? ((⟨b,off,none⟩:Addr).add (0*Lay.k α+0))=some _ from c0)|>fun h=>by simpa [Addr.add]using h
    refine .inr ⟨b,off,cap,by simp,by simpa using hl,hm,hblt,by simp;omega,fun j u hj=>?_⟩;have hjl:j<len*Lay.k α:=by
     have:=(AV.1 hj).1;rw[H7,EJ,List.length_range]at this;exact this
    have hi:j/Lay.k α<len:=Nat.div_lt_of_lt_mul (by rw[Nat.mul_comm];exact hjl);have hm':j%Lay.k α<Lay.k α:=Nat.mod_lt _ hk0;have hdm:j/Lay.k α*Lay.k α+j%Lay.k α=j:=by rw[Nat.mul_comm];exact Nat.div_add_mod j _
    have hg:=GY ((List.range len).map F) (j/Lay.k α) (F (j/Lay.k α)) (by rw[List.getElem?_map,List.getElem?_range hi];rfl) (j%Lay.k α) hm';rw[hdm,hj]at hg;have:=(hF (j/Lay.k α) hi).1 (j%Lay.k α) hm';rw[hdm,Addr.add_lit,<-hg]at this;exact this
  .intro x hx;obtain⟨i,hi,rfl⟩:=F5.1 hx;exact(hF i (by simpa using hi)).2.1
  .intro M hM;have hw':DataW.weights prog T (.slice ((List.range len).map D) ((List.range (m-len)).map fun j=>D (len+j)):DataW H)=
     (len+(m-len))*bytes::(DataW.weightsAll prog E ((List.range len).map D)++DataW.weightsAll prog E ((List.range (m-len)).map fun j=>D (len+j))):=by
    simp[DataW.weights,hU,hby]
   rw[hw']at hM;refine⟨?_,fun f hf=>?_⟩
   .have:=hM _ (List.mem_cons_self ..);simp only[EJ,List.length_range];exact Nat.le_trans (Nat.mul_le_mul_right _ (by omega)) this
   .obtain⟨i,hi,rfl⟩:=F5.1 hf;have hi':i<len:=by simpa using hi
    exact(hF i hi').2.2 M fun x hx=>hM x (List.mem_cons_of_mem _ (D8.2 (.inl (YL _ (D i) x (F5.2 ⟨i,hi,rfl⟩) hx))))
theorem zT{ts:List TypeId}{ds:List (DataW H)}(h:(DataW.weightsEach prog ts ds).all (· <=reachBytes)=true){j:Nat}{T:TypeId}{d:DataW H}(ht:ts[j]?=some T)(hd:ds[j]?=some d):∀x∈DataW.weights prog T d,x<=140737488351232:=by
 intro x hx;have e:reachBytes=140737488351232:=by decide
 have h1:=List.all_eq_true.1 h _ (DataW.weights_mem_each ht hd x hx);rw[e]at h1;simpa using h1
end
