/-
  Part.
-/
import Derived.Test.YtppjdeblncincaaGreatDoorLOAA
set_option maxRecDepth 20000
set_option maxHeartbeats 8000000
namespace Go.Proofs.YtppjdeblncincaaGreatDoor
open Go.RowKit Go.Proofs.Tryz
open Go.ChangeShapes Go.WideShapes Go.ChangeAt Go.ChangeMaps
theorem dF:prog.cellsOf 9=1:=by kernel_rfl
theorem LM:prog.cellsOf 3=1:=by kernel_rfl
theorem AR4:prog.cellsOf 4=1:=by kernel_rfl
theorem dG:prog.cellsOf 56=6:=by kernel_rfl
theorem BV8:prog.cellsOf 58=13:=by kernel_rfl
theorem BV9:prog.bytesOf 58=120:=by kernel_rfl
structure DdI(d:Dd):Prop where
 k:(Lit.int .i64 d.k).wf=true
 c:(Lit.int .i64 d.c).wf=true
 s:(Lit.int .i64 d.s).wf=true
 o:(Lit.int .i64 d.q.o).wf=true
 qs:(Lit.int .i64 d.q.s).wf=true
 v:(Lit.int .i64 d.q.v).wf=true
 f:(Lit.int .i64 d.q.f).wf=true
 lo:(Lit.int .i64 d.lo).wf=true
 sl:(Lit.int .i64 d.sl).wf=true
 ke:(Lit.int .i64 d.ke).wf=true
def dd0:Dd:=⟨0,0,0,⟨0,0,[],[],0,0⟩,0,0,0,false⟩
section
variable {H:Type} {enc:TypeId×Value->H} {W:World} {base:Nat} {spare:Nat->Bool} {held:Bool}
theorem BW0{n:Nat}{c0 c1 c2 c3 c4 c5:Value}{x:DataW H×List MemPlace}(h:DataW.trod enc prog W base spare held n 56 [c0,c1,c2,c3,c4,c5]=some x):
  ∃f:Rq,(c0=I0 f.o/\c1=I0 f.s/\c2=S0 f.p/\c3=S0 f.d/\c4=I0 f.v/\c5=I0 f.f)/\((Lit.int .i64 f.o).wf=true/\(Lit.int .i64 f.s).wf=true/\(Lit.int .i64 f.v).wf=true/\(Lit.int .i64 f.f).wf=true)/\∀M,(∀y∈DataW.weights prog 56 x.1,y<=M)->f.p.length<=M/\f.d.length<=M:=by
 obtain⟨xs,k,_,hx,_,hlen,hfs⟩:=DataW.trod_struct underlying56 h
 match xs,hlen with
 |[y0,y1,y2,y3,y4,y5],_=>
  obtain⟨o,e0,rfl,w0⟩:=DataW.trod_int underlying3 (show DataW.trod enc prog W base spare held k 3 [c0]=some y0 by simpa [LM]using hfs 0 _ rfl);obtain⟨s,e1,rfl,w1⟩:=DataW.trod_int underlying3 (show DataW.trod enc prog W base spare held k 3 [c1]=some y1 by simpa [LM]using hfs 1 _ rfl);obtain⟨p',e2,rfl,_⟩:=DataW.trod_string underlying9 (show DataW.trod enc prog W base spare held k 9 [c2]=some y2 by simpa [LM,dF]using hfs 2 _ rfl);obtain⟨d',e3,rfl,_⟩:=DataW.trod_string underlying9 (show DataW.trod enc prog W base spare held k 9 [c3]=some y3 by simpa [LM,dF]using hfs 3 _ rfl);obtain⟨v',e4,rfl,w4⟩:=DataW.trod_int underlying3 (show DataW.trod enc prog W base spare held k 3 [c4]=some y4 by simpa [LM,dF]using hfs 4 _ rfl);obtain⟨u',e5,rfl,w5⟩:=DataW.trod_int underlying3 (show DataW.trod enc prog W base spare held k 3 [c5]=some y5 by simpa [LM,dF]using hfs 5 _ rfl);simp only[List.cons.injEq,and_true]at e0 e1 e2 e3 e4 e5;subst e0 e1 e2 e3 e4 e5;obtain⟨pl,rfl⟩:=AG2 p';obtain⟨dl,rfl⟩:=AG2 d';subst hx;refine⟨⟨o,s,pl,dl,v',u'⟩,⟨rfl,rfl,rfl,rfl,rfl,rfl⟩,⟨w0,w1,w4,w5⟩,fun M hM=>?_⟩;simp only[DataW.weights,underlying56,List.map_cons,List.map_nil,DataW.weightsEach]at hM;simpa using hM
theorem BW1{n:Nat}{cs:List Value}{x:DataW H×List MemPlace}(hl:cs.length=13)(h:DataW.trod enc prog W base spare held n 58 cs=some x):
  ∃f:Dd,cs=zV f/\DdI f/\∀M,(∀y∈DataW.weights prog 58 x.1,y<=M)->f.q.p.length<=M/\f.q.d.length<=M:=by
 match cs,hl with
 |[c0,c1,c2,c3,c4,c5,c6,c7,c8,c9,c10,c11,c12],_=>
  obtain⟨xs,k,_,hx,_,hlen,hfs⟩:=DataW.trod_struct underlying58 h
  match xs,hlen with
  |[y0,y1,y2,y3,y4,y5,y6,y7],_=>
   obtain⟨k',e0,rfl,w0⟩:=DataW.trod_int underlying3 (show DataW.trod enc prog W base spare held k 3 [c0]=some y0 by simpa [LM]using hfs 0 _ rfl);obtain⟨c',e1,rfl,w1⟩:=DataW.trod_int underlying3 (show DataW.trod enc prog W base spare held k 3 [c1]=some y1 by simpa [LM]using hfs 1 _ rfl);obtain⟨s',e2,rfl,w2⟩:=DataW.trod_int underlying3 (show DataW.trod enc prog W base spare held k 3 [c2]=some y2 by simpa [LM]using hfs 2 _ rfl);obtain⟨q,⟨q0,q1,q2,q3,q4,q5⟩,⟨g0,g1,g2,g3⟩,hq⟩:=BW0 (show DataW.trod enc prog W base spare held k 56 [c3,c4,c5,c6,c7,c8]=some y3 by simpa [LM,dG]using hfs 3 _ rfl);obtain⟨lo,e4,rfl,w4⟩:=DataW.trod_int underlying3 (show DataW.trod enc prog W base spare held k 3 [c9]=some y4 by simpa [LM,dG]using hfs 4 _ rfl);obtain⟨sl,e5,rfl,w5⟩:=DataW.trod_int underlying3 (show DataW.trod enc prog W base spare held k 3 [c10]=some y5 by simpa [LM,dG]using hfs 5 _ rfl);obtain⟨ke,e6,rfl,w6⟩:=DataW.trod_int underlying3 (show DataW.trod enc prog W base spare held k 3 [c11]=some y6 by simpa [LM,dG]using hfs 6 _ rfl);obtain⟨wt,e7,rfl⟩:=DataW.trod_bool underlying4 (show DataW.trod enc prog W base spare held k 4 [c12]=some y7 by simpa [LM,dG,AR4]using hfs 7 _ rfl);simp only[List.cons.injEq,and_true]at e0 e1 e2 e4 e5 e6 e7;subst e0 e1 e2 e4 e5 e6 e7 q0 q1 q2 q3 q4 q5;subst hx;refine⟨⟨k',c',s',q,lo,sl,ke,wt⟩,rfl,⟨w0,w1,w2,g0,g1,g2,g3,w4,w5,w6⟩,fun M hM=>hq M fun y hy=>hM y ?_⟩;simp only[DataW.weights,underlying58,List.map_cons,List.map_nil,DataW.weightsEach];simp[hy]
theorem AR5{r:Reach}{b0:Nat}{v:Value}{d:DataW H}{p:List MemPlace}(hv:Value.okWide prog W r b0 22 v)(h:DataW.Trod enc prog W base spare held 22 v d p):
  ∃ds:List Dd,IL W v ds/\(∀x∈ds,DdI x)/\∀M,(∀x∈DataW.weights prog 22 d,x<=M)->ds.length*120<=M/\∀x∈ds,x.q.p.length<=M/\x.q.d.length<=M:=by
 obtain⟨fuel,hf⟩:=h;obtain⟨sa,sl,sc,rfl⟩:=okWide_slice underlying22 hv;obtain⟨rs,h1,h2,h3⟩:=BE2 dd0 underlying22 BV8 (by decide) BV9 DdI (fun M x=>x.q.p.length<=M/\x.q.d.length<=M) BW1 (y:=(d,p)) (show DataW.trod enc prog W base spare held fuel 22 [.slice sa sl sc]=some (d,p) by simpa [Value.cells]using hf);exact⟨rs,h1,h2,h3⟩
end
