/-
  Part.
-/
import Derived.Test.YtenkgjfahcgppaaGreatDoorLOW
set_option maxRecDepth 20000
set_option maxHeartbeats 8000000
namespace Go.Proofs.YtenkgjfahcgppaaGreatDoor
open Go.RowKit Go.Proofs.Tryz
def eqX(x y:AQ):Bool:=x.z==y.z&&x.o==y.o&&x.s==y.s&&x.p==y.p&&x.d==y.d&&x.v==y.v&&x.w==y.w
theorem B58{x y:AQ}:eqX x y=true↔x=y:=by
 obtain⟨a,b,c,d,e,f,g⟩:=x;obtain⟨a',b',c',d',e',f',g'⟩:=y;simp[eqX,and_assoc]
theorem C67(x y:AQ)(w:World):(binOp .eql 49 (DW x) (DW y)).run prog w=.ok (.bool (eqX x y)) w:=by
 have u3:=underlying3;have a3:=isAgg3;have z3:=sizeOf3;have u9:=underlying9;have a9:=isAgg9;have z9:=sizeOf9;have hS:prog.underlying 49=some (.struct (prog.fieldsOf 49)):=by kernel_rfl
 have hp:prog.stoodInHeld 49=false:=by kernel_rfl
 simp only[DW];rw[run_eql_struct,show (10000:Nat)=9999+1 from rfl,run_equalIn_agg w 9999 49 _ _ hS hp];simp only[Program.fieldsOf,underlying49];go_simp;unfold eqX;by_cases h0:x.z=y.z
 .by_cases h1:x.o=y.o
  .by_cases h2:x.s=y.s
   .by_cases h3:x.p=y.p
    .by_cases h4:x.d=y.d
     .by_cases h5:x.v=y.v
      .by_cases h6:x.w=y.w
       .simp[h0,h1,h2,h3,h4,h5,h6]
       .simp[h0,h1,h2,h3,h4,h5,h6]
      .simp[h0,h1,h2,h3,h4,h5]
     .simp[h0,h1,h2,h3,h4]
    .simp[h0,h1,h2,h3]
   .simp[h0,h1,h2]
  .simp[h0,h1]
 .simp[h0]
