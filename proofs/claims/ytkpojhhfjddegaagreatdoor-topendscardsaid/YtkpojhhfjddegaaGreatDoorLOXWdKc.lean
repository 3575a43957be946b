/-
  Part.
-/
import Derived.Test.YtkpojhhfjddegaaGreatDoorLOAL
import Derived.Test.YtkpojhhfjddegaaGreatDoorLOXWdSv
import Derived.Test.YtkpojhhfjddegaaGreatDoorLOXWdOp
set_option maxRecDepth 20000
set_option maxHeartbeats 8000000
namespace Go.Proofs.YtkpojhhfjddegaaGreatDoor
open Go.RowKit Go.Proofs.Tryz
theorem BY3(x0 x1 x2 x3 x4 x5 x6 x7 x8 x9 x10 x11:Value)(w:World):(Instr.field 36 (.agg #[x0,x1,x2,x3,x4,x5,x6,x7,x8,x9,x10,x11]) 0).run prog w=.ok x0 w:=by kernel_rfl
