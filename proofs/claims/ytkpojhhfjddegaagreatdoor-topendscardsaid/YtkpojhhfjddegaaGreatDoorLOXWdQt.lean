/-
  Part.
-/
import Derived.Test.YtkpojhhfjddegaaGreatDoorLOAL
set_option maxRecDepth 20000
set_option maxHeartbeats 8000000
namespace Go.Proofs.YtkpojhhfjddegaaGreatDoor
open Go.RowKit Go.Proofs.Tryz
theorem zQ(k:Nat)(d:Dd)(r:Rp)(u:Value)(w:World):Calls prog 9 #[wP k,ddV d,rpV r u] w (R0 w (.bool true)):=by
 unfold wP ddV rpV;go_enter func9,ntmps9;go_wp2_with fail;go_ret;exact⟨rfl,GI (GH _ _) (GH _ _)⟩
