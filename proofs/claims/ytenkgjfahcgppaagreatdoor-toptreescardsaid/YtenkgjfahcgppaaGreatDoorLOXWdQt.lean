/-
  Part.
-/
import Derived.Test.YtenkgjfahcgppaaGreatDoorLOAL
set_option maxRecDepth 20000
set_option maxHeartbeats 8000000
namespace Go.Proofs.YtenkgjfahcgppaaGreatDoor
open Go.RowKit Go.Proofs.Tryz
theorem uP(k:Nat)(d:Dd)(r:Rp)(u:Value)(w:World):Calls prog 7 #[wP k,ddV d,rpV r u] w (R0 w (.bool true)):=by
 unfold wP ddV rpV;go_enter func7,ntmps7;go_wp2_with fail;go_ret;exact⟨rfl,AL (AB _ _) (AB _ _)⟩
