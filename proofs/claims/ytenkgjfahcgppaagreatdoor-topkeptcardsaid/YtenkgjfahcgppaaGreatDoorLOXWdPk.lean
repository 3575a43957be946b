/-
  Part.
-/
import Derived.Test.YtenkgjfahcgppaaGreatDoorRows
import Derived.Test.YtenkgjfahcgppaaGreatDoorLOA
import Derived.WalkSpells
import Derived.WalkLawsBesides
set_option maxRecDepth 20000
set_option maxHeartbeats 8000000
namespace Go.Proofs.YtenkgjfahcgppaaGreatDoor
open Go.RowKit Go.Proofs.Tryz
theorem B61{a b:Int}(h:a=b):Ending.returned (I0 a)=.returned (I0 b):=by rw[h]
theorem zV(k n:Int)(hn:0<n):k.tmod n=k%n\/k.tmod n=k%n-n:=by
 rw[Int.tmod_eq_emod]
 split
 .left;omega
 .right;omega
theorem B62(k n:Int)(w:World)(hn:0<n)(hn1:n<=1048576)(hk: -9223372036854775808<=k)(hk1:k<=9223372036854775807):
  Calls prog 10 #[I0 k,I0 n] w fun e w'=>e=.returned (I0 (k%n))/\w'=w:=by
 have hm1:=Int.emod_nonneg k (show n≠0 by omega);have hm2:=Int.emod_lt_of_pos k hn;by_cases h0:0<=k
 .go_enter func10,ntmps10
  go_wp2
  go_ret;exact⟨rfl,rfl⟩
 .have HT:=AA (zV k n hn);go_enter func10,ntmps10
  go_wp2
  all_goals go_ret
  all_goals refine⟨B61 ?_,rfl⟩
  all_goals (have hT:=A8 HT;clear HT;first|omega|(unfold wrap64;omega))
