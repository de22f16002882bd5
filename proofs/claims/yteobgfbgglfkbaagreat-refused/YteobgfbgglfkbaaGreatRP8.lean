import Derived.Test.YteobgfbgglfkbaaGreatRP6
import Derived.Test.YteobgfbgglfkbaaGreatRP7
set_option maxHeartbeats 800000
namespace Go.Proofs.YteobgfbgglfkbaaGreat
open Go.RowKit
attribute [local go_sem ↓] Go.wp_at_zero Go.wp_at_succ
theorem T9{w:World}(e a:Int):Calls Tryz.prog 22 #[.agg #[.int .i64 e,.int .i64 a]] w fun r w'=>r= .returned (.tuple #[.int .i64 e,.int .i64 a])/\Ch [] w w':=by
 go_enter Tryz.func22,Tryz.ntmps22;go_wp2_with fail;go_quiet (fail);go_wp2_with fail;go_ret2;exact⟨rfl,(Ch.alloc _ _ _).trans (Ch.drewN _ _ _)⟩
def Ye(C:List zZ)(i:Int):List Int:=match C[i.toNat]? with|some c=>c.scrubs|none=>[]
end Go.Proofs.YteobgfbgglfkbaaGreat
