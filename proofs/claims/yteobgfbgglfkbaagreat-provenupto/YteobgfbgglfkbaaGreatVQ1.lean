import Derived.Test.YteobgfbgglfkbaaGreatVP9
import Derived.Test.YteobgfbgglfkbaaGreatVP8
namespace Go.Proofs.YteobgfbgglfkbaaGreat
open Go.RowKit
attribute [local go_sem ↓] Go.wp_at_zero Go.wp_at_succ
theorem Aj{w:World}(e:Int):Calls Tryz.prog 10 #[.int .i64 e] w fun r w'=>r= .returned (.int .i64 e)/\w'=w:=by
 go_enter Tryz.func10,Tryz.ntmps10;go_wp2_with fail;go_ret;exact⟨rfl,rfl⟩
end Go.Proofs.YteobgfbgglfkbaaGreat
