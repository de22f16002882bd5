import Derived.Test.YteobgfbgglfkbaaGreatJC1
import Derived.Test.YteobgfbgglfkbaaGreatJD2
namespace Go.Proofs.YteobgfbgglfkbaaGreat
open Go.RowKit
attribute [local go_sem ↓] Go.wp_at_zero Go.wp_at_succ
def Mb(w w':World):Prop:=Below w.heap.size w w'/\w.heap.size+3<=w'.heap.size/\zE w' w.heap.size #[.int .i64 0,.int .i64 0] 68
theorem Mb.frame{w w1 w2:World}(h:Mb w w1){X:List Nat}(g:Ch X w1 w2)(hX:∀k,k∈X->w.heap.size<k):Mb w w2:=by
 obtain⟨B,z,a⟩:=h;have:=g.size;have:=B.size;exact⟨B.trans (g.below (by omega) (fun k hk=>by have:=hX k hk;omega)),by omega,a.kp g (fun hx=>by have:=hX _ hx;omega)⟩
end Go.Proofs.YteobgfbgglfkbaaGreat
