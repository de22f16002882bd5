import Derived.Test.YteobgfbgglfkbaaGreatRP3
import Derived.Test.YteobgfbgglfkbaaGreatRA6
namespace Go.Proofs.YteobgfbgglfkbaaGreat
open Go.RowKit
attribute [local go_sem ↓] Go.wp_at_zero Go.wp_at_succ
theorem YC.kp{w w':World}{F:Nat->Prop}{v:Value}{R:List yb}(h:YC w F v R)(hF:∀k,F k->k<w.heap.size)(g:Ch [] w w'):YC w' F v R:=
 h.frame (fun k hk=>g.block k (hF k hk) (by simp)) (fun _ h=>h)
end Go.Proofs.YteobgfbgglfkbaaGreat
