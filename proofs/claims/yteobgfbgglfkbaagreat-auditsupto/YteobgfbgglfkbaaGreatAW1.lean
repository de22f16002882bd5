import Derived.Test.YteobgfbgglfkbaaGreatAQ1
namespace Go.Proofs.YteobgfbgglfkbaaGreat
open Go.RowKit
attribute [local go_sem ↓] Go.wp_at_zero Go.wp_at_succ
theorem VH{w w':World}(h:Below w.heap.size w w'):Ch [] w w':=⟨h.os,h.tape,h.output,h.size,fun k hk _=>h.block k hk⟩
theorem Ch.low{w w':World}(h:Ch [] w w'):Below w.heap.size w w':=h.below (Nat.le_refl _) (by simp)
end Go.Proofs.YteobgfbgglfkbaaGreat
