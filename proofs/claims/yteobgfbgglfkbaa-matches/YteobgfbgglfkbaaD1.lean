import Derived.Test.YteobgfbgglfkbaaC1
import Derived.Test.YteobgfbgglfkbaaA6

namespace Go.Proofs.Yteobgfbgglfkbaa
open Go.RowKit
attribute [local go_sem ↓] Go.wp_at_zero Go.wp_at_succ

set_option maxHeartbeats 800000 in
theorem answer_any {w : World} (e a : Int) : Calls Try.prog 11 #[.agg #[.int .i64 e, .int .i64 a]] w fun r w' => r = .returned (.tuple #[.int .i64 e, .int .i64 a]) ∧ Ch [] w w' := by
  go_enter Try.func11, Try.ntmps11
  go_wp2_with fail
  go_quiet (fail)
  go_wp2_with fail
  go_ret2
  exact ⟨rfl, (Ch.alloc _ _ _).trans (Ch.drewN _ _ _)⟩

theorem num_any {w : World} (e : Int) : Calls Try.prog 7 #[.int .i64 e] w fun r w' => r = .returned (.int .i64 e) ∧ w' = w := by
  go_enter Try.func7, Try.ntmps7
  go_wp2_with fail
  go_ret
  exact ⟨rfl, rfl⟩

set_option maxHeartbeats 800000 in
theorem XCheck_any {w : World} (S : ByteArray) : Calls Try.prog 5 #[.string S] w fun e w' => e = .returned (.tuple #[.int .i64 (checkS S).1, .int .i64 (checkS S).2]) ∧ Below w.heap.size w w' := by
  go_enter Try.func5, Try.ntmps5
  go_wp2_with fail
  refine (gRead_any S).mono ?_
  rintro e w1 ⟨B1, _, _, _, rfl, ⟨x0, n0, c0, rfl⟩, ⟨x1, n1, c1, rfl⟩, ⟨x2, n2, c2, rfl⟩, _⟩
  generalize hC : checkS S = C at *
  obtain ⟨C1, C2⟩ := C
  have HC := hide hC
  simp only
  clear hC
  go_wp2_with fail
  refine (answer_any C1 C2).mono ?_
  rintro e w2 ⟨rfl, g2⟩
  go_wp2_with fail
  go_ret2
  have g3 := ((Ch.alloc [] w1 (.cells #[.slice x0 n0 c0, .slice x1 n1 c1, .slice x2 n2 c2] 38)).trans (Ch.alloc _ _ (.cells #[.int .i64 C1, .int .i64 C2] 41))).trans g2
  exact ⟨by rw [HC.out]; rfl, B1.trans (g3.below B1.size (by simp))⟩

set_option maxHeartbeats 800000 in
theorem LChecks_any {w : World} (S : ByteArray) : Calls Try.prog 3 #[.string S] w fun e w' => e = .returned (.bool true) ∧ Below w.heap.size w w' := by
  go_enter Try.func3, Try.ntmps3
  go_wp2_with fail
  refine (XCheck_any S).mono ?_
  rintro e w1 ⟨rfl, B1⟩
  go_wp2_with fail
  refine (RCheck_any S).mono ?_
  rintro e w2 ⟨rfl, B2⟩
  generalize checkS S = C
  obtain ⟨C1, C2⟩ := C
  simp only
  go_wp2_with fail
  refine (num_any C1).mono ?_
  rintro e w3 ⟨rfl, rfl⟩
  go_wp2_with fail
  go_ret
  exact ⟨rfl, B1.trans (B2.mono B1.size)⟩
end Go.Proofs.Yteobgfbgglfkbaa
