import Derived.Test.YthmnmblpaeonaaaChecked
import Derived.WalkKit
import Derived.ProofKit
import Derived.Below
namespace Go.Proofs.Ythmnmblpaeonaaa
open Go Go.ChangeShapes Go.WideShapes Go.ChangeAt Go.RowKit

set_option linter.unusedSimpArgs false in
set_option linter.unusedVariables false in
set_option maxRecDepth 100000 in
set_option maxHeartbeats 8000000 in
theorem sizes_0 (n : Int) (_h : n = -9223372036854775808) (W : World) : Calls Try.prog 3 #[.int .i64 n] W fun e W' => e = .returned (.bool true) ∧ Below W.heap.size W W' := by
  go_enter Try.func3, Try.ntmps3
  go_wp2
  all_goals first | (go_ret; exact ⟨rfl, Below.refl _ _⟩) | (exfalso; simp only [bne_eq_false_iff_eq, bne_iff_ne, beq_eq_false_iff_ne, ne_eq] at *; omega)
set_option linter.unusedSimpArgs false in
set_option linter.unusedVariables false in
set_option maxRecDepth 100000 in
set_option maxHeartbeats 8000000 in
theorem sizes_1 (n : Int) (_h0 : -9223372036854775808 < n) (_h1 : n < 0) (W : World) : Calls Try.prog 3 #[.int .i64 n] W fun e W' => e = .returned (.bool true) ∧ Below W.heap.size W W' := by
  go_enter Try.func3, Try.ntmps3
  go_wp2
  all_goals first | (go_ret; exact ⟨rfl, Below.refl _ _⟩) | (exfalso; simp only [bne_eq_false_iff_eq, bne_iff_ne, beq_eq_false_iff_ne, ne_eq] at *; omega)
set_option linter.unusedSimpArgs false in
set_option linter.unusedVariables false in
set_option maxRecDepth 100000 in
set_option maxHeartbeats 8000000 in
theorem sizes_2 (n : Int) (_h : n = 0) (W : World) : Calls Try.prog 3 #[.int .i64 n] W fun e W' => e = .returned (.bool true) ∧ Below W.heap.size W W' := by
  go_enter Try.func3, Try.ntmps3
  go_wp2
  all_goals first | (go_ret; exact ⟨rfl, Below.refl _ _⟩) | (exfalso; simp only [bne_eq_false_iff_eq, bne_iff_ne, beq_eq_false_iff_ne, ne_eq] at *; omega)
set_option linter.unusedSimpArgs false in
set_option linter.unusedVariables false in
set_option maxRecDepth 100000 in
set_option maxHeartbeats 8000000 in
theorem sizes_3 (n : Int) (_h0 : 0 < n) (_h1 : n < 16) (W : World) : Calls Try.prog 3 #[.int .i64 n] W fun e W' => e = .returned (.bool true) ∧ Below W.heap.size W W' := by
  go_enter Try.func3, Try.ntmps3
  go_wp2
  all_goals first | (go_ret; exact ⟨rfl, Below.refl _ _⟩) | (exfalso; simp only [bne_eq_false_iff_eq, bne_iff_ne, beq_eq_false_iff_ne, ne_eq] at *; omega)
set_option linter.unusedSimpArgs false in
set_option linter.unusedVariables false in
set_option maxRecDepth 100000 in
set_option maxHeartbeats 8000000 in
theorem sizes_4 (n : Int) (_h : n = 16) (W : World) : Calls Try.prog 3 #[.int .i64 n] W fun e W' => e = .returned (.bool true) ∧ Below W.heap.size W W' := by
  go_enter Try.func3, Try.ntmps3
  go_wp2
  all_goals first | (go_ret; exact ⟨rfl, Below.refl _ _⟩) | (exfalso; simp only [bne_eq_false_iff_eq, bne_iff_ne, beq_eq_false_iff_ne, ne_eq] at *; omega)
set_option linter.unusedSimpArgs false in
set_option linter.unusedVariables false in
set_option maxRecDepth 100000 in
set_option maxHeartbeats 8000000 in
theorem sizes_5 (n : Int) (_h0 : 17 ≤ n) (_h3 : n % 272 = 0) (_h4 : n - n / 272 * 16 ≤ 1048576) (_h1 : n < 9223372036854775808) (_h2 : n ≤ 1048576) (W : World) : Calls Try.prog 3 #[.int .i64 n] W fun e W' => e = .returned (.bool true) ∧ Below W.heap.size W W' := by
  go_enter Try.func3, Try.ntmps3
  go_wp2
  all_goals first | (go_ret; exact ⟨rfl, Below.refl _ _⟩) | (exfalso; simp only [bne_eq_false_iff_eq, bne_iff_ne, beq_eq_false_iff_ne, ne_eq] at *; omega)
set_option linter.unusedSimpArgs false in
set_option linter.unusedVariables false in
set_option maxRecDepth 100000 in
set_option maxHeartbeats 8000000 in
theorem sizes_6 (n : Int) (_h0 : 17 ≤ n) (_h3 : 16 < n % 272) (_h4 : n - n / 272 * 16 - 16 ≤ 1048576) (_h1 : n < 9223372036854775808) (_h2 : n ≤ 1048576) (W : World) : Calls Try.prog 3 #[.int .i64 n] W fun e W' => e = .returned (.bool true) ∧ Below W.heap.size W W' := by
  go_enter Try.func3, Try.ntmps3
  go_wp2
  all_goals first | (go_ret; exact ⟨rfl, Below.refl _ _⟩) | (exfalso; simp only [bne_eq_false_iff_eq, bne_iff_ne, beq_eq_false_iff_ne, ne_eq] at *; omega)
set_option linter.unusedSimpArgs false in
set_option linter.unusedVariables false in
set_option maxRecDepth 100000 in
set_option maxHeartbeats 8000000 in
theorem sizes_7 (n : Int) (_h0 : 17 ≤ n) (_h3 : 0 < n % 272) (_h5 : n % 272 ≤ 16) (_h4 : n - n / 272 * 16 - 16 ≤ 1048576) (_h1 : n < 9223372036854775808) (_h2 : n ≤ 1048576) (W : World) : Calls Try.prog 3 #[.int .i64 n] W fun e W' => e = .returned (.bool true) ∧ Below W.heap.size W W' := by
  go_enter Try.func3, Try.ntmps3
  go_wp2
  all_goals first | (go_ret; exact ⟨rfl, Below.refl _ _⟩) | (exfalso; simp only [bne_eq_false_iff_eq, bne_iff_ne, beq_eq_false_iff_ne, ne_eq] at *; omega)
set_option linter.unusedSimpArgs false in
set_option linter.unusedVariables false in
set_option maxRecDepth 100000 in
set_option maxHeartbeats 8000000 in
theorem sizes_8 (n : Int) (_h0 : 17 ≤ n) (_h3 : n % 272 = 0) (_h4 : 1048576 < n - n / 272 * 16) (_h1 : n < 9223372036854775808) (_h2 : 1048576 < n) (W : World) : Calls Try.prog 3 #[.int .i64 n] W fun e W' => e = .returned (.bool true) ∧ Below W.heap.size W W' := by
  go_enter Try.func3, Try.ntmps3
  go_wp2
  all_goals first | (go_ret; exact ⟨rfl, Below.refl _ _⟩) | (exfalso; simp only [bne_eq_false_iff_eq, bne_iff_ne, beq_eq_false_iff_ne, ne_eq] at *; omega)
set_option linter.unusedSimpArgs false in
set_option linter.unusedVariables false in
set_option maxRecDepth 100000 in
set_option maxHeartbeats 8000000 in
theorem sizes_9 (n : Int) (_h0 : 17 ≤ n) (_h3 : n % 272 = 0) (_h4 : n - n / 272 * 16 ≤ 1048576) (_h1 : n < 9223372036854775808) (_h2 : 1048576 < n) (W : World) : Calls Try.prog 3 #[.int .i64 n] W fun e W' => e = .returned (.bool true) ∧ Below W.heap.size W W' := by
  go_enter Try.func3, Try.ntmps3
  go_wp2
  all_goals first | (go_ret; exact ⟨rfl, Below.refl _ _⟩) | (exfalso; simp only [bne_eq_false_iff_eq, bne_iff_ne, beq_eq_false_iff_ne, ne_eq] at *; omega)
set_option linter.unusedSimpArgs false in
set_option linter.unusedVariables false in
set_option maxRecDepth 100000 in
set_option maxHeartbeats 8000000 in
theorem sizes_10 (n : Int) (_h0 : 17 ≤ n) (_h3 : 0 < n % 272) (_h4 : 1048576 < n - n / 272 * 16 - 16) (_h1 : n < 9223372036854775808) (_h2 : 1048576 < n) (W : World) : Calls Try.prog 3 #[.int .i64 n] W fun e W' => e = .returned (.bool true) ∧ Below W.heap.size W W' := by
  go_enter Try.func3, Try.ntmps3
  go_wp2
  all_goals first | (go_ret; exact ⟨rfl, Below.refl _ _⟩) | (exfalso; simp only [bne_eq_false_iff_eq, bne_iff_ne, beq_eq_false_iff_ne, ne_eq] at *; omega)
set_option linter.unusedSimpArgs false in
set_option linter.unusedVariables false in
set_option maxRecDepth 100000 in
set_option maxHeartbeats 8000000 in
theorem sizes_11 (n : Int) (_h0 : 17 ≤ n) (_h3 : 16 < n % 272) (_h4 : n - n / 272 * 16 - 16 ≤ 1048576) (_h1 : n < 9223372036854775808) (_h2 : 1048576 < n) (W : World) : Calls Try.prog 3 #[.int .i64 n] W fun e W' => e = .returned (.bool true) ∧ Below W.heap.size W W' := by
  go_enter Try.func3, Try.ntmps3
  go_wp2
  all_goals first | (go_ret; exact ⟨rfl, Below.refl _ _⟩) | (exfalso; simp only [bne_eq_false_iff_eq, bne_iff_ne, beq_eq_false_iff_ne, ne_eq] at *; omega)
set_option linter.unusedSimpArgs false in
set_option linter.unusedVariables false in
set_option maxRecDepth 100000 in
set_option maxHeartbeats 8000000 in
theorem sizes_12 (n : Int) (_h0 : 17 ≤ n) (_h3 : 0 < n % 272) (_h5 : n % 272 ≤ 16) (_h4 : n - n / 272 * 16 - 16 ≤ 1048576) (_h1 : n < 9223372036854775808) (_h2 : 1048576 < n) (W : World) : Calls Try.prog 3 #[.int .i64 n] W fun e W' => e = .returned (.bool true) ∧ Below W.heap.size W W' := by
  go_enter Try.func3, Try.ntmps3
  go_wp2
  all_goals first | (go_ret; exact ⟨rfl, Below.refl _ _⟩) | (exfalso; simp only [bne_eq_false_iff_eq, bne_iff_ne, beq_eq_false_iff_ne, ne_eq] at *; omega)
theorem sizes_any (n : Int) (r0 : -9223372036854775808 ≤ n) (r1 : n < 9223372036854775808) (W : World) : Calls Try.prog 3 #[.int .i64 n] W fun e W' => e = .returned (.bool true) ∧ Below W.heap.size W W' := by
  by_cases c0 : n = -9223372036854775808
  · exact sizes_0 n c0 W
  by_cases c1 : n < 0
  · exact sizes_1 n (by omega) c1 W
  by_cases c2 : n = 0
  · exact sizes_2 n c2 W
  by_cases c3 : n < 16
  · exact sizes_3 n (by omega) c3 W
  by_cases c4 : n = 16
  · exact sizes_4 n c4 W
  have h0 : 17 ≤ n := by omega
  by_cases c5 : n ≤ 1048576
  · by_cases c6 : n % 272 = 0
    · exact sizes_5 n h0 c6 (by omega) r1 c5 W
    by_cases c7 : 16 < n % 272
    · exact sizes_6 n h0 c7 (by omega) r1 c5 W
    · exact sizes_7 n h0 (by omega) (by omega) (by omega) r1 c5 W
  · have c5' : 1048576 < n := by omega
    by_cases c6 : n % 272 = 0
    · by_cases c8 : 1048576 < n - n / 272 * 16
      · exact sizes_8 n h0 c6 c8 r1 c5' W
      · exact sizes_9 n h0 c6 (by omega) r1 c5' W
    by_cases c8 : 1048576 < n - n / 272 * 16 - 16
    · exact sizes_10 n h0 (by omega) c8 r1 c5' W
    by_cases c7 : 16 < n % 272
    · exact sizes_11 n h0 c7 (by omega) r1 c5' W
    · exact sizes_12 n h0 (by omega) (by omega) (by omega) r1 c5' W
end Go.Proofs.Ythmnmblpaeonaaa
