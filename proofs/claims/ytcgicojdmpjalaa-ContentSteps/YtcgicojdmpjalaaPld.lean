import Derived.Test.YtcgicojdmpjalaaPlc
namespace Go.Proofs.Ytcgicojdmpjalaa
open Go Go.RowKit Go.Sort
attribute [local go_sem] setCell_drewN alloc_drewN
theorem deg_some {n : Int} (h1 : -2147483648 ≤ n) (h2 : n ≤ 2147483647) : ∃ z, floatBits .quo .f64 (floatOfInt .f64 n) 4711630319722168320 = some z := by
  show ∃ z, Ieee.double.div (Ieee.double.nearest (decide (n < 0)) n.natAbs 0) 4711630319722168320 = some z
  have r1 : Ieee.double.read 0x416312D000000000 = .number false c7 (-29) := by decide +kernel
  by_cases h0 : n.natAbs = 0
  · rw [h0, decide_eq_false (by omega)]
    exact ⟨_, deg_zero.1⟩
  · obtain ⟨ra, _, _⟩ := whole_read (decide (n < 0)) h0 (by omega)
    have c0 : c7 ≠ 0 := by decide
    unfold Ieee.Format.div
    rw [ra, r1]
    simp only [Ieee.Datum.quotient, if_neg c0]
    exact ⟨_, rfl⟩
theorem a_degrees {n : Int} {z : Nat} (hz : floatBits .quo .f64 (floatOfInt .f64 n) 4711630319722168320 = some z) (w : World) : Calls Try.prog 8 #[.int .i32 n] w fun e w' => e = .returned (.float .f64 z) ∧ Below w.heap.size w w' := by
  have r6 := fun w : World => run_float_arith (P := Try.prog) w .quo 23 .f64 (floatOfInt .f64 n) 4711630319722168320 z hz
  have r7 := fun w : World => run_convert_int_float (P := Try.prog) (w := w) 21 23 .i32 .f64 n (by kernel_rfl) (by kernel_rfl)
  clear hz
  generalize floatOfInt .f64 n = y at *
  go_enter Try.func8, Try.ntmps8
  go_wp2
  go_ret
  exact ⟨rfl, .refl _ _⟩
theorem r_degrees {n : Int} {z : Nat} (hz : floatBits .quo .f64 (floatOfInt .f64 n) 4711630319722168320 = some z) (w : World) : Calls Try.prog 9 #[.int .i32 n] w fun e w' => e = .returned (.float .f64 z) ∧ Below w.heap.size w w' := by
  have r6 := fun w : World => run_float_arith (P := Try.prog) w .quo 23 .f64 (floatOfInt .f64 n) 4711630319722168320 z hz
  have r7 := fun w : World => run_convert_int_float (P := Try.prog) (w := w) 21 23 .i32 .f64 n (by kernel_rfl) (by kernel_rfl)
  clear hz
  generalize floatOfInt .f64 n = y at *
  go_enter Try.func9, Try.ntmps9
  go_wp2
  go_ret
  exact ⟨rfl, .refl _ _⟩
theorem steps_any (b : Nat) (hb : b < 18446744073709551616) (n : Int) (h1 : -2147483648 ≤ n) (h2 : n ≤ 2147483647) (W : World) : Calls Try.prog 3 #[.int .u64 (b : Int), .int .i32 n] W fun e W' => e = .returned (.bool true) ∧ Below W.heap.size W W' := by
  have cS := a_steps b hb
  have cR := r_steps b hb
  obtain ⟨z, hz⟩ := deg_some h1 h2
  have cD := a_degrees hz
  have cE := r_degrees hz
  have f1 := run_frombits (b : Int)
  rw [Int.toNat_natCast] at f1
  have f2 := run_bits z
  clear hz
  generalize stI b = I at *
  generalize stE b = E at *
  go_enter Try.func3, Try.ntmps3
  go_wp2_with (fail)
  refine (cS _).mono ?_
  rintro e_ w1 ⟨rfl, b1⟩
  go_wp2_with (fail)
  refine (cR _).mono ?_
  rintro e_ w2 ⟨rfl, b2⟩
  go_wp2_with (fail)
  refine (cD _).mono ?_
  rintro e_ w3 ⟨rfl, b3⟩
  go_wp2_with (fail)
  refine (cE _).mono ?_
  rintro e_ w4 ⟨rfl, b4⟩
  go_wp2_with (fail)
  go_ret
  exact ⟨by simp, ((b1.trans (b2.mono b1.size)).trans (b3.mono (b1.trans (b2.mono b1.size)).size)).trans (b4.mono ((b1.trans (b2.mono b1.size)).trans (b3.mono (b1.trans (b2.mono b1.size)).size)).size)⟩
end Go.Proofs.Ytcgicojdmpjalaa
