import Derived.Test.YtcgicojdmpjalabProg
import Derived.WalkKit
import Derived.WalkSpells
import Derived.WalkLawsBesides
import Derived.Lib.QuietBelow
import Derived.Laws.BitsAllLaws
import Derived.Laws.Externs
import Derived.WalkMore
import Derived.Test.YtcgicojdmpjalabKit
import Derived.Test.YtcgicojdmpjalabPla
namespace Go.Proofs.Ytcgicojdmpjalab
open Go Go.RowKit Go.Sort
attribute [local go_sem] setCell_drewN alloc_drewN
theorem run_bits (x : Nat) (w : World) : (callFunc 9 #[.float .f64 x]).run Try.prog w = .ok (.value (.int .u64 x)) w := by
  rw [run_callFunc_extern Try.func9 (by kernel_rfl) (by kernel_rfl) (by kernel_rfl) (e := Extern.MathFloatBits.float64bits) (by kernel_rfl)]; rfl
theorem run_frombits (z : Int) (w : World) : (callFunc 6 #[.int .u64 z]).run Try.prog w = .ok (.value (.float .f64 z.toNat)) w := by
  rw [run_callFunc_extern Try.func6 (by kernel_rfl) (by kernel_rfl) (by kernel_rfl) (e := Extern.MathFloatBits.float64frombits) (by kernel_rfl)]; rfl
theorem run_fma {x y z r : Nat} (h : FloatKind.f64.format.fma x y z = some r) (w : World) : (callFunc 8 #[.float .f64 x, .float .f64 y, .float .f64 z]).run Try.prog w = .ok (.value (.float .f64 r)) w := by
  rw [run_callFunc_extern Try.func8 (by kernel_rfl) (by kernel_rfl) (by kernel_rfl) (e := Extern.MathFMA.fma) (by kernel_rfl)]
  have : (Extern.MathFMA.fma #[.float .f64 x, .float .f64 y, .float .f64 z]).run Try.prog w = .ok (.float .f64 r) w := by
    have e : ∀ o, o = some r → (match (motive := Option Nat → Sem Value) o with
      | some r => pure (Value.float .f64 r)
      | none => do
        let (a, b) := if Extern.MathFMA.isNaN x then (x, y) else if Extern.MathFMA.isNaN y then (y, z) else (z, z)
        pure (Value.float .f64 (← choose (.nanBits .f64 a b)))).run Try.prog w = .ok (.float .f64 r) w := by
      rintro _ rfl; rfl
    exact e _ h
  rw [this]; rfl
theorem abs_bits {b : Nat} (hb : b < 2 ^ 64) : (bits .andNot .u64 (b : Int) 9223372036854775808).toNat = b % 2 ^ 63 := by
  rw [show (9223372036854775808 : Int) = ((9223372036854775808 : Nat) : Int) from rfl, u64_andNot_nat b _ hb (by decide), Int.toNat_natCast]
  exact Nat.and_two_pow_sub_one_eq_mod b 63
theorem a_abs (b : Nat) (hb : b < 2 ^ 64) (w : World) : Calls Try.prog 7 #[.float .f64 b] w fun e w' => e = .returned (.float .f64 (b % 2 ^ 63)) ∧ Below w.heap.size w w' := by
  have r1 := run_bits b
  have r2 := run_frombits (bits .andNot .u64 (b : Int) 9223372036854775808)
  rw [abs_bits hb] at r2
  go_enter Try.func7, Try.ntmps7
  go_wp2_with (fail)
  go_ret
  exact ⟨rfl, .refl _ _⟩
/-- What Steps answers of a float's bits. -/
def stE (b : Nat) : Int := if b % 2 ^ 63 ≤ 0x4066800000000000 then 0 else 91
def stI (b : Nat) : Int := if b % 2 ^ 63 ≤ 0x4066800000000000 then sg (b / 2 ^ 63 % 2 == 1) (stp (b % 2 ^ 63)) else 0
theorem cmp_in {b : Nat} (h : b % 2 ^ 63 ≤ 0x4066800000000000) : FloatKind.f64.format.order (b % 2 ^ 63) 4640537203540230144 = some .lt ∨ FloatKind.f64.format.order (b % 2 ^ 63) 4640537203540230144 = some .eq := by
  have e := order_180 (b % 2 ^ 63) false
  rw [show Ieee.double.order (b % 2 ^ 63) (w180 false) = FloatKind.f64.format.order (b % 2 ^ 63) 4640537203540230144 from rfl] at e
  have hz : b % 2 ^ 63 / 2 ^ 63 = 0 := Nat.div_eq_of_lt (Nat.mod_lt _ (by decide))
  rw [e, Nat.mod_mod, if_neg (by omega), hz]
  simp only [Nat.zero_mod, Nat.reduceBEq, if_true, Bool.false_eq_true, if_false]
  rcases Nat.lt_or_ge (b % 2 ^ 63) 0x4066800000000000 with x | x
  · exact .inl (by rw [Nat.compare_eq_lt.2 x])
  · exact .inr (by rw [Nat.compare_eq_eq.2 (by omega)])
theorem cmp_out {b : Nat} (h : ¬ b % 2 ^ 63 ≤ 0x4066800000000000) : FloatKind.f64.format.order (b % 2 ^ 63) 4640537203540230144 = some .gt ∨ FloatKind.f64.format.order (b % 2 ^ 63) 4640537203540230144 = none := by
  have e := order_180 (b % 2 ^ 63) false
  rw [show Ieee.double.order (b % 2 ^ 63) (w180 false) = FloatKind.f64.format.order (b % 2 ^ 63) 4640537203540230144 from rfl] at e
  have hz : b % 2 ^ 63 / 2 ^ 63 = 0 := Nat.div_eq_of_lt (Nat.mod_lt _ (by decide))
  rw [e, Nat.mod_mod, hz]
  by_cases x : 2047 * 2 ^ 52 < b % 2 ^ 63
  · rw [if_pos x]; exact .inr rfl
  · rw [if_neg x]
    simp only [Nat.zero_mod, Nat.reduceBEq, if_true, Bool.false_eq_true, if_false]
    exact .inl (by rw [Nat.compare_eq_gt.2 (by omega)])
theorem a_steps (b : Nat) (hb : b < 2 ^ 64) (w : World) : Calls Try.prog 4 #[.float .f64 b] w fun e w' => e = .returned (.tuple #[.int .i32 (stI b), .int .i64 (stE b)]) ∧ Below w.heap.size w w' := by
  have cA := a_abs b hb w
  by_cases h : b % 2 ^ 63 ≤ 0x4066800000000000
  · have e1 : stI b = sg (b / 2 ^ 63 % 2 == 1) (stp (b % 2 ^ 63)) := if_pos h
    have e2 : stE b = 0 := if_pos h
    have hs := stp_le h
    have r3 := run_fma (fma_steps h)
    obtain ⟨z, hz, hi⟩ := sub_steps (s := (b / 2 ^ 63 % 2 == 1)) (n := stp (b % 2 ^ 63)) hs
    have r4 : floatBits .sub .f64 (1074 * 2 ^ 52 + (3 * 2 ^ 51 + sg (b / 2 ^ 63 % 2 == 1) (stp (b % 2 ^ 63))).toNat) 4843621399236968448 = some z := hz
    have hb1 : -1800000000 ≤ sg (b / 2 ^ 63 % 2 == 1) (stp (b % 2 ^ 63)) ∧ sg (b / 2 ^ 63 % 2 == 1) (stp (b % 2 ^ 63)) ≤ 1800000000 := by
      generalize (b / 2 ^ 63 % 2 == 1) = s
      cases s
      · rw [sg_false]; omega
      · rw [sg_true]; omega
    rw [← e1] at r3 r4 hi hb1
    have r5 : floatToIntVal .f64 z .i32 = some (stI b) := by
      unfold floatToIntVal
      rw [show (FloatKind.f64.decode z).toInt .zero = some (stI b) from hi]
      simp only
      rw [if_pos ⟨by show (-2147483648 : Int) ≤ _; omega, by show _ ≤ (2147483647 : Int); omega⟩]
    rw [e2]
    have hc := cmp_in h
    clear e1 e2 hs hi h hz
    generalize stI b = I at *
    generalize (1074 * 2 ^ 52 + (3 * 2 ^ 51 + I).toNat) = y at *
    generalize b % 2 ^ 63 = r at *
    have r6 := fun w : World => run_float_arith (P := Try.prog) w .sub 26 .f64 y 4843621399236968448 z r4
    have r7 := fun w : World => run_convert_float_int (P := Try.prog) w 26 21 .f64 .i32 z I (by kernel_rfl) (by kernel_rfl) r5
    clear r4 r5
    rcases hc with hc | hc
    all_goals
      go_enter Try.func4, Try.ntmps4
      go_wp2_with (fail)
      refine cA.mono ?_
      rintro e_ w1 ⟨rfl, hb1⟩
      go_wp2_with (fail)
      go_ret2
      exact ⟨rfl, hb1⟩
  · have e1 : stI b = 0 := if_neg h
    have e2 : stE b = 91 := if_neg h
    rw [e1, e2]
    have hc := cmp_out h
    clear e1 e2 h
    generalize b % 2 ^ 63 = r at *
    rcases hc with hc | hc
    all_goals
      go_enter Try.func4, Try.ntmps4
      go_wp2_with (fail)
      refine cA.mono ?_
      rintro e_ w1 ⟨rfl, hb1⟩
      go_wp2_with (fail)
      go_ret2
      exact ⟨rfl, hb1⟩
end Go.Proofs.Ytcgicojdmpjalab
