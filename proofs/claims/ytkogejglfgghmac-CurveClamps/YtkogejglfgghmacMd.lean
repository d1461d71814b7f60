import Derived.Laws.BitsAllLaws
import Derived.Test.YtkogejglfgghmacMc
namespace Go.Proofs.Ytkogejglfgghmac
open Go Go.RowKit

/-! The bits' operations as numbers. -/
theorem and51 (x : Int) (h0 : 0 ≤ x) (h1 : x < 18446744073709551616) : bits .and .u64 x 2251799813685247 = x % 2251799813685248 := by
  rw [u64_and x 2251799813685247 h0 h1 (by decide) (by decide)]
  have e : (2251799813685247 : Int).toNat = 2 ^ 51 - 1 := by decide
  rw [e, Nat.and_two_pow_sub_one_eq_mod]
  omega
theorem or_sum (i : Nat) (x y : Int) (hx0 : 0 ≤ x) (hx : x < 2 ^ i) (hy0 : 0 ≤ y) (hy : y < 18446744073709551616) (hm : y % 2 ^ i = 0) (hx1 : x < 18446744073709551616) : bits .or .u64 x y = x + y := by
  obtain ⟨a, rfl⟩ := Int.eq_ofNat_of_zero_le hx0
  obtain ⟨b, rfl⟩ := Int.eq_ofNat_of_zero_le hy0
  rw [u64_or_nat a b (by omega) (by omega), Nat.or_comm, nat_join i b a (by exact_mod_cast hm) (by exact_mod_cast hx)]
  omega

/-- Five words of 51 bits as one number. -/
def v5 (a0 a1 a2 a3 a4 : Int) : Int := a0 + 2251799813685248 * (a1 + 2251799813685248 * (a2 + 2251799813685248 * (a3 + 2251799813685248 * a4)))
/-- The word of m at place i. -/
def lb (m : Int) (i : Nat) : Int := m / 2251799813685248 ^ i % 2251799813685248
theorem lb_bd (m : Int) (i : Nat) : 0 ≤ lb m i ∧ lb m i < 2251799813685248 := by unfold lb; omega
theorem lb_v5 (a0 a1 a2 a3 a4 : Int) (l0 : 0 ≤ a0) (u0 : a0 < 2251799813685248) (l1 : 0 ≤ a1) (u1 : a1 < 2251799813685248) (l2 : 0 ≤ a2) (u2 : a2 < 2251799813685248) (l3 : 0 ≤ a3) (u3 : a3 < 2251799813685248) (l4 : 0 ≤ a4) (u4 : a4 < 2251799813685248) :
    lb (v5 a0 a1 a2 a3 a4) 0 = a0 ∧ lb (v5 a0 a1 a2 a3 a4) 1 = a1 ∧ lb (v5 a0 a1 a2 a3 a4) 2 = a2 ∧ lb (v5 a0 a1 a2 a3 a4) 3 = a3 ∧ lb (v5 a0 a1 a2 a3 a4) 4 = a4 := by
  unfold lb v5
  simp only [Int.pow_zero, Int.ediv_one, Int.pow_succ, Int.one_mul]
  refine ⟨?_, ?_, ?_, ?_, ?_⟩ <;> omega
theorem v5_lb (m : Int) (h0 : 0 ≤ m) (h1 : m < 57896044618658097711785492504343953926634992332820282019728792003956564819968) : v5 (lb m 0) (lb m 1) (lb m 2) (lb m 3) (lb m 4) = m := by
  unfold lb v5
  simp only [Int.pow_zero, Int.ediv_one, Int.pow_succ, Int.one_mul]
  omega

/-- Eight bytes, four words. -/
def q8 (b0 b1 b2 b3 b4 b5 b6 b7 : Int) : Int := b0 + 256 * (b1 + 256 * (b2 + 256 * (b3 + 256 * (b4 + 256 * (b5 + 256 * (b6 + 256 * b7))))))
theorem q8_bd (b0 b1 b2 b3 b4 b5 b6 b7 : Int) (l0 : 0 ≤ b0 ∧ b0 < 256) (l1 : 0 ≤ b1 ∧ b1 < 256) (l2 : 0 ≤ b2 ∧ b2 < 256) (l3 : 0 ≤ b3 ∧ b3 < 256) (l4 : 0 ≤ b4 ∧ b4 < 256) (l5 : 0 ≤ b5 ∧ b5 < 256) (l6 : 0 ≤ b6 ∧ b6 < 256) (l7 : 0 ≤ b7 ∧ b7 < 256) :
    0 ≤ q8 b0 b1 b2 b3 b4 b5 b6 b7 ∧ q8 b0 b1 b2 b3 b4 b5 b6 b7 < 18446744073709551616 := by unfold q8; omega
/-- What 'eight' gathers. -/
theorem q8_or (b0 b1 b2 b3 b4 b5 b6 b7 : Int) (l0 : 0 ≤ b0 ∧ b0 < 256) (l1 : 0 ≤ b1 ∧ b1 < 256) (l2 : 0 ≤ b2 ∧ b2 < 256) (l3 : 0 ≤ b3 ∧ b3 < 256) (l4 : 0 ≤ b4 ∧ b4 < 256) (l5 : 0 ≤ b5 ∧ b5 < 256) (l6 : 0 ≤ b6 ∧ b6 < 256) (l7 : 0 ≤ b7 ∧ b7 < 256) :
    bits .or .u64 (bits .or .u64 (bits .or .u64 (bits .or .u64 (bits .or .u64 (bits .or .u64 (bits .or .u64 (bits .or .u64 0 b0) (b1 * 256)) (b2 * 65536)) (b3 * 16777216)) (b4 * 4294967296)) (b5 * 1099511627776)) (b6 * 281474976710656)) (b7 * 72057594037927936) = q8 b0 b1 b2 b3 b4 b5 b6 b7 := by
  rw [or_sum 0 0 b0 (by decide) (by decide) l0.1 (by omega) (by simp) (by decide), Int.zero_add]
  rw [or_sum 8 b0 (b1 * 256) (by omega) (by omega) (by omega) (by omega) (by omega) (by omega)]
  rw [or_sum 16 _ (b2 * 65536) (by omega) (by omega) (by omega) (by omega) (by omega) (by omega)]
  rw [or_sum 24 _ (b3 * 16777216) (by omega) (by omega) (by omega) (by omega) (by omega) (by omega)]
  rw [or_sum 32 _ (b4 * 4294967296) (by omega) (by omega) (by omega) (by omega) (by omega) (by omega)]
  rw [or_sum 40 _ (b5 * 1099511627776) (by omega) (by omega) (by omega) (by omega) (by omega) (by omega)]
  rw [or_sum 48 _ (b6 * 281474976710656) (by omega) (by omega) (by omega) (by omega) (by omega) (by omega)]
  rw [or_sum 56 _ (b7 * 72057594037927936) (by omega) (by omega) (by omega) (by omega) (by omega) (by omega)]
  unfold q8
  omega
theorem kv_q8 (b0 b1 b2 b3 b4 b5 b6 b7 b8 b9 b10 b11 b12 b13 b14 b15 b16 b17 b18 b19 b20 b21 b22 b23 b24 b25 b26 b27 b28 b29 b30 b31 : Int) : kv b0 b1 b2 b3 b4 b5 b6 b7 b8 b9 b10 b11 b12 b13 b14 b15 b16 b17 b18 b19 b20 b21 b22 b23 b24 b25 b26 b27 b28 b29 b30 b31 = q8 b0 b1 b2 b3 b4 b5 b6 b7 + 18446744073709551616 * (q8 b8 b9 b10 b11 b12 b13 b14 b15 + 18446744073709551616 * (q8 b16 b17 b18 b19 b20 b21 b22 b23 + 18446744073709551616 * q8 b24 b25 b26 b27 b28 b29 b30 b31)) := by
  simp only [kv, valB, q8]; omega
theorem mid51 (j : Nat) (x y m : Int) (hx0 : 0 ≤ x) (hx : x < 2 ^ j) (hx1 : x < 18446744073709551616) (hy : (y * m % 18446744073709551616) % 2 ^ j = 0) : bits .and .u64 (bits .or .u64 x (IntKind.u64.wrap (y * m))) 2251799813685247 = (x + y * m % 18446744073709551616) % 2251799813685248 := by
  rw [IntKind.wrap_u64, or_sum j x _ hx0 hx (by omega) (by omega) hy hx1]
  by_cases h : x + y * m % 18446744073709551616 < 18446744073709551616
  · rw [and51 _ (by omega) h]
  · exfalso
    have h2 : y * m % 18446744073709551616 < 18446744073709551616 := by omega
    have h3 : 0 ≤ y * m % 18446744073709551616 := by omega
    have h4 := or_sum j x (y * m % 18446744073709551616) hx0 hx h3 h2 hy hx1
    obtain ⟨c, hc⟩ := Int.eq_ofNat_of_zero_le hx0
    obtain ⟨d, hd⟩ := Int.eq_ofNat_of_zero_le h3
    rw [hc, hd, u64_or_nat c d (by omega) (by omega)] at h4
    have h5 : c ||| d < 2 ^ 64 := Nat.or_lt_two_pow (by omega) (by omega)
    omega
theorem from_limbs (q0 q1 q2 q3 : Int) (l0 : 0 ≤ q0) (u0 : q0 < 18446744073709551616) (l1 : 0 ≤ q1) (u1 : q1 < 18446744073709551616) (l2 : 0 ≤ q2) (u2 : q2 < 18446744073709551616) (l3 : 0 ≤ q3) (u3 : q3 < 18446744073709551616) :
    bits .and .u64 q0 2251799813685247 = lb (q0 + 18446744073709551616 * (q1 + 18446744073709551616 * (q2 + 18446744073709551616 * q3))) 0 ∧
    bits .and .u64 (bits .or .u64 (q0 / 2251799813685248) (IntKind.u64.wrap (q1 * 8192))) 2251799813685247 = lb (q0 + 18446744073709551616 * (q1 + 18446744073709551616 * (q2 + 18446744073709551616 * q3))) 1 ∧
    bits .and .u64 (bits .or .u64 (q1 / 274877906944) (IntKind.u64.wrap (q2 * 67108864))) 2251799813685247 = lb (q0 + 18446744073709551616 * (q1 + 18446744073709551616 * (q2 + 18446744073709551616 * q3))) 2 ∧
    bits .and .u64 (bits .or .u64 (q2 / 33554432) (IntKind.u64.wrap (q3 * 549755813888))) 2251799813685247 = lb (q0 + 18446744073709551616 * (q1 + 18446744073709551616 * (q2 + 18446744073709551616 * q3))) 3 ∧
    bits .and .u64 (q3 / 4096) 2251799813685247 = lb (q0 + 18446744073709551616 * (q1 + 18446744073709551616 * (q2 + 18446744073709551616 * q3))) 4 := by
  rw [and51 q0 l0 u0, and51 (q3 / 4096) (by omega) (by omega), mid51 13 (q0 / 2251799813685248) q1 8192 (by omega) (by omega) (by omega) (by omega), mid51 26 (q1 / 274877906944) q2 67108864 (by omega) (by omega) (by omega) (by omega), mid51 39 (q2 / 33554432) q3 549755813888 (by omega) (by omega) (by omega) (by omega)]
  unfold lb
  simp only [Int.pow_zero, Int.ediv_one, Int.pow_succ, Int.one_mul]
  refine ⟨?_, ?_, ?_, ?_, ?_⟩ <;> omega
end Go.Proofs.Ytkogejglfgghmac
