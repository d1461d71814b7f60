import Derived.Test.YtkogejglfgghmacMc
namespace Go.Proofs.Ytkogejglfgghmac
open Go.RowKit

/-! Sums of digits. -/
def sumN : Nat → (Nat → Int) → Int
  | 0, _ => 0
  | n + 1, f => sumN n f + 65536 ^ n * f n
def upd (g : Nat → Int) (k : Nat) (v : Int) : Nat → Int := fun i => if i = k then g i + v else g i
theorem sumN_upd_out (g : Nat → Int) (k : Nat) (v : Int) : ∀ n, n ≤ k → sumN n (upd g k v) = sumN n g
  | 0, _ => rfl
  | n + 1, h => by
    simp only [sumN]
    rw [sumN_upd_out g k v n (by omega)]
    have : upd g k v n = g n := by simp only [upd]; rw [if_neg (by omega)]
    rw [this]
theorem sumN_upd (g : Nat → Int) (k : Nat) (v : Int) : ∀ n, k < n → sumN n (upd g k v) = sumN n g + 65536 ^ k * v
  | n + 1, h => by
    simp only [sumN]
    by_cases e : k = n
    · subst e
      rw [sumN_upd_out g k v k (Nat.le_refl _)]
      have : upd g k v k = g k + v := by simp [upd]
      rw [this, Int.mul_add]
      omega
    · rw [sumN_upd g k v n (by omega)]
      have : upd g k v n = g n := by simp only [upd]; rw [if_neg (by omega)]
      rw [this]
      omega
/-- The product so far: rows up to i, and of row i the places up to j. -/
def prt (x y : Nat → Int) (i j : Nat) : Int := sumN i x * sumN 16 y + 65536 ^ i * (x i * sumN j y)
theorem prt_zero (x y : Nat → Int) : prt x y 0 0 = 0 := by simp [prt, sumN]
theorem prt_next (x y : Nat → Int) (i : Nat) : prt x y (i + 1) 0 = prt x y i 16 := by
  simp only [prt, sumN, Int.mul_zero, Int.add_zero, Int.add_mul]
  rw [Int.mul_assoc]
theorem prt_step (x y : Nat → Int) (i j : Nat) : prt x y i (j + 1) = prt x y i j + 65536 ^ (i + j) * (x i * y j) := by
  simp only [prt, sumN, Int.mul_add, Int.pow_add]
  have e : 65536 ^ i * (x i * (65536 ^ j * y j)) = 65536 ^ i * 65536 ^ j * (x i * y j) := by
    rw [Int.mul_left_comm (x i), ← Int.mul_assoc]
  rw [e]
  omega
theorem prt_end (x y : Nat → Int) : prt x y 16 0 = sumN 16 x * sumN 16 y := by simp [prt, sumN]
/-- 2^256 is 38. -/
theorem pow_wrap (k : Nat) (v : Int) : ∃ q : Int, 65536 ^ k * (38 * v) + prm * q = 65536 ^ (k + 16) * v := by
  refine ⟨2 * (65536 ^ k * v), ?_⟩
  rw [Int.pow_add, show ((65536 : Int) ^ 16) = 115792089237316195423570985008687907853269984665640564039457584007913129639936 from by decide]
  rw [Int.mul_left_comm (65536 ^ k) 38 v, Int.mul_assoc, Int.mul_left_comm (65536 ^ k)]
  unfold prm
  generalize 65536 ^ k * v = z
  omega
theorem mul38 (a b : Int) (ha0 : 0 ≤ a) (ha : a < 65536) (hb0 : 0 ≤ b) (hb : b < 65536) : 0 ≤ a * b ∧ a * b ≤ 4294836225 :=
  ⟨Int.mul_nonneg ha0 hb0, by have := Int.mul_le_mul (show a ≤ 65535 by omega) (show b ≤ 65535 by omega) hb0 (by decide); omega⟩
theorem sumN_v16 (g : Nat → Int) : sumN 16 g = v16 (g 0) (g 1) (g 2) (g 3) (g 4) (g 5) (g 6) (g 7) (g 8) (g 9) (g 10) (g 11) (g 12) (g 13) (g 14) (g 15) := by
  simp only [sumN, v16, valL, Int.pow_zero, Int.pow_succ, Int.one_mul]
  omega
theorem sumN_dg (m : Int) (h0 : 0 ≤ m) (h1 : m < 115792089237316195423570985008687907853269984665640564039457584007913129639936) : sumN 16 (dg m) = m := by
  simp only [sumN, dg, Int.pow_zero, Int.pow_succ, Int.one_mul, Int.ediv_one]
  omega
theorem mod_of_sum {a b q : Int} (h : a + prm * q = b) : a % prm = b % prm := by
  rw [← h, Int.add_mul_emod_self_left]
end Go.Proofs.Ytkogejglfgghmac
