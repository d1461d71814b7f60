import Derived.Test.YtkogejglfgghmacPr
import Derived.Test.YtkogejglfgghmacMath
namespace Go.Proofs.Ytkogejglfgghmac
/-! Powers modulo 2^255 - 19. -/
theorem prm_lit : prm = ((57896044618658097711785492504343953926634992332820282019728792003956564819949 : Nat) : Int) := rfl
theorem emod_nat (x : Int) : ∃ m : Nat, m < 57896044618658097711785492504343953926634992332820282019728792003956564819949 ∧ x % prm = (m : Int) := by
  have h := Int.emod_nonneg x (b := prm) (by decide)
  have g := Int.emod_lt_of_pos x (b := prm) (by decide)
  refine ⟨(x % prm).toNat, ?_, ?_⟩
  · rw [prm_lit] at *; omega
  · omega
theorem int_pow_emod (x : Int) (e : Nat) : x ^ e % prm = (x % prm) ^ e % prm := by
  induction e with
  | zero => rw [Int.pow_zero, Int.pow_zero]
  | succ k ih => rw [Int.pow_succ, Int.pow_succ, Int.mul_emod, ih, Int.mul_emod ((x % prm) ^ k), Int.emod_emod]
theorem pow_nat {x : Int} {m : Nat} (h : x % prm = (m : Int)) (e : Nat) : x ^ e % prm = ((m ^ e % 57896044618658097711785492504343953926634992332820282019728792003956564819949 : Nat) : Int) := by
  rw [int_pow_emod, h, ← Int.natCast_pow, prm_lit, ← Int.natCast_emod]
theorem mul_c {x x' y y' : Int} (h : x % prm = x' % prm) (g : y % prm = y' % prm) : x * y % prm = x' * y' % prm := by
  rw [Int.mul_emod, h, g, ← Int.mul_emod]
theorem pow_c {x x' : Int} (h : x % prm = x' % prm) (e : Nat) : x ^ e % prm = x' ^ e % prm := by
  rw [int_pow_emod, h, ← int_pow_emod]
theorem add_c {x x' y y' : Int} (h : x % prm = x' % prm) (g : y % prm = y' % prm) : (x + y) % prm = (x' + y') % prm := by
  rw [Int.add_emod, h, g, ← Int.add_emod]
theorem neg_c {x x' : Int} (h : x % prm = x' % prm) : (-x) % prm = (-x') % prm := by
  have := mul_c (x := -1) (x' := -1) rfl h
  rwa [Int.neg_mul, Int.neg_mul, Int.one_mul, Int.one_mul] at this
theorem zero_iff {x : Int} : x % prm = 0 % prm ↔ prm ∣ x := by
  rw [Int.zero_emod]; exact ⟨Int.dvd_of_emod_eq_zero, Int.emod_eq_zero_of_dvd⟩
theorem mul_zero_iff (x y : Int) : x * y % prm = 0 ↔ x % prm = 0 ∨ y % prm = 0 := by
  obtain ⟨m, hm, em⟩ := emod_nat x
  obtain ⟨n, hn, en⟩ := emod_nat y
  constructor
  · intro h
    rw [Int.mul_emod, em, en, prm_lit, ← Int.natCast_mul, ← Int.natCast_emod] at h
    have h' : m * n % 57896044618658097711785492504343953926634992332820282019728792003956564819949 = 0 := by exact_mod_cast h
    rcases pP.euclid (Nat.dvd_of_mod_eq_zero h') with d | d
    · left; rw [em]; have := Nat.eq_zero_of_dvd_of_lt d hm; rw [this]; rfl
    · right; rw [en]; have := Nat.eq_zero_of_dvd_of_lt d hn; rw [this]; rfl
  · rintro (h | h)
    · rw [Int.mul_emod, h, Int.zero_mul]; rfl
    · rw [Int.mul_emod, h, Int.mul_zero]; rfl
theorem fermat_int {x : Int} (h : x % prm ≠ 0) : x ^ 57896044618658097711785492504343953926634992332820282019728792003956564819948 % prm = 1 := by
  obtain ⟨m, hm, em⟩ := emod_nat x
  have hd : ¬ 57896044618658097711785492504343953926634992332820282019728792003956564819949 ∣ m := by
    intro d
    have := Nat.eq_zero_of_dvd_of_lt d hm
    apply h; rw [em, this]; rfl
  have f := fermat pP hd
  rw [show (57896044618658097711785492504343953926634992332820282019728792003956564819949 - 1 : Nat) = 57896044618658097711785492504343953926634992332820282019728792003956564819948 by decide] at f
  rw [pow_nat em]
  exact congrArg (Nat.cast : Nat → Int) f
theorem one_c : (1 : Int) % prm = 1 := by decide
theorem pow_zero_c {x : Int} (h : x % prm = 0) {e : Nat} (he : 0 < e) : x ^ e % prm = 0 := by
  obtain ⟨k, rfl⟩ : ∃ k, e = k + 1 := ⟨e - 1, by omega⟩
  rw [Int.pow_succ, Int.mul_emod, h, Int.mul_zero]; rfl
/-- The power P is the number. -/
theorem pow_P (x : Int) : x ^ 57896044618658097711785492504343953926634992332820282019728792003956564819949 % prm = x % prm := by
  by_cases h : x % prm = 0
  · rw [pow_zero_c h (by decide), h]
  · rw [show (57896044618658097711785492504343953926634992332820282019728792003956564819949 : Nat) = 57896044618658097711785492504343953926634992332820282019728792003956564819948 + 1 by decide, Int.pow_succ, Int.mul_emod, fermat_int h, Int.one_mul, Int.emod_emod]
theorem inv_mul {x : Int} (h : x % prm ≠ 0) : x * x ^ 57896044618658097711785492504343953926634992332820282019728792003956564819947 % prm = 1 % prm := by
  rw [Int.mul_comm, ← Int.pow_succ]
  exact (fermat_int h).trans one_c.symm
theorem inv_inv (x : Int) : (x ^ 57896044618658097711785492504343953926634992332820282019728792003956564819947) ^ 57896044618658097711785492504343953926634992332820282019728792003956564819947 % prm = x % prm := by
  by_cases h : x % prm = 0
  · rw [pow_zero_c (pow_zero_c h (by decide)) (by decide), h]
  · generalize hy : x ^ 57896044618658097711785492504343953926634992332820282019728792003956564819947 = y
    have xy : x * y % prm = 1 % prm := by rw [← hy]; exact inv_mul h
    have y0 : y % prm ≠ 0 := by
      intro e
      rw [Int.mul_emod, e, Int.mul_zero, one_c] at xy
      exact absurd xy (by decide)
    have yy := inv_mul y0
    generalize y ^ 57896044618658097711785492504343953926634992332820282019728792003956564819947 = z at *
    have a : x * y * z % prm = 1 * z % prm := mul_c xy rfl
    have b : x * (y * z) % prm = x * 1 % prm := mul_c rfl yy
    rw [Int.mul_assoc, b, Int.mul_one, Int.one_mul] at a
    exact a.symm
end Go.Proofs.Ytkogejglfgghmac
