import Derived.Lib.ItoaNum
import Derived.Lib.Repeat
namespace Go.Proofs.YtlbcdjflcghkeaaDoor
set_option maxRecDepth 100000
open Go Go.Lib
/-- The five digits of a number below 100000. -/
def dig5 (n : Nat) : List UInt8 := [dg n 4, dg n 3, dg n 2, dg n 1, dg n 0]
theorem dg_zero (n j : Nat) (h : n < 10 ^ j) : dg n j = 48 := by
  unfold dg
  rw [Nat.div_eq_of_lt h]
  rfl
theorem nd_cases (n : Nat) (h : n < 100000) : (n < 10 ∧ nDigits n = 1) ∨ (10 ≤ n ∧ n < 100 ∧ nDigits n = 2) ∨ (100 ≤ n ∧ n < 1000 ∧ nDigits n = 3) ∨ (1000 ≤ n ∧ n < 10000 ∧ nDigits n = 4) ∨ (10000 ≤ n ∧ nDigits n = 5) := by
  by_cases h1 : n < 10
  · exact .inl ⟨h1, nDigits_small h1⟩
  by_cases h2 : n < 100
  · exact .inr (.inl ⟨by omega, h2, nDigits_unique 1 n (by omega) (by omega)⟩)
  by_cases h3 : n < 1000
  · exact .inr (.inr (.inl ⟨by omega, h3, nDigits_unique 2 n (by omega) (by omega)⟩))
  by_cases h4 : n < 10000
  · exact .inr (.inr (.inr (.inl ⟨by omega, h4, nDigits_unique 3 n (by omega) (by omega)⟩)))
  · exact .inr (.inr (.inr (.inr ⟨by omega, nDigits_unique 4 n (by omega) (by omega)⟩)))
theorem pad5 (n : Nat) (h : n < 100000) : List.replicate (5 - (decDigits n).length) 48 ++ decDigits n = dig5 n := by
  rw [decDigits_length, decDigits_eq]
  unfold dig5
  rcases nd_cases n h with ⟨a, e⟩ | ⟨a, b, e⟩ | ⟨a, b, e⟩ | ⟨a, b, e⟩ | ⟨a, e⟩ <;> rw [e]
  · rw [dg_zero n 4 (by omega), dg_zero n 3 (by omega), dg_zero n 2 (by omega), dg_zero n 1 (by omega)]; rfl
  · rw [dg_zero n 4 (by omega), dg_zero n 3 (by omega), dg_zero n 2 (by omega)]; rfl
  · rw [dg_zero n 4 (by omega), dg_zero n 3 (by omega)]; rfl
  · rw [dg_zero n 4 (by omega)]; rfl
  · rfl
theorem dec_le5 (n : Nat) (h : n < 100000) : 1 ≤ (decDigits n).length ∧ (decDigits n).length ≤ 5 := by
  rw [decDigits_length]
  rcases nd_cases n h with ⟨a, e⟩ | ⟨a, b, e⟩ | ⟨a, b, e⟩ | ⟨a, b, e⟩ | ⟨a, e⟩ <;> omega
end Go.Proofs.YtlbcdjflcghkeaaDoor
