import Derived.Test.YtcgicojdmpjalabPld
namespace Go.Proofs.Ytcgicojdmpjalab
open Go Go.RowKit Go.Sort
attribute [local go_sem] setCell_drewN alloc_drewN
theorem stI_le (b : Nat) : -1800000000 ≤ stI b ∧ stI b ≤ 1800000000 := by
  unfold stI
  split
  · rename_i h
    have := stp_le h
    generalize (b / 2 ^ 63 % 2 == 1) = s
    cases s
    · rw [sg_false]; omega
    · rw [sg_true]; omega
  · omega
theorem stI_out {b : Nat} (h : stE b = 91) : stI b = 0 := by
  unfold stE at h
  unfold stI
  split at h
  · omega
  · rename_i x; rw [if_neg x]
theorem stE_cases (b : Nat) : stE b = 0 ∧ b % 2 ^ 63 ≤ 0x4066800000000000 ∨ stE b = 91 ∧ ¬ b % 2 ^ 63 ≤ 0x4066800000000000 := by
  unfold stE
  by_cases h : b % 2 ^ 63 ≤ 0x4066800000000000
  · exact .inl ⟨if_pos h, h⟩
  · exact .inr ⟨if_neg h, h⟩
/-- Steps of Degrees. -/
theorem deg_steps {n : Int} (h1 : -1800000000 ≤ n) (h2 : n ≤ 1800000000) : ∃ z, floatBits .quo .f64 (floatOfInt .f64 n) 4711630319722168320 = some z ∧ z < 2 ^ 64 ∧ stI z = n ∧ stE z = 0 := by
  show ∃ z, Ieee.double.div (Ieee.double.nearest (decide (n < 0)) n.natAbs 0) 4711630319722168320 = some z ∧ _
  by_cases h0 : n.natAbs = 0
  · rw [h0, decide_eq_false (by omega)]
    refine ⟨_, deg_zero.1, by decide, ?_, ?_⟩
    · unfold stI; rw [if_pos (by decide), show 0 % 2 ^ 63 = 0 from rfl, deg_zero.2]; simp [sg]; omega
    · unfold stE; rw [if_pos (by decide)]
  · have hn : sg (decide (n < 0)) n.natAbs = n := by
      by_cases hn : n < 0
      · rw [decide_eq_true hn, sg_true]; omega
      · rw [decide_eq_false hn, sg_false]; omega
    by_cases hm : n.natAbs = 1800000000
    · rw [hm] at hn ⊢
      generalize decide (n < 0) = s at *
      obtain ⟨d1, d2⟩ := deg_most s
      have e1 : w180 s % 2 ^ 63 = 0x4066800000000000 := by cases s <;> rfl
      have e2 : (w180 s / 2 ^ 63 % 2 == 1) = s := by cases s <;> rfl
      refine ⟨_, d1, by cases s <;> decide, ?_, ?_⟩
      · unfold stI; rw [e1, e2, if_pos (by decide), d2]; exact hn
      · unfold stE; rw [e1, if_pos (by decide)]
    · obtain ⟨z, d1, d2, d3, d4, d5⟩ := deg_back (decide (n < 0)) h0 (by omega)
      refine ⟨z, d1, d2, ?_, ?_⟩
      · unfold stI; rw [if_pos d4, d3, d5]; exact hn
      · unfold stE; rw [if_pos d4]
/-- The opposite. -/
theorem neg_steps {b : Nat} (hb : b < 2 ^ 64) : Op.negFloat .f64 b < 2 ^ 64 ∧ stE (Op.negFloat .f64 b) = stE b ∧ stI (Op.negFloat .f64 b) = -stI b := by
  have e0 : Op.negFloat .f64 b = b ^^^ 2 ^ 63 := rfl
  rw [e0]
  have e1 : (b ^^^ 2 ^ 63) % 2 ^ 63 = b % 2 ^ 63 := by rw [Nat.xor_mod_two_pow, Nat.mod_self, Nat.xor_zero]
  have e2 : (b ^^^ 2 ^ 63) / 2 ^ 63 = b / 2 ^ 63 ^^^ 1 := by rw [Nat.xor_div_two_pow, Nat.div_self (by decide)]
  have e3 : ((b ^^^ 2 ^ 63) / 2 ^ 63 % 2 == 1) = !(b / 2 ^ 63 % 2 == 1) := by
    rw [e2]
    have : b / 2 ^ 63 = 0 ∨ b / 2 ^ 63 = 1 := by omega
    rcases this with x | x <;> rw [x] <;> rfl
  refine ⟨Nat.xor_lt_two_pow hb (by decide), ?_, ?_⟩
  · unfold stE; rw [e1]
  · unfold stI; rw [e1, e3]
    split
    · cases (b / 2 ^ 63 % 2 == 1)
      · rw [Bool.not_false, sg_true, sg_false]
      · rw [Bool.not_true, sg_true, sg_false]; omega
    · rfl
theorem stp_val {r q : Nat} (h : val r ≤ val q) : stp r ≤ stp q := rnd_mono (Nat.mul_le_mul_right _ h)
theorem stp_nil {r : Nat} (h : val r = 0) : stp r = 0 := by
  unfold stp; rw [h, Nat.zero_mul]; unfold rnd; simp
theorem mono_aux {s t : Bool} {r q : Nat} (h : sg s (val r) ≤ sg t (val q)) : sg s (stp r) ≤ sg t (stp q) := by
  have m1 := @stp_val r q
  have m2 := @stp_val q r
  have n1 := @stp_nil r
  have n2 := @stp_nil q
  cases s <;> cases t
  · rw [sg_false, sg_false] at *; have := m1 (by omega); omega
  · rw [sg_false, sg_true] at *; have := n1 (by omega); have := n2 (by omega); omega
  · rw [sg_true, sg_false] at *; omega
  · rw [sg_true, sg_true] at *; have := m2 (by omega); omega
/-- The greater degrees have no fewer steps. -/
theorem mono_steps {b c : Nat} (h1 : b % 2 ^ 63 ≤ 0x4066800000000000) (h2 : c % 2 ^ 63 ≤ 0x4066800000000000) (h : FloatKind.f64.format.order b c = some .lt ∨ FloatKind.f64.format.order b c = some .eq) : stI b ≤ stI c := by
  have e := order_fin (a := b) (b := c) (Nat.lt_of_le_of_lt h1 (by decide)) (Nat.lt_of_le_of_lt h2 (by decide))
  have hle : sg (b / 2 ^ 63 % 2 == 1) (val (b % 2 ^ 63)) ≤ sg (c / 2 ^ 63 % 2 == 1) (val (c % 2 ^ 63)) := by
    rcases h with h | h
    · exact Int.le_of_lt (Int.compare_eq_lt.1 (Option.some.inj (e.symm.trans h)))
    · exact Int.le_of_eq (Int.compare_eq_eq.1 (Option.some.inj (e.symm.trans h)))
  unfold stI
  rw [if_pos h1, if_pos h2]
  exact mono_aux hle
theorem in_taken {b : Nat} (h : b % 2 ^ 63 ≤ 0x4066800000000000) : ∃ o p, FloatKind.f64.format.order b 13863909240395005952 = some o ∧ FloatKind.f64.format.order b 4640537203540230144 = some p ∧ (o = .gt ∨ o = .eq) ∧ (p = .lt ∨ p = .eq) := by
  obtain ⟨o, p, h1, h2, h3, h4⟩ := taken h
  refine ⟨o, p, h1, h2, ?_, ?_⟩
  · cases o
    · cases h3
    · exact .inr rfl
    · exact .inl rfl
  · cases p
    · exact .inl rfl
    · exact .inr rfl
    · cases h4
theorem in_refused {b : Nat} (h : ¬ b % 2 ^ 63 ≤ 0x4066800000000000) :
    FloatKind.f64.format.order b 13863909240395005952 = none ∨ FloatKind.f64.format.order b 13863909240395005952 = some .lt ∨ (FloatKind.f64.format.order b 13863909240395005952 = some .gt ∧ FloatKind.f64.format.order b 4640537203540230144 = some .gt) := by
  have e := order_180 b false
  have e' := order_180 b true
  rw [show Ieee.double.order b (w180 false) = FloatKind.f64.format.order b 4640537203540230144 from rfl] at e
  rw [show Ieee.double.order b (w180 true) = FloatKind.f64.format.order b 13863909240395005952 from rfl] at e'
  by_cases hx : 2047 * 2 ^ 52 < b % 2 ^ 63
  · rw [if_pos hx] at e'
    exact .inl e'
  · rw [if_neg hx] at e e'
    right
    rw [e, e']
    cases (b / 2 ^ 63 % 2 == 1)
    · right
      simp only [Bool.false_eq_true, if_true, if_false]
      exact ⟨trivial, by rw [Nat.compare_eq_gt.2 (by omega)]⟩
    · left
      simp only [if_true]
      rw [Nat.compare_eq_lt.2 (by omega)]
end Go.Proofs.Ytcgicojdmpjalab
