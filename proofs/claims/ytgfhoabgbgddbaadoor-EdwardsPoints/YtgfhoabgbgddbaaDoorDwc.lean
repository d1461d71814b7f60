import Derived.Test.YtgfhoabgbgddbaaDoorDwb
namespace Go.Proofs.YtgfhoabgbgddbaaDoor
set_option maxRecDepth 100000

/-- Base. -/
def bp : E1 := ⟨48124660576694895147914813076284018110470804336376098912894897995932653867602, 46316835694926478169428394003475163141307993866256225615783033603165251855960, by decide, by decide, by unfold Zp; decide +kernel⟩
theorem bp_tx : tx bp = 15112221349535400772501151409588531511454012693041857206046113283949847762202 := by decide +kernel
theorem bp_y : bp.y = 46316835694926478169428394003475163141307993866256225615783033603165251855960 := rfl
theorem bp_ne : bp ≠ ze := fun h => by
  have := congrArg EP.y h
  revert this
  decide
theorem bp_order : ml ell bp = ze := ell_kills nsq_1 (Or.inl ⟨rfl, ec1_eq⟩) (by unfold Zp; decide +kernel) (by unfold Zp; decide +kernel)
/-- A point of order eight. -/
def t8 : E1 := ⟨55188659117513257062467267217118295137698188065244968500265048394206261417927, 2707385501144840649318225287225658788936804267575313519463743609750303402022, by decide, by decide, by unfold Zp; decide +kernel⟩
def t4 : E1 := ⟨57896044618658097711785492504343953926634992332820282019728792003956564819948, 0, by decide, by decide, by unfold Zp; decide +kernel⟩
def t2 : E1 := ⟨0, 57896044618658097711785492504343953926634992332820282019728792003956564819948, by decide, by decide, by unfold Zp; decide +kernel⟩
theorem t8_two : pl t8 t8 = t4 := EP.add_is nsq_1 (by unfold Zp; decide +kernel) (by unfold Zp; decide +kernel)
theorem t4_two : pl t4 t4 = t2 := EP.add_is nsq_1 (by unfold Zp; decide +kernel) (by unfold Zp; decide +kernel)
theorem t2_two : pl t2 t2 = ze := EP.add_is nsq_1 (by unfold Zp; decide +kernel) (by unfold Zp; decide +kernel)
theorem ml_t4 : ml 2 t8 = t4 := by rw [show 2 = 2 * 1 from rfl, ← ml_two, ml_one, t8_two]
theorem ml_t2 : ml 4 t8 = t2 := by rw [show 4 = 2 * 2 from rfl, ← ml_two, ml_t4, t4_two]
theorem ml_t1 : ml 8 t8 = ze := by rw [show 8 = 2 * 4 from rfl, ← ml_two, ml_t2, t2_two]
theorem t2_ne : t2 ≠ ze := fun h => by
  have := congrArg EP.y h
  revert this
  decide
theorem gcd8 {i : Nat} (h : i < 8) : i = 0 ∨ ∃ k, 4 = k * Nat.gcd 8 i := by
  match i, h with
  | 0, _ => exact Or.inl rfl
  | 1, _ => exact Or.inr ⟨4, by decide⟩
  | 2, _ => exact Or.inr ⟨2, by decide⟩
  | 3, _ => exact Or.inr ⟨4, by decide⟩
  | 4, _ => exact Or.inr ⟨1, by decide⟩
  | 5, _ => exact Or.inr ⟨4, by decide⟩
  | 6, _ => exact Or.inr ⟨2, by decide⟩
  | 7, _ => exact Or.inr ⟨4, by decide⟩
theorem t8_small {i : Nat} (h : i < 8) (g : ml i t8 = ze) : i = 0 := by
  have hg : ml (Nat.gcd 8 i) t8 = ze := EP.mul_gcd nsq_1 8 i ml_t1 g
  rcases gcd8 h with e | ⟨k, e⟩
  · exact e
  · exact (t2_ne (by rw [← ml_t2, e, ← ml_ml, hg, ml_ze])).elim
theorem bp_div {m : Nat} (g : ml m bp = ze) : ell ∣ m := by
  have hg : ml (Nat.gcd ell m) bp = ze := EP.mul_gcd nsq_1 ell m bp_order g
  rcases ell_prime.2 _ (Nat.gcd_dvd_left ell m) with e | e
  · rw [e, ml_one] at hg; exact (bp_ne hg).elim
  · have := Nat.gcd_dvd_right ell m; rw [e] at this; exact this
theorem ml_sub {P : E1} {a b : Nat} (h : ml a P = ml b P) (hl : a ≤ b) : ml (b - a) P = ze := by
  have e : b = (b - a) + a := by omega
  rw [e, ml_add] at h
  have : pl ze (ml a P) = pl (ml (b - a) P) (ml a P) := by rw [ze_pl]; exact h
  exact (pl_cancel this).symm
theorem ell_big : 8 < ell := by decide
theorem bp_eight {j k : Nat} (hj : j < ell) (hk : k < ell) (h : ml (8 * j) bp = ml (8 * k) bp) : j = k := by
  have aux : ∀ j k : Nat, k < ell → j ≤ k → ml (8 * j) bp = ml (8 * k) bp → j = k := by
    intro j k hk hl h
    have hd := bp_div (ml_sub h (by omega))
    rw [← Nat.mul_sub] at hd
    rcases ell_prime.euclid hd with g | g
    · exact (not_dvd_of_lt (by decide) ell_big g).elim
    · rcases Nat.eq_zero_or_pos (k - j) with e | e
      · omega
      · exact (not_dvd_of_lt e (by omega) g).elim
  rcases Nat.le_total j k with hl | hl
  · exact aux j k hk hl h
  · exact (aux k j hj hl h.symm).symm
theorem t8_inj {i j : Nat} (hi : i < 8) (hj : j < 8) (h : ml i t8 = ml j t8) : i = j := by
  rcases Nat.le_total i j with hl | hl
  · have := t8_small (by omega) (ml_sub h hl); omega
  · have := t8_small (by omega) (ml_sub h.symm hl); omega
/-! So many places, so many points. -/
theorem pigeon : ∀ (m n : Nat) (f : Nat → Nat), (∀ i, i < n → f i < m) → (∀ i j, i < n → j < n → f i = f j → i = j) → n ≤ m
  | 0, n, f, h, _ => by
    rcases Nat.eq_zero_or_pos n with e | e
    · omega
    · exact absurd (h 0 e) (by omega)
  | m + 1, n, f, h, hi => by
    by_cases hh : ∃ k, k < n ∧ f k = m
    · obtain ⟨k, hk, hf⟩ := hh
      have : n - 1 ≤ m := pigeon m (n - 1) (fun i => if i < k then f i else f (i + 1)) (by
          intro i hin
          show (if i < k then f i else f (i + 1)) < m
          split
          · rename_i g
            have h1 := h i (by omega)
            rcases Nat.lt_or_ge (f i) m with q | q
            · exact q
            · have := hi i k (by omega) hk (by omega); omega
          · rename_i g
            have h1 := h (i + 1) (by omega)
            rcases Nat.lt_or_ge (f (i + 1)) m with q | q
            · exact q
            · have := hi (i + 1) k (by omega) hk (by omega); omega) (by
          intro i j hin hjn he
          have he : (if i < k then f i else f (i + 1)) = (if j < k then f j else f (j + 1)) := he
          split at he <;> split at he
          · exact hi i j (by omega) (by omega) he
          · have := hi i (j + 1) (by omega) (by omega) he; omega
          · have := hi (i + 1) j (by omega) (by omega) he; omega
          · have := hi (i + 1) (j + 1) (by omega) (by omega) he; omega)
      omega
    · have : n ≤ m := pigeon m n f (by
          intro i hin
          have h1 := h i hin
          rcases Nat.lt_or_ge (f i) m with q | q
          · exact q
          · exact (hh ⟨i, hin, by omega⟩).elim) hi
      omega
/-- A point's number among all. -/
def code (Q : E1) : Nat := (2 * Q.y + tx Q % 2).toNat
theorem code_lt (Q : E1) : code Q < 115792089237316195423570985008687907853269984665640564039457584007913129639898 := by
  have h1 := y_bd Q
  have h2 : 0 ≤ tx Q % 2 ∧ tx Q % 2 < 2 := ⟨Int.emod_nonneg _ (by decide), Int.emod_lt_of_pos _ (by decide)⟩
  rw [prm_is] at h1
  unfold code
  omega
theorem code_inj {P Q : E1} (h : code P = code Q) : P = Q := by
  have h1 := y_bd P
  have h2 := y_bd Q
  have h3 : 0 ≤ tx P % 2 ∧ tx P % 2 < 2 := ⟨Int.emod_nonneg _ (by decide), Int.emod_lt_of_pos _ (by decide)⟩
  have h4 : 0 ≤ tx Q % 2 ∧ tx Q % 2 < 2 := ⟨Int.emod_nonneg _ (by decide), Int.emod_lt_of_pos _ (by decide)⟩
  unfold code at h
  have e1 : P.y = Q.y := by omega
  have e2 : tx P % 2 = tx Q % 2 := by omega
  exact pb_inj (by unfold pb; rw [e1, e2])
theorem gone_t8 (m i : Nat) : ml (8 * m) (ml i t8) = ze := by rw [ml_ml, Nat.mul_assoc, Nat.mul_comm 8, ← ml_ml, ml_t1, ml_ze]
theorem gone_bp (m j : Nat) : ml (m * ell) (ml j bp) = ze := by rw [ml_ml, Nat.mul_right_comm, ← ml_ml, bp_order, ml_ze]
theorem zero_or_one {b : Nat} (h : b < 2) : b = 0 ∨ b = 1 := by omega
/-- Eight times the order takes every point to the neutral one. -/
theorem all_gone (P : E1) : ml (8 * ell) P = ze := by
  by_cases hne : ml (8 * ell) P = ze
  · exact hne
  exfalso
  have key := pigeon 115792089237316195423570985008687907853269984665640564039457584007913129639898 (16 * ell) (fun k => code (pl (pl (ml (k % 8) t8) (ml (k / 8 % ell) bp)) (ml (k / 8 / ell) P))) (fun k _ => code_lt _) (by
    intro k l hk hl he
    have he := code_inj he
    have e0 : 0 < ell := by decide
    have bk : k / 8 / ell < 2 := Nat.div_lt_of_lt_mul (Nat.div_lt_of_lt_mul (by omega))
    have bl : l / 8 / ell < 2 := Nat.div_lt_of_lt_mul (Nat.div_lt_of_lt_mul (by omega))
    have jk : k / 8 % ell < ell := Nat.mod_lt _ e0
    have jl : l / 8 % ell < ell := Nat.mod_lt _ e0
    have ik : k % 8 < 8 := Nat.mod_lt _ (by decide)
    have il : l % 8 < 8 := Nat.mod_lt _ (by decide)
    have dk := Nat.div_add_mod (k / 8) ell
    have dl := Nat.div_add_mod (l / 8) ell
    have d8k := Nat.div_add_mod k 8
    have d8l := Nat.div_add_mod l 8
    have h8 : ∀ b, ml (8 * ell) (ml b P) = ml b (ml (8 * ell) P) := fun b => by rw [ml_ml, ml_ml, Nat.mul_comm]
    generalize k / 8 / ell = b at *
    generalize l / 8 / ell = b' at *
    generalize k / 8 % ell = j at *
    generalize l / 8 % ell = j' at *
    generalize k % 8 = i at *
    generalize l % 8 = i' at *
    have hm := congrArg (ml (8 * ell)) he
    simp only [ml_pl, gone_t8, gone_bp, ze_pl, h8] at hm
    have hb : b = b' := by
      rcases zero_or_one bk with rfl | rfl <;> rcases zero_or_one bl with rfl | rfl
      · rfl
      · rw [ml_zero, ml_one] at hm; exact (hne hm.symm).elim
      · rw [ml_zero, ml_one] at hm; exact (hne hm).elim
      · rfl
    subst hb
    have hc := pl_cancel he
    have h3 := congrArg (ml 8) hc
    have g8 : ∀ i, ml 8 (ml i t8) = ze := fun i => gone_t8 1 i
    simp only [ml_pl, g8, ze_pl, ml_ml] at h3
    have hj := bp_eight jk jl h3
    subst hj
    have hi := t8_inj ik il (pl_cancel hc)
    subst hi
    rw [← d8k, ← d8l, ← dk, ← dl])
  revert key
  unfold ell
  decide
end Go.Proofs.YtgfhoabgbgddbaaDoor
