import Derived.Test.YtgfhoabgbgddbaaDoorDwa
namespace Go.Proofs.YtgfhoabgbgddbaaDoor
set_option maxRecDepth 100000

/-- The point of two numbers. -/
theorem mkE_on {X Y : Int} (h : Zp (Y * Y - X * X - 1 + ec1 * X * X * Y * Y)) : Zp ((ii * X % prm) * (ii * X % prm) + (Y % prm) * (Y % prm) - 1 - ec1 * (ii * X % prm) * (ii * X % prm) * (Y % prm) * (Y % prm)) := by
  have h1 := zp_emod (ii * X)
  have h2 := zp_emod Y
  have h3 := ii_sq
  generalize ii * X % prm = x at *
  generalize Y % prm = y at *
  generalize ii = i at *
  generalize ec1 = c at *
  exact zp_lin4 1 ((1 - c * y * y) * (x + i * X)) ((1 - c * y * y) * (X * X)) ((1 + c * X * X) * (y + Y)) h h1 h3 h2 (by grind)
def mkE (X Y : Int) (h : Zp (Y * Y - X * X - 1 + ec1 * X * X * Y * Y)) : E1 := ⟨ii * X % prm, Y % prm, Int.emod_emod _ _, Int.emod_emod _ _, mkE_on h⟩
theorem mkE_tx {X Y : Int} (h : Zp (Y * Y - X * X - 1 + ec1 * X * X * Y * Y)) : tx (mkE X Y h) = X % prm := by
  have h1 := zp_emod (ii * X)
  have h3 := ii_sq
  show -(ii * (ii * X % prm)) % prm = X % prm
  rw [← zp_sub]
  generalize ii * X % prm = x at *
  generalize ii = i at *
  exact zp_lin2 (-i) (-X) h1 h3 (by grind)
theorem mkE_y {X Y : Int} (h : Zp (Y * Y - X * X - 1 + ec1 * X * X * Y * Y)) : (mkE X Y h).y = Y % prm := rfl
theorem den_y (y : Int) : ¬ Zp (1 - ec1 * (y * y)) := fun h => by
  have hy : ¬ Zp y := fun g => zp_one (zp_lin2 1 (ec1 * y) h g (by grind))
  have h2 := iv_mul hy
  have n := nsq_1 (iv y)
  generalize iv y = z at *
  generalize ec1 = c at *
  exact n (zp_lin2 (z * z) (c * (y * z + 1)) h h2 (by grind))
/-- What x times itself is, by y. -/
def qy (y : Int) : Int := (y * y - 1) * iv (1 - ec1 * (y * y))
theorem qy_spec (y : Int) : Zp (qy y * (1 - ec1 * (y * y)) - (y * y - 1)) := by
  have h := iv_mul (den_y y)
  unfold qy
  generalize iv (1 - ec1 * (y * y)) = z at *
  generalize ec1 = c at *
  exact zp_lin1 (y * y - 1) h (by grind)
theorem qy_cong {y z : Int} (h : Zp (y - z)) : Zp (qy y - qy z) := by
  have hs : Zp (y * y - z * z) := zp_lin1 (y + z) h (by grind)
  have hi : Zp (iv (1 - ec1 * (y * y)) - iv (1 - ec1 * (z * z))) := iv_cong (by generalize ec1 = c; exact zp_lin1 (-c) hs (by grind))
  unfold qy
  generalize iv (1 - ec1 * (y * y)) = a at *
  generalize iv (1 - ec1 * (z * z)) = b at *
  exact zp_lin2 a (z * z - 1) hs hi (by grind)
theorem qy_is {y a u : Int} (hu : ¬ Zp u) (h1 : Zp (a - u * (y * y - 1))) (b : Int) (h2 : Zp (b - u * (1 - ec1 * (y * y)))) : Zp (a * iv b - qy y) := by
  have h3 := iv_mul hu
  have h4 : Zp (iv b - iv u * iv (1 - ec1 * (y * y))) := by rw [← iv_prod]; exact iv_cong h2
  unfold qy
  generalize iv (1 - ec1 * (y * y)) = z at *
  generalize iv b = w at *
  generalize iv u = v at *
  exact zp_lin3 w ((y * y - 1) * z) (u * (y * y - 1)) h1 h3 h4 (by grind)
theorem tx_qy (P : E1) : Zp (tx P * tx P - qy P.y) := by
  have h1 := tw_on P
  have h2 := qy_spec P.y
  have hd := den_y P.y
  generalize qy P.y = q at *
  generalize tx P = t at *
  generalize P.y = y at *
  generalize ec1 = c at *
  exact zp_cancel (a := 1 - c * (y * y)) (zp_lin2 (-1) (-1) h1 h2 (by grind)) hd
theorem rok_of_sq {a r : Int} (h : Zp (r * r - a)) : rok a = true := by rw [← rok_c (zp_sub.1 h)]; exact rok_sq r
theorem sq_cases {a b : Int} (h : Zp (a * a - b * b)) : Zp (a - b) ∨ Zp (a + b) := zp_or (zp_lin1 1 h (by grind))
theorem zp_two_of {a : Int} (h0 : 0 ≤ a) (h1 : a < prm + prm) (h : Zp a) : a = 0 ∨ a = prm := by
  by_cases g : a < prm
  · exact Or.inl (zp_small h0 g h)
  · have hp : Zp prm := by unfold Zp; decide
    have := zp_small (a := a - prm) (by omega) (by omega) (zp_lin2 1 (-1) h hp (by grind))
    exact Or.inr (by omega)
theorem neg_par {r : Int} (h : ¬ r % prm = 0) (he : r % prm % 2 = 0) : -r % prm % 2 = 1 := by
  have b0 : 0 ≤ r % prm := Int.emod_nonneg _ (by decide)
  have b1 : r % prm < prm := Int.emod_lt_of_pos _ prm_pos
  have hp : Zp prm := by unfold Zp; decide
  have e : -r % prm = prm - r % prm := mod_of (by have := zp_emod r; generalize r % prm = m at *; exact zp_lin2 1 (-1) this hp (by grind)) (by omega) (by omega)
  rw [e]
  generalize r % prm = m at *
  rw [prm_is] at *
  omega
theorem par_eq {t r : Int} (h : Zp (t * t - r * r)) (ht : 0 ≤ t ∧ t < prm) (hr : 0 ≤ r ∧ r < prm) (hp : t % 2 = r % 2) : t = r := by
  rw [prm_is] at ht hr
  rcases sq_cases h with g | g
  · have := mod_of (a := t) (b := r) g (by omega) (by rw [prm_is]; omega)
    rw [Int.emod_eq_of_lt ht.1 (by rw [prm_is]; omega)] at this
    exact this
  · rcases zp_two_of (by omega) (by rw [prm_is]; omega) g with e | e
    · omega
    · rw [prm_is] at e; omega
/-- The point of a y and a parity. -/
def has (y : Int) (odd : Bool) : Bool := rok (qy y) && !(decide (rval (qy y) % prm = 0) && odd)
def xo (y : Int) (odd : Bool) : Int := if odd = true then -(rval (qy y)) else rval (qy y)
def od (b : Bool) : Int := if b = true then 1 else 0
theorem has_some {y : Int} {odd : Bool} (h : has y odd = true) : ∃ P : E1, P.y = y % prm ∧ tx P = xo y odd % prm ∧ tx P % 2 = od odd := by
  unfold has at h
  rw [Bool.and_eq_true] at h
  obtain ⟨h1, h2⟩ := h
  have hs : Zp (rval (qy y) * rval (qy y) - qy y) := zp_sub.2 (rval_sq h1)
  have he := rval_even (qy y)
  have hq := qy_spec y
  have hx : Zp (xo y odd * xo y odd - qy y) := by unfold xo; cases odd <;> simp only [if_true, if_false, Bool.false_eq_true] <;> generalize rval (qy y) = r at * <;> exact zp_lin1 1 hs (by grind)
  have hon : Zp (y * y - xo y odd * xo y odd - 1 + ec1 * xo y odd * xo y odd * y * y) := by
    generalize xo y odd = x at *
    generalize qy y = q at *
    generalize ec1 = c at *
    exact zp_lin2 (-1) (-(1 - c * (y * y))) hq hx (by grind)
  refine ⟨mkE _ y hon, rfl, mkE_tx hon, ?_⟩
  rw [mkE_tx]
  cases odd with
  | false =>
    simp only [xo, od, if_false, Bool.false_eq_true]
    exact he
  | true =>
    simp only [xo, od, if_true]
    have hz : ¬ rval (qy y) % prm = 0 := by intro g; rw [decide_eq_true g] at h2; simp at h2
    exact neg_par hz he
theorem has_none {y : Int} {odd : Bool} (h : has y odd = false) (P : E1) (hP : P.y = y % prm) : tx P % 2 ≠ od odd := by
  have h1 := tx_qy P
  have h2 : Zp (qy P.y - qy y) := qy_cong (by rw [hP]; exact zp_emod y)
  have hr : rok (qy y) = true := rok_of_sq (r := tx P) (by generalize tx P = t at *; exact zp_lin2 1 1 h1 h2 (by grind))
  unfold has at h
  rw [hr, Bool.true_and] at h
  have h3 : (decide (rval (qy y) % prm = 0) && odd) = true := by revert h; cases (decide (rval (qy y) % prm = 0) && odd) <;> simp
  rw [Bool.and_eq_true] at h3
  have hz := of_decide_eq_true h3.1
  have hs : Zp (rval (qy y) * rval (qy y) - qy y) := zp_sub.2 (rval_sq hr)
  have ht : Zp (tx P) := by
    have g : Zp (tx P * tx P) := by
      generalize tx P = t at *
      generalize rval (qy y) = r at *
      exact zp_lin4 1 1 (-1) r h1 h2 hs (show Zp r from hz) (by grind)
    exact (zp_or g).elim id id
  have := zp_small (tx_bd P).1 (tx_bd P).2 ht
  rw [this, h3.2]
  decide
theorem pb_inj {P Q : E1} (h : pb P = pb Q) : P = Q := by
  have h1 := y_bd P
  have h2 := y_bd Q
  have h3 : 0 ≤ tx P % 2 ∧ tx P % 2 < 2 := ⟨Int.emod_nonneg _ (by decide), Int.emod_lt_of_pos _ (by decide)⟩
  have h4 : 0 ≤ tx Q % 2 ∧ tx Q % 2 < 2 := ⟨Int.emod_nonneg _ (by decide), Int.emod_lt_of_pos _ (by decide)⟩
  have hy : P.y = Q.y := by unfold pb at h; rw [prm_is] at h1 h2; omega
  have hp : tx P % 2 = tx Q % 2 := by unfold pb at h; rw [hy] at h; omega
  refine E1.eq' (par_eq ?_ (tx_bd P) (tx_bd Q) hp) hy
  have a := tx_qy P
  have b := tx_qy Q
  rw [hy] at a
  generalize tx P = t at *
  generalize tx Q = u at *
  exact zp_lin2 1 (-1) a b (by grind)
open Classical in
/-- What Parse answers. -/
noncomputable def pp (N : Int) : E1 := if h : ∃ P, pb P = N then Classical.choose h else ze
open Classical in
noncomputable def pe (N : Int) : Int := if ∃ P, pb P = N then 0 else 190
theorem pp_pb (P : E1) : pp (pb P) = P := by
  unfold pp
  have h : ∃ Q, pb Q = pb P := ⟨P, rfl⟩
  rw [dif_pos h]
  exact pb_inj (Classical.choose_spec h)
theorem pe_pb (P : E1) : pe (pb P) = 0 := by unfold pe; rw [if_pos ⟨P, rfl⟩]
theorem pe_no {N : Int} (h : ∀ P, pb P ≠ N) : pe N = 190 ∧ pp N = ze := by
  have g : ¬ ∃ P, pb P = N := fun ⟨P, e⟩ => h P e
  exact ⟨by unfold pe; rw [if_neg g], by unfold pp; rw [dif_neg g]⟩
theorem pe_or (N : Int) : (∃ P, pb P = N ∧ pp N = P ∧ pe N = 0) ∨ ((∀ P, pb P ≠ N) ∧ pp N = ze ∧ pe N = 190) := by
  by_cases h : ∃ P, pb P = N
  · obtain ⟨P, rfl⟩ := h
    exact Or.inl ⟨P, rfl, pp_pb P, pe_pb P⟩
  · have g : ∀ P, pb P ≠ N := fun P e => h ⟨P, e⟩
    exact Or.inr ⟨g, (pe_no g).2, (pe_no g).1⟩
/-- What is read of bytes: just if what stands below 2^255 is below prm and there is such an x. -/
def M255 : Int := 57896044618658097711785492504343953926634992332820282019728792003956564819968
theorem pp_yes {N : Int} (h0 : 0 ≤ N) (h1 : N < 115792089237316195423570985008687907853269984665640564039457584007913129639936) (hl : N % 57896044618658097711785492504343953926634992332820282019728792003956564819968 < prm) (h : has (N % 57896044618658097711785492504343953926634992332820282019728792003956564819968) (decide (57896044618658097711785492504343953926634992332820282019728792003956564819968 ≤ N)) = true) :
    pe N = 0 ∧ (pp N).y = N % 57896044618658097711785492504343953926634992332820282019728792003956564819968 ∧ tx (pp N) = xo (N % 57896044618658097711785492504343953926634992332820282019728792003956564819968) (decide (57896044618658097711785492504343953926634992332820282019728792003956564819968 ≤ N)) % prm := by
  obtain ⟨P, hy, hx, hp⟩ := has_some h
  have hm : P.y = N % 57896044618658097711785492504343953926634992332820282019728792003956564819968 := by rw [hy, Int.emod_eq_of_lt (by omega) hl]
  have hb : pb P = N := by
    unfold pb
    rw [hm, hp]
    by_cases g : 57896044618658097711785492504343953926634992332820282019728792003956564819968 ≤ N
    · rw [decide_eq_true g]; simp only [od, if_true]; omega
    · rw [decide_eq_false g]; simp only [od, Bool.false_eq_true, if_false]; omega
  rw [← hb, pe_pb, pp_pb, hb]
  exact ⟨rfl, hm, hx⟩
theorem pp_no {N : Int} (h0 : 0 ≤ N) (h1 : N < 115792089237316195423570985008687907853269984665640564039457584007913129639936) (h : (decide (N % 57896044618658097711785492504343953926634992332820282019728792003956564819968 < prm) && has (N % 57896044618658097711785492504343953926634992332820282019728792003956564819968) (decide (57896044618658097711785492504343953926634992332820282019728792003956564819968 ≤ N))) = false) : pe N = 190 ∧ pp N = ze := by
  refine pe_no fun P hb => ?_
  have b1 := y_bd P
  have b2 : 0 ≤ tx P % 2 ∧ tx P % 2 < 2 := ⟨Int.emod_nonneg _ (by decide), Int.emod_lt_of_pos _ (by decide)⟩
  have hN : N = P.y + 57896044618658097711785492504343953926634992332820282019728792003956564819968 * (tx P % 2) := hb.symm
  have hl : N % 57896044618658097711785492504343953926634992332820282019728792003956564819968 = P.y := by rw [prm_is] at b1; omega
  rw [hl, decide_eq_true b1.2, Bool.true_and] at h
  refine has_none h P (Int.emod_eq_of_lt b1.1 b1.2).symm ?_
  rw [prm_is] at b1
  by_cases g : 57896044618658097711785492504343953926634992332820282019728792003956564819968 ≤ N
  · rw [decide_eq_true g]; simp only [od, if_true]; omega
  · rw [decide_eq_false g]; simp only [od, Bool.false_eq_true, if_false]; omega
/-- So many times. -/
def ml (n : Nat) (P : E1) : E1 := EP.mul nsq_1 n P
theorem ml_zero (P : E1) : ml 0 P = ze := rfl
theorem ml_one (P : E1) : ml 1 P = P := EP.mul_one nsq_1 P
theorem ml_add (m n : Nat) (P : E1) : ml (m + n) P = pl (ml m P) (ml n P) := EP.mul_add nsq_1 m n P
theorem ml_ml (m n : Nat) (P : E1) : ml m (ml n P) = ml (m * n) P := EP.mul_mul nsq_1 m n P
theorem ml_two (n : Nat) (P : E1) : pl (ml n P) (ml n P) = ml (2 * n) P := by rw [Nat.two_mul, ml_add]
theorem ml_next (n : Nat) (P : E1) : pl (ml n P) P = ml (n + 1) P := by rw [ml_add, ml_one]
theorem ml_ze (n : Nat) : ml n ze = ze := EP.mul_zero_pt nsq_1 n
theorem pl_comm (P Q : E1) : pl P Q = pl Q P := EP.add_comm nsq_1 P Q
theorem pl_assoc (P Q R : E1) : pl (pl P Q) R = pl P (pl Q R) := EP.add_assoc nsq_1 P Q R
theorem pl_ze (P : E1) : pl P ze = P := EP.add_zero nsq_1 P
theorem ze_pl (P : E1) : pl ze P = P := by rw [pl_comm, pl_ze]
theorem pl_ng (P : E1) : pl P (ng P) = ze := EP.add_neg nsq_1 P
theorem pl_back (P Q : E1) : pl (pl P (ng Q)) Q = P := by rw [pl_assoc, pl_comm (ng Q), pl_ng, pl_ze]
theorem pl_cancel {P Q R : E1} (h : pl P R = pl Q R) : P = Q := by
  have := congrArg (fun X => pl X (ng R)) h
  simpa only [pl_assoc, pl_ng, pl_ze] using this
theorem ml_pl (n : Nat) (P Q : E1) : ml n (pl P Q) = pl (ml n P) (ml n Q) := by
  induction n with
  | zero => rw [ml_zero, ml_zero, ml_zero, pl_ze]
  | succ n ih => rw [ml_add, ml_one, ih, ml_add n 1 P, ml_add n 1 Q, ml_one, ml_one, pl_assoc, pl_assoc, ← pl_assoc (ml n Q), pl_comm (ml n Q) P, pl_assoc]
end Go.Proofs.YtgfhoabgbgddbaaDoor
