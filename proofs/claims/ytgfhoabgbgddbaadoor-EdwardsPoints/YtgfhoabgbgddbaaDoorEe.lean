import Derived.Test.YtgfhoabgbgddbaaDoorEd
namespace Go.Proofs.YtgfhoabgbgddbaaDoor
set_option maxRecDepth 100000

def sA : Int := 9094040566125962849133224048217411091405536248825867518642941381412595940312
def ec1 : Int := 20800338683988658368647408995589388737092878452977063003340006470870624536394
def ec2 : Int := 28692721048178265397853269683490922171210976843790175684556505508326675974058
theorem sA_sq : Zp (sA * sA - 486664) := by unfold Zp; decide +kernel
theorem sA_ne : ¬ Zp sA := by unfold Zp; decide +kernel
theorem ec1_eq : Zp (121666 * ec1 - 121665) := by unfold Zp; decide +kernel
theorem ec2_eq : Zp (121665 * ec2 - 121666) := by unfold Zp; decide +kernel
theorem half_486660 : (486660 : Int) ^ 28948022309329048855892746252171976963317496166410141009864396001978282409974 % prm = -1 % prm := by
  rw [pow_nat (m := 486660) (by decide)]
  have : pwf 256 57896044618658097711785492504343953926634992332820282019728792003956564819949 486660 28948022309329048855892746252171976963317496166410141009864396001978282409974 = 57896044618658097711785492504343953926634992332820282019728792003956564819948 := by decide +kernel
  rw [pwf_eq _ _ _ _ (by decide)] at this
  rw [this]; decide
theorem rok_486660 : rok 486660 = false := by
  cases h : rok 486660
  · rfl
  · rcases (rok_half 486660).1 h with q | q
    · exact absurd q (by decide)
    · rw [half_486660] at q; exact absurd q (by decide)
theorem nonsq_of {c : Int} (h : rok c = false) : NonSq c := fun r hr => by
  have e : rok (r * r) = rok c := rok_c (zp_sub.1 hr)
  rw [rok_sq, h] at e
  cases e
theorem nsq_A : NonSq 486660 := nonsq_of rok_486660
theorem nsq_1 : NonSq ec1 := fun r hr => by
  have h1 := sA_sq
  have h2 := ec1_eq
  generalize sA = q at *
  generalize ec1 = c at *
  exact nsq_A (r * q) (zp_lin3 (q * q) c 4 hr h1 h2 (by grind))
theorem nsq_2 : NonSq ec2 := fun r hr => by
  have h1 := sA_sq
  have h2 := ec2_eq
  have nc : ¬ Zp ec2 := by unfold Zp; decide +kernel
  generalize sA = q at *
  generalize ec2 = c at *
  have nr : ¬ Zp r := fun z => nc (zp_lin2 r (-1) z hr (by grind))
  have hi := iv_mul nr
  generalize iv r = i at *
  exact nsq_A (q * i) (zp_lin4 (i * i) (-(4 * (i * i))) (-(486660 * (i * i))) (486660 * (r * i + 1)) h1 h2 hr hi (by grind))
def fX (X : Int) : Int := X * (X * X + 486662 * X + 1)
theorem fX_ne {X : Int} (nX : ¬ Zp X) : ¬ Zp (fX X) := by
  intro h
  have q := zp_cancel (show Zp (X * (X * X + 486662 * X + 1)) from h) nX
  have h1 := sA_sq
  have n := sA_ne
  generalize sA = r at *
  exact n (nsq_A.of_ratio (u := 2 * X + 486662) (zp_lin2 4 (-486660) q h1 (by grind)))
theorem pt_of {X : Int} (nX : ¬ Zp X) : ∃ s c, ∃ _hc : NonSq c, Mont s c ∧ ∃ P0 : EP c, Zp (X * (1 - P0.y) - s * (1 + P0.y)) ∧ ¬ Zp (1 - P0.y) := by
  have nf := fX_ne nX
  have ef : fX X = X * (X * X + 486662 * X + 1) := rfl
  cases hr : rok (fX X)
  · -- the twist
    have hw := (rok_iff _).1 (rok_mul rok_486660 hr)
    replace hw := zp_sub.2 hw
    generalize rt (486660 * fX X) = w at *
    have n6 : ¬ Zp 486660 := by unfold Zp; decide
    have nw : ¬ Zp w := fun z => zp_ne_mul n6 nf (zp_lin2 w (-1) z hw (by grind))
    have n1 : ¬ Zp (X - 1) := fun z => by
      have h1 := sA_sq
      have e : Zp (fX X - sA * sA) := by
        rw [ef]
        generalize sA = q at *
        exact zp_lin2 (X * X + 486663 * X + 486664) (-1) z h1 (by grind)
      have := rok_c (zp_sub.1 e)
      rw [hr, rok_sq] at this
      cases this
    have hy := quot_spec (X := X + 1) n1
    have hx := quot_spec (X := 486660 * X) nw
    have zc := ec2_eq
    rw [ef] at hw
    have on : Zp (((486660 * X) * iv w) % prm * (((486660 * X) * iv w) % prm) + ((X + 1) * iv (X - 1)) % prm * (((X + 1) * iv (X - 1)) % prm) - 1 - ec2 * (((486660 * X) * iv w) % prm) * (((486660 * X) * iv w) % prm) * (((X + 1) * iv (X - 1)) % prm) * (((X + 1) * iv (X - 1)) % prm)) := by
      generalize ((486660 * X) * iv w) % prm = x at *
      generalize ((X + 1) * iv (X - 1)) % prm = y at *
      generalize ec2 = c at *
      refine zp_cancel (a := w * w * ((X - 1) * (X - 1))) ?_ (zp_ne_mul (zp_ne_mul nw nw) (zp_ne_mul n1 n1))
      have p2 : Zp ((x * w) * (x * w) - 486660 * 486660 * (X * X)) := zp_lin1 (x * w + 486660 * X) hx (by grind)
      have q2 : Zp ((y * (X - 1)) * (y * (X - 1)) - (X + 1) * (X + 1)) := zp_lin1 (y * (X - 1) + (X + 1)) hy (by grind)
      exact zp_lin4 ((X - 1) * (X - 1) - c * ((y * (X - 1)) * (y * (X - 1)))) (w * w - c * (486660 * 486660 * (X * X))) ((X + 1) * (X + 1) - (X - 1) * (X - 1)) (-(486660 * 4 * (X * X * ((X + 1) * (X + 1))))) p2 q2 hw zc (by grind)
    refine ⟨-1, ec2, nsq_2, Or.inr ⟨rfl, ec2_eq⟩, ⟨_, _, Int.emod_emod _ _, Int.emod_emod _ _, on⟩, ?_, ?_⟩
    · show Zp (X * (1 - ((X + 1) * iv (X - 1)) % prm) - -1 * (1 + ((X + 1) * iv (X - 1)) % prm))
      generalize ((X + 1) * iv (X - 1)) % prm = y at *
      exact zp_lin1 (-1) hy (by grind)
    · show ¬ Zp (1 - ((X + 1) * iv (X - 1)) % prm)
      generalize ((X + 1) * iv (X - 1)) % prm = y at *
      exact fun z => zp_two (zp_lin2 (-(X - 1)) (-1) z hy (by grind))
  · -- the curve
    have hv := zp_sub.2 ((rok_iff _).1 hr)
    generalize rt (fX X) = v at *
    have nv : ¬ Zp v := fun z => nf (zp_lin2 v (-1) z hv (by grind))
    rw [ef] at hv
    have n1 : ¬ Zp (X + 1) := fun z => nsq_A v (zp_lin2 1 (X * X + 486661 * X - 486660) hv z (by grind))
    have hy := quot_spec (X := X - 1) n1
    have hx := quot_spec (X := sA * X) nv
    have zc := ec1_eq
    have h1 := sA_sq
    have on : Zp (((sA * X) * iv v) % prm * (((sA * X) * iv v) % prm) + ((X - 1) * iv (X + 1)) % prm * (((X - 1) * iv (X + 1)) % prm) - 1 - ec1 * (((sA * X) * iv v) % prm) * (((sA * X) * iv v) % prm) * (((X - 1) * iv (X + 1)) % prm) * (((X - 1) * iv (X + 1)) % prm)) := by
      generalize ((sA * X) * iv v) % prm = x at *
      generalize ((X - 1) * iv (X + 1)) % prm = y at *
      generalize ec1 = c at *
      generalize sA = q at *
      refine zp_cancel (a := v * v * ((X + 1) * (X + 1))) ?_ (zp_ne_mul (zp_ne_mul nv nv) (zp_ne_mul n1 n1))
      have p2 : Zp ((x * v) * (x * v) - 486664 * (X * X)) := zp_lin2 (x * v + q * X) (X * X) hx h1 (by grind)
      have q2 : Zp ((y * (X + 1)) * (y * (X + 1)) - (X - 1) * (X - 1)) := zp_lin1 (y * (X + 1) + (X - 1)) hy (by grind)
      exact zp_lin4 ((X + 1) * (X + 1) - c * ((y * (X + 1)) * (y * (X + 1)))) (v * v - c * (486664 * (X * X))) ((X - 1) * (X - 1) - (X + 1) * (X + 1)) (-(4 * (X * X * ((X - 1) * (X - 1))))) p2 q2 hv zc (by grind)
    refine ⟨1, ec1, nsq_1, Or.inl ⟨rfl, ec1_eq⟩, ⟨_, _, Int.emod_emod _ _, Int.emod_emod _ _, on⟩, ?_, ?_⟩
    · show Zp (X * (1 - ((X - 1) * iv (X + 1)) % prm) - 1 * (1 + ((X - 1) * iv (X + 1)) % prm))
      generalize ((X - 1) * iv (X + 1)) % prm = y at *
      exact zp_lin1 (-1) hy (by grind)
    · show ¬ Zp (1 - ((X - 1) * iv (X + 1)) % prm)
      generalize ((X - 1) * iv (X + 1)) % prm = y at *
      exact fun z => zp_two (zp_lin2 (X + 1) 1 z hy (by grind))
theorem val_zero {s c : Int} : Val s (EP.zero : EP c) 0 := ⟨by decide, fun _ => rfl, fun h => absurd (zp_lin1 0 zp_zero (by simp [EP.zero])) h⟩
theorem one_ne {c : Int} (hc : NonSq c) : ¬ Zp (1 - c) := fun h => hc 1 (zp_lin1 1 h (by grind))
theorem even_bt {N : Nat} (h : N % 2 = 0) : bt N 0 = false := by
  rw [bt_nat]
  simp
  omega
/-- A scalar on what stands for a point. -/
theorem val_next {s c : Int} (hc : NonSq c) (hm : Mont s c) {Q : EP c} {v : Int} (hv : Val s Q v) (N : Nat) (hN : N < 2 ^ 255) (hev : N % 2 = 0) : Val s (EP.mul hc N Q) (scn N v) := by
  by_cases h1 : Zp (1 - Q.y)
  · obtain rfl := hv.2.1 h1
    have hx : Zp (Q.x) := by
      have o := Q.on
      have h2 : Zp ((1 - c) * (Q.x * Q.x)) := zp_lin2 1 ((1 + Q.y) * (1 - c * (Q.x * Q.x))) o h1 (by grind)
      exact (zp_or (zp_cancel h2 (one_ne hc))).elim id id
    have e : Q = EP.zero := EP.eq (zp_lin1 1 hx (by simp [EP.zero])) (zp_lin1 (-1) h1 (by simp only [EP.zero]; grind))
    rw [e, EP.mul_zero_pt, scn_zero _ (even_bt hev)]
    exact val_zero
  · by_cases hz : Zp v
    · obtain rfl : v = 0 := by
        have := hz
        unfold Zp at this
        rwa [Int.emod_eq_of_lt hv.1.1 hv.1.2] at this
      have hs := hm.sq
      have h2 : Zp (1 + Q.y) := zp_lin1 (-s) (hv.2.2 h1) (by grind)
      have o := Q.on
      have hx : Zp (Q.x) := by
        have h3 : Zp ((1 - c) * (Q.x * Q.x)) := zp_lin2 1 ((1 - Q.y) * (1 - c * (Q.x * Q.x))) o h2 (by grind)
        exact (zp_or (zp_cancel h3 (one_ne hc))).elim id id
      have e2 : EP.mul hc 2 Q = EP.zero := by
        rw [show 2 = 1 + 1 from rfl, EP.mul_add, EP.mul_one]
        refine EP.add_is hc ?_ ?_
        · simp only [EP.zero]
          exact zp_lin1 (-(2 * Q.y)) hx (by grind)
        · simp only [EP.zero]
          exact zp_lin2 (-(c * Q.x * Q.y * Q.y) + Q.x) (1 - Q.y) hx h2 (by grind)
      have e3 : EP.mul hc N Q = EP.zero := by
        have : N = N / 2 * 2 := by omega
        rw [this, ← EP.mul_mul, e2, EP.mul_zero_pt]
      rw [e3, scn_zero _ (even_bt hev)]
      exact val_zero
    · exact scn_val hc hm (hv.2.2 h1) hz h1 N hN
theorem scn_turn {A B : Nat} (hA : A < 2 ^ 255) (eA : A % 2 = 0) (hB : B < 2 ^ 255) (eB : B % 2 = 0) {x : Int} (hx : 0 ≤ x ∧ x < prm) : scn A (scn B x) = scn B (scn A x) := by
  by_cases hz : Zp x
  · obtain rfl : x = 0 := by
      have := hz
      unfold Zp at this
      rwa [Int.emod_eq_of_lt hx.1 hx.2] at this
    rw [scn_zero _ (even_bt eA), scn_zero _ (even_bt eB), scn_zero _ (even_bt eA)]
  · obtain ⟨s, c, hc, hm, P0, hX, n0⟩ := pt_of hz
    have v0 : Val s P0 x := ⟨hx, fun h => absurd h n0, fun _ => hX⟩
    have v1 := val_next hc hm (val_next hc hm v0 B hB eB) A hA eA
    have v2 := val_next hc hm (val_next hc hm v0 A hA eA) B hB eB
    rw [EP.mul_mul] at v1 v2
    rw [Nat.mul_comm] at v2
    exact v1.inj v2
theorem clp_nat (K : Int) : ∃ N : Nat, clp K = (N : Int) ∧ N < 2 ^ 255 ∧ N % 2 = 0 := by
  obtain ⟨h0, h1⟩ := clp_bd K
  have h2 : clp K % 2 = 0 := by unfold clp; omega
  refine ⟨(clp K).toNat, by omega, ?_, by omega⟩
  have : (2 : Nat) ^ 255 = 57896044618658097711785492504343953926634992332820282019728792003956564819968 := by decide
  omega
theorem num_of {Y : Int} (h : 0 ≤ Y ∧ Y < prm) : num Y = Y := by
  unfold num
  rw [Int.emod_eq_of_lt h.1 (Int.lt_trans h.2 (by decide)), Int.emod_eq_of_lt h.1 h.2]
theorem scl_turn (a b u : Int) : scl a (scl b u) = scl b (scl a u) := by
  obtain ⟨A, eA, hA, vA⟩ := clp_nat a
  obtain ⟨B, eB, hB, vB⟩ := clp_nat b
  unfold scl
  rw [eA, eB, num_of (scn_bd _ _), num_of (scn_bd _ _)]
  exact scn_turn hA vA hB vB ⟨Int.emod_nonneg _ (by decide), Int.emod_lt_of_pos _ (by decide)⟩
end Go.Proofs.YtgfhoabgbgddbaaDoor
