import Derived.Test.YtgfhoabgbgddbaaDoorEe
namespace Go.Proofs.YtgfhoabgbgddbaaDoor
set_option maxRecDepth 100000

theorem q1224481 : Pr 1224481 := trial 1224481 1105 (by decide) (by decide +kernel) (by decide)
theorem q531581 : Pr 531581 := trial 531581 728 (by decide) (by decide +kernel) (by decide)
theorem q1257559732178653 : Pr 1257559732178653 := pock2 1257559732178653 1224481 531581 1027014492 2365697292 2 2 q1224481 q531581 (by decide +kernel) (by decide +kernel) (by decide +kernel) (by decide +kernel) (by decide +kernel) (by decide +kernel) (by decide +kernel) (by decide +kernel) (by decide +kernel) (by decide +kernel)
theorem q2 : Pr 2 := trial 2 0 (by decide) (by decide +kernel) (by decide)
theorem q4434155615661930479 : Pr 4434155615661930479 := pock2 4434155615661930479 1257559732178653 2 3526 2217077807830965239 2 17 q1257559732178653 q2 (by decide +kernel) (by decide +kernel) (by decide +kernel) (by decide +kernel) (by decide +kernel) (by decide +kernel) (by decide +kernel) (by decide +kernel) (by decide +kernel) (by decide +kernel)
theorem q172054593956031949258510691 : Pr 172054593956031949258510691 := pock2 172054593956031949258510691 4434155615661930479 2 38802110 86027296978015974629255345 2 2 q4434155615661930479 q2 (by decide +kernel) (by decide +kernel) (by decide +kernel) (by decide +kernel) (by decide +kernel) (by decide +kernel) (by decide +kernel) (by decide +kernel) (by decide +kernel) (by decide +kernel)
theorem q19757330305831588566944191468367130476339 : Pr 19757330305831588566944191468367130476339 := pock2 19757330305831588566944191468367130476339 172054593956031949258510691 2 114831751082918 9878665152915794283472095734183565238169 2 2 q172054593956031949258510691 q2 (by decide +kernel) (by decide +kernel) (by decide +kernel) (by decide +kernel) (by decide +kernel) (by decide +kernel) (by decide +kernel) (by decide +kernel) (by decide +kernel) (by decide +kernel)
theorem q276602624281642239937218680557139826668747 : Pr 276602624281642239937218680557139826668747 := pock2 276602624281642239937218680557139826668747 19757330305831588566944191468367130476339 2 14 138301312140821119968609340278569913334373 2 2 q19757330305831588566944191468367130476339 q2 (by decide +kernel) (by decide +kernel) (by decide +kernel) (by decide +kernel) (by decide +kernel) (by decide +kernel) (by decide +kernel) (by decide +kernel) (by decide +kernel) (by decide +kernel)
theorem q7237005577332262213973186563042994240857116359379907606001950938285454250989 : Pr 7237005577332262213973186563042994240857116359379907606001950938285454250989 := pock2 7237005577332262213973186563042994240857116359379907606001950938285454250989 276602624281642239937218680557139826668747 2 26163907866482859529727157400808004 3618502788666131106986593281521497120428558179689953803000975469142727125494 2 2 q276602624281642239937218680557139826668747 q2 (by decide +kernel) (by decide +kernel) (by decide +kernel) (by decide +kernel) (by decide +kernel) (by decide +kernel) (by decide +kernel) (by decide +kernel) (by decide +kernel) (by decide +kernel)

section
variable {c : Int} (hc : NonSq c)
theorem EP.mul_mod {P : EP c} {m n : Nat} (hm : EP.mul hc m P = EP.zero) (hn : EP.mul hc n P = EP.zero) : EP.mul hc (n % m) P = EP.zero := by
  have e : n = n / m * m + n % m := by rw [Nat.mul_comm]; exact (Nat.div_add_mod n m).symm
  rw [e, EP.mul_add, ← EP.mul_mul, hm, EP.mul_zero_pt, EP.add_comm, EP.add_zero] at hn
  exact hn
theorem EP.mul_gcd {P : EP c} : ∀ m n : Nat, EP.mul hc m P = EP.zero → EP.mul hc n P = EP.zero → EP.mul hc (Nat.gcd m n) P = EP.zero := by
  intro m n
  induction m, n using Nat.gcd.induction with
  | H0 n => intro _ h; simpa using h
  | H1 m n hm ih =>
    intro h1 h2
    rw [Nat.gcd_rec]
    exact ih (EP.mul_mod hc h1 h2) h1
end
def ell : Nat := 7237005577332262213973186563042994240857116359379907606001950938285454250989
theorem ell_prime : Pr ell := q7237005577332262213973186563042994240857116359379907606001950938285454250989
theorem ell_lad : Zp (lad ell 9 255).b := by unfold Zp; decide +kernel
/-- The point 9, times ell, is gone. -/
theorem ell_kills {s c : Int} (hc : NonSq c) (hm : Mont s c) {P0 : EP c} (hX : Zp (9 * (1 - P0.y) - s * (1 + P0.y))) (n0 : ¬ Zp (1 - P0.y)) : EP.mul hc ell P0 = EP.zero := by
  have n9 : ¬ Zp 9 := by unfold Zp; decide
  obtain ⟨⟨hn, hr⟩, _⟩ := lad_rep hc hm hX n9 n0 ell (by decide +kernel) 255 (Nat.le_refl _)
  rw [show ell / 2 ^ (255 - 255) = ell by simp] at hr
  have hb := ell_lad
  have on := (EP.mul hc ell P0).on
  have na : ¬ Zp (lad ell 9 255).a := fun h => hn ⟨h, hb⟩
  have h1 : Zp (1 - (EP.mul hc ell P0).y) := zp_cancel (zp_lin2 1 (s * (1 + (EP.mul hc ell P0).y)) hr hb (by grind)) na
  have hx : Zp (EP.mul hc ell P0).x := by
    generalize (EP.mul hc ell P0).x = x at *
    generalize (EP.mul hc ell P0).y = y at *
    have h2 : Zp ((1 - c) * (x * x)) := zp_lin2 1 ((1 + y) * (1 - c * (x * x))) on h1 (by grind)
    exact (zp_or (zp_cancel h2 (one_ne hc))).elim id id
  exact EP.eq (zp_lin1 1 hx (by simp [EP.zero])) (zp_lin1 (-1) h1 (by simp only [EP.zero]; grind))
theorem zero_of_val {s c : Int} (hc : NonSq c) (hs : s * s = 1) {Q : EP c} (h : Val s Q 0) : EP.mul hc 2 Q = EP.zero := by
  have o := Q.on
  have hx : Zp Q.x ∧ Zp ((1 - Q.y) * (1 + Q.y)) := by
    by_cases h1 : Zp (1 - Q.y)
    · have h2 : Zp ((1 - c) * (Q.x * Q.x)) := zp_lin2 1 ((1 + Q.y) * (1 - c * (Q.x * Q.x))) o h1 (by grind)
      exact ⟨(zp_or (zp_cancel h2 (one_ne hc))).elim id id, zp_lin1 (1 + Q.y) h1 (by grind)⟩
    · have h2 : Zp (1 + Q.y) := zp_lin1 (-s) (h.2.2 h1) (by grind)
      have h3 : Zp ((1 - c) * (Q.x * Q.x)) := zp_lin2 1 ((1 - Q.y) * (1 - c * (Q.x * Q.x))) o h2 (by grind)
      exact ⟨(zp_or (zp_cancel h3 (one_ne hc))).elim id id, zp_lin1 (1 - Q.y) h2 (by grind)⟩
  rw [show 2 = 1 + 1 from rfl, EP.mul_add, EP.mul_one]
  refine EP.add_is hc ?_ ?_
  · simp only [EP.zero]
    exact zp_lin1 (-(2 * Q.y)) hx.1 (by grind)
  · simp only [EP.zero]
    exact zp_lin2 (-(c * Q.x * Q.y * Q.y) + Q.x) 1 hx.1 hx.2 (by grind)
theorem not_dvd_of_lt {a : Nat} (h0 : 0 < a) (h : a < ell) : ¬ ell ∣ a := fun hd => by have := Nat.le_of_dvd h0 hd; omega
/-- No secret of two is 0. -/
theorem scl_secret (a b : Int) : scl a (scl b 9) ≠ 0 := by
  intro h
  have e8 : ∀ K, ∃ k : Nat, clp K = ((8 * k : Nat) : Int) ∧ 0 < k ∧ k < ell ∧ 8 * k < 2 ^ 255 := fun K => by
    obtain ⟨h0, h1⟩ := clp_bd K
    have h2 : clp K % 8 = 0 := by unfold clp; omega
    have h3 : 28948022309329048855892746252171976963317496166410141009864396001978282409984 ≤ clp K := by unfold clp; omega
    have e : (2 : Nat) ^ 255 = 57896044618658097711785492504343953926634992332820282019728792003956564819968 := by decide
    refine ⟨(clp K).toNat / 8, by omega, by omega, ?_, by omega⟩
    unfold ell
    omega
  obtain ⟨A, eA, a0, a1, a2⟩ := e8 a
  obtain ⟨B, eB, b0, b1, b2⟩ := e8 b
  have n9 : ¬ Zp 9 := by unfold Zp; decide
  obtain ⟨s, c, hc, hm, P0, hX, n0⟩ := pt_of n9
  have v0 : Val s P0 9 := ⟨by decide, fun h => absurd h n0, fun _ => hX⟩
  have v1 := val_next hc hm (val_next hc hm v0 (8 * B) b2 (by omega)) (8 * A) a2 (by omega)
  unfold scl at h
  rw [eA, eB, num_of (scn_bd _ _), show num 9 = 9 from num_of (by decide)] at h
  rw [h, EP.mul_mul] at v1
  have z1 := zero_of_val hc hm.sq v1
  rw [EP.mul_mul] at z1
  have z2 := EP.mul_gcd hc _ _ (ell_kills hc hm hX n0) z1
  have hp := ell_prime
  have nd : ¬ ell ∣ 2 * (8 * A * (8 * B)) := by
    intro hd
    have e : 2 * (8 * A * (8 * B)) = 128 * (A * B) := by grind
    rw [e] at hd
    rcases hp.euclid hd with q | q
    · exact not_dvd_of_lt (by decide) (by decide +kernel) q
    · rcases hp.euclid q with q | q
      · exact not_dvd_of_lt a0 a1 q
      · exact not_dvd_of_lt b0 b1 q
  have hg : Nat.gcd ell (2 * (8 * A * (8 * B))) = 1 := by
    rcases hp.2 _ (Nat.gcd_dvd_left ell (2 * (8 * A * (8 * B)))) with q | q
    · exact q
    · exact absurd (q ▸ Nat.gcd_dvd_right ell (2 * (8 * A * (8 * B)))) nd
  rw [hg, EP.mul_one] at z2
  exact n0 (z2 ▸ zp_lin1 0 zp_zero (by simp [EP.zero]))
end Go.Proofs.YtgfhoabgbgddbaaDoor
