import Derived.Test.YtkogejglfgghmacPm
namespace Go.Proofs.Ytkogejglfgghmac
/-! Roots modulo 2^255 - 19. -/
theorem sub_c {x x' y y' : Int} (h : x % prm = x' % prm) (g : y % prm = y' % prm) : (x - y) % prm = (x' - y') % prm := by
  rw [Int.sub_eq_add_neg, Int.sub_eq_add_neg]; exact add_c h (neg_c g)
theorem sub_zero_c {x y : Int} (h : (x - y) % prm = 0) : x % prm = y % prm := by
  have := add_c (x := x - y) (x' := 0) (h.trans (by decide)) (y := y) rfl
  rwa [Int.sub_add_cancel, Int.zero_add] at this
/-- Two of one square are alike or opposite. -/
theorem sq_eq {r a : Int} (h : r * r % prm = a * a % prm) : r % prm = a % prm ∨ r % prm = -a % prm := by
  have e : (r - a) * (r + a) % prm = 0 := by
    have := sub_c h (rfl : a * a % prm = a * a % prm)
    rw [Int.sub_self] at this
    rw [show (r - a) * (r + a) = r * r - a * a by grind, this]; rfl
  rcases (mul_zero_iff _ _).1 e with e | e
  · exact .inl (sub_zero_c e)
  · right; apply sub_zero_c; rw [show r - -a = r + a by omega]; exact e
theorem sq_one {t : Int} (h : t * t % prm = 1 % prm) : t % prm = 1 % prm ∨ t % prm = -1 % prm := sq_eq (a := 1) h
/-- A root of -1. -/
def uu : Int := 19681161376707505956807079304988542015446066515923890162744021073123829784752
theorem uu_sq : uu * uu % prm = -1 % prm := by decide +kernel
theorem uu_pow : (2 : Int) ^ 14474011154664524427946373126085988481658748083205070504932198000989141204987 % prm = uu := by
  rw [pow_nat (m := 2) (by decide)]
  have : pwf 256 57896044618658097711785492504343953926634992332820282019728792003956564819949 2 14474011154664524427946373126085988481658748083205070504932198000989141204987 = 19681161376707505956807079304988542015446066515923890162744021073123829784752 := by decide +kernel
  rw [pwf_eq _ _ _ _ (by decide)] at this
  rw [this]; rfl
theorem two_half : (2 : Int) ^ 28948022309329048855892746252171976963317496166410141009864396001978282409974 % prm = -1 % prm := by
  rw [pow_nat (m := 2) (by decide)]
  have : pwf 256 57896044618658097711785492504343953926634992332820282019728792003956564819949 2 28948022309329048855892746252171976963317496166410141009864396001978282409974 = 57896044618658097711785492504343953926634992332820282019728792003956564819948 := by decide +kernel
  rw [pwf_eq _ _ _ _ (by decide)] at this
  rw [this]; decide
theorem half_sq (x : Int) : x ^ 28948022309329048855892746252171976963317496166410141009864396001978282409974 * x ^ 28948022309329048855892746252171976963317496166410141009864396001978282409974 = x ^ 57896044618658097711785492504343953926634992332820282019728792003956564819948 := by rw [← Int.pow_add]
theorem half_one {x : Int} (h : x % prm ≠ 0) : x ^ 28948022309329048855892746252171976963317496166410141009864396001978282409974 % prm = 1 % prm ∨ x ^ 28948022309329048855892746252171976963317496166410141009864396001978282409974 % prm = -1 % prm := by
  apply sq_one
  rw [half_sq, fermat_int h]; rfl
/-- What Root tries: a root of x or of nothing. -/
def rt (x : Int) : Int := if x ^ 7237005577332262213973186563042994240829374041602535252466099000494570602494 * x ^ 7237005577332262213973186563042994240829374041602535252466099000494570602494 % prm = x % prm then x ^ 7237005577332262213973186563042994240829374041602535252466099000494570602494 else x ^ 7237005577332262213973186563042994240829374041602535252466099000494570602494 * uu
def rok (x : Int) : Bool := decide (rt x * rt x % prm = x % prm)
/-- The even one of two opposite numbers. -/
def ev (r : Int) : Int := if r % prm % 2 = 1 then -r else r
/-- What Root answers. -/
def rval (x : Int) : Int := if rok x = true then ev (rt x) else 0
theorem ev_sq (r : Int) : ev r * ev r = r * r := by unfold ev; split <;> grind
theorem ev_even (r : Int) : ev r % prm % 2 = 0 := by
  unfold ev
  split
  · rename_i h
    have : -r % prm = prm - r % prm := by
      have h0 := Int.emod_nonneg r (b := prm) (by decide)
      have h1 := Int.emod_lt_of_pos r (b := prm) (by decide)
      have e : -r % prm = (prm - r % prm) % prm := by
        rw [neg_c (x := r) (x' := r % prm) (Int.emod_emod_of_dvd _ (Int.dvd_refl _)).symm, Int.sub_eq_add_neg, Int.add_comm, Int.add_emod_right]
      rw [e]
      apply Int.emod_eq_of_lt <;> omega
    rw [this]
    unfold prm at *
    omega
  · omega
theorem rok_iff (x : Int) : rok x = true ↔ rt x * rt x % prm = x % prm := by unfold rok; exact decide_eq_true_iff
theorem e8_sq (x : Int) : x ^ 7237005577332262213973186563042994240829374041602535252466099000494570602494 * x ^ 7237005577332262213973186563042994240829374041602535252466099000494570602494 = x * x ^ 14474011154664524427946373126085988481658748083205070504932198000989141204987 := by rw [← Int.pow_add, Int.mul_comm x, ← Int.pow_succ]
/-- Whoever has a power to half of P - 1 that is 1 has a root. -/
theorem rok_of {x : Int} (h : x % prm = 0 ∨ x ^ 28948022309329048855892746252171976963317496166410141009864396001978282409974 % prm = 1 % prm) : rok x = true := by
  rw [rok_iff]
  unfold rt
  split
  · assumption
  · rename_i hne
    rcases h with h | h
    · exfalso; apply hne
      rw [Int.mul_emod, pow_zero_c h (by decide), h]; rfl
    · have t : x ^ 14474011154664524427946373126085988481658748083205070504932198000989141204987 * x ^ 14474011154664524427946373126085988481658748083205070504932198000989141204987 % prm = 1 % prm := by rw [← Int.pow_add]; exact h
      rcases sq_one t with t | t
      · exfalso; apply hne
        rw [e8_sq, mul_c (rfl : x % prm = x % prm) t, Int.mul_one]
      · have : x ^ 7237005577332262213973186563042994240829374041602535252466099000494570602494 * uu * (x ^ 7237005577332262213973186563042994240829374041602535252466099000494570602494 * uu) = x ^ 7237005577332262213973186563042994240829374041602535252466099000494570602494 * x ^ 7237005577332262213973186563042994240829374041602535252466099000494570602494 * (uu * uu) := by
          generalize x ^ 7237005577332262213973186563042994240829374041602535252466099000494570602494 = q
          grind
        rw [this, e8_sq, mul_c (mul_c rfl t) uu_sq]
        congr 1
        omega
theorem half_of {x r : Int} (h : r * r % prm = x % prm) (hx : x % prm ≠ 0) : x ^ 28948022309329048855892746252171976963317496166410141009864396001978282409974 % prm = 1 % prm := by
  rw [← pow_c h]
  have : (r * r) ^ 28948022309329048855892746252171976963317496166410141009864396001978282409974 = r ^ 57896044618658097711785492504343953926634992332820282019728792003956564819948 := by rw [← half_sq r]; exact Int.mul_pow
  rw [this, fermat_int]; · rfl
  intro e
  apply hx
  rw [← h, Int.mul_emod, e]; rfl
theorem rok_half (x : Int) : rok x = true ↔ (x % prm = 0 ∨ x ^ 28948022309329048855892746252171976963317496166410141009864396001978282409974 % prm = 1 % prm) := by
  refine ⟨fun h => ?_, rok_of⟩
  by_cases hx : x % prm = 0
  · exact .inl hx
  · exact .inr (half_of ((rok_iff x).1 h) hx)
theorem rok_sq (a : Int) : rok (a * a) = true := by
  apply rok_of
  by_cases h : a * a % prm = 0
  · exact .inl h
  · exact .inr (half_of rfl h)
theorem rok_two : rok 2 = false := by
  rw [Bool.eq_false_iff]
  intro h
  rcases (rok_half 2).1 h with h | h
  · exact absurd h (by decide)
  · rw [two_half] at h; exact absurd h (by decide)
theorem rok_mul {a b : Int} (ha : rok a = false) (hb : rok b = false) : rok (a * b) = true := by
  have a0 : a % prm ≠ 0 := fun h => by rw [(rok_half a).2 (.inl h)] at ha; exact absurd ha (by decide)
  have b0 : b % prm ≠ 0 := fun h => by rw [(rok_half b).2 (.inl h)] at hb; exact absurd hb (by decide)
  have a1 := (half_one a0).resolve_left fun h => by rw [(rok_half a).2 (.inr h)] at ha; exact absurd ha (by decide)
  have b1 := (half_one b0).resolve_left fun h => by rw [(rok_half b).2 (.inr h)] at hb; exact absurd hb (by decide)
  apply rok_of
  right
  rw [Int.mul_pow, mul_c a1 b1]; rfl
theorem rt_c {x y : Int} (h : x % prm = y % prm) : rt x % prm = rt y % prm := by
  have e := pow_c h 7237005577332262213973186563042994240829374041602535252466099000494570602494
  unfold rt
  rw [mul_c e e, h]
  split
  · exact e
  · exact mul_c e rfl
theorem rok_c {x y : Int} (h : x % prm = y % prm) : rok x = rok y := by
  unfold rok
  rw [mul_c (rt_c h) (rt_c h), h]
theorem ev_c {x y : Int} (h : x % prm = y % prm) : ev x % prm = ev y % prm := by
  unfold ev
  rw [h]
  split
  · exact neg_c h
  · exact h
theorem rval_c {x y : Int} (h : x % prm = y % prm) : rval x % prm = rval y % prm := by
  unfold rval
  rw [rok_c h]
  split
  · exact ev_c (rt_c h)
  · rfl
theorem rval_sq {x : Int} (h : rok x = true) : rval x * rval x % prm = x % prm := by
  unfold rval
  rw [if_pos h, ev_sq]
  exact (rok_iff x).1 h
theorem rval_even (x : Int) : rval x % prm % 2 = 0 := by
  unfold rval
  split
  · exact ev_even _
  · decide
end Go.Proofs.Ytkogejglfgghmac
