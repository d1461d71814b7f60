import Ieee.Arith
namespace Go.Proofs.Ytcgicojdmpjalab
open Ieee

/-- n / 2 ^ d as a whole number: the nearest, between two the even one. -/
def rnd (n d : Nat) : Nat := n / 2 ^ d + (decide (2 ^ d < 2 * (n % 2 ^ d)) || (2 ^ d == 2 * (n % 2 ^ d) && n / 2 ^ d % 2 == 1)).toNat

theorem rnd_up {n d : Nat} (h : 2 ^ d < 2 * (n % 2 ^ d)) : rnd n d = n / 2 ^ d + 1 := by
  unfold rnd; rw [decide_eq_true h]; rfl
theorem rnd_down {n d : Nat} (h : 2 * (n % 2 ^ d) < 2 ^ d) : rnd n d = n / 2 ^ d := by
  unfold rnd
  rw [decide_eq_false (by omega), show (2 ^ d == 2 * (n % 2 ^ d)) = false from beq_eq_false_iff_ne.2 (by omega)]; rfl
theorem rnd_half {n d : Nat} (h : 2 ^ d = 2 * (n % 2 ^ d)) : rnd n d = n / 2 ^ d + n / 2 ^ d % 2 := by
  unfold rnd
  rw [decide_eq_false (by omega), show (2 ^ d == 2 * (n % 2 ^ d)) = true from beq_iff_eq.2 h]
  rcases Nat.mod_two_eq_zero_or_one (n / 2 ^ d) with e | e <;> rw [e] <;> rfl
theorem rnd_of {n d q r : Nat} (hn : n = q * 2 ^ d + r) (hr : r < 2 ^ d) : n / 2 ^ d = q ∧ n % 2 ^ d = r := by
  have h0 : 0 < 2 ^ d := Nat.two_pow_pos d
  constructor
  · rw [hn, Nat.add_comm, Nat.add_mul_div_right _ _ h0, Nat.div_eq_of_lt hr, Nat.zero_add]
  · rw [hn, Nat.add_comm, Nat.add_mul_mod_self_right, Nat.mod_eq_of_lt hr]
theorem div_eq (n d : Nat) : n = n / 2 ^ d * 2 ^ d + n % 2 ^ d := by
  rw [Nat.mul_comm]; exact (Nat.div_add_mod n (2 ^ d)).symm

theorem cut_rnd (s : Bool) (n d : Nat) : Toward.even.cut s n d = rnd n d := by
  by_cases h : d ≤ n.log2 + 2
  · simp only [Toward.cut, rnd, Nat.min_eq_left h, Nat.one_shiftLeft]
  · have h' : n.log2 + 2 ≤ d := by omega
    have h1 : n < 2 ^ (n.log2 + 1) := Nat.lt_log2_self
    have h2 : 2 ^ (n.log2 + 2) = 2 * 2 ^ (n.log2 + 1) := by rw [show n.log2 + 2 = (n.log2 + 1) + 1 from rfl, Nat.pow_succ]; omega
    have h3 : 2 ^ (n.log2 + 2) ≤ 2 ^ d := Nat.pow_le_pow_right (by omega) h'
    have hn : n < 2 ^ d := by omega
    rw [rnd_down (by rw [Nat.mod_eq_of_lt hn]; omega), Nat.div_eq_of_lt hn]
    simp only [Toward.cut, Nat.min_eq_right h', Nat.one_shiftLeft]
    have h4 : n < 2 ^ (n.log2 + 2) := by omega
    rw [Nat.div_eq_of_lt h4, Nat.mod_eq_of_lt h4, decide_eq_false (by omega), show (2 ^ (n.log2 + 2) == 2 * n) = false from beq_eq_false_iff_ne.2 (by omega)]
    rfl

theorem rnd_add {W N D : Nat} (hW : W % 2 = 0) : rnd (W * 2 ^ D + N) D = W + rnd N D := by
  have h := div_eq N D
  have hr : N % 2 ^ D < 2 ^ D := Nat.mod_lt _ (Nat.two_pow_pos D)
  obtain ⟨e1, e2⟩ := rnd_of (n := W * 2 ^ D + N) (d := D) (q := W + N / 2 ^ D) (r := N % 2 ^ D) (by rw [Nat.add_mul]; omega) hr
  unfold rnd
  rw [e1, e2, show (W + N / 2 ^ D) % 2 = N / 2 ^ D % 2 by omega]
  omega

theorem rnd_sub {W N D : Nat} (hW : W % 2 = 0) (hN : N ≤ W * 2 ^ D) : rnd (W * 2 ^ D - N) D + rnd N D = W := by
  have h := div_eq N D
  have h0 : 0 < 2 ^ D := Nat.two_pow_pos D
  have hr : N % 2 ^ D < 2 ^ D := Nat.mod_lt _ h0
  have hq : N / 2 ^ D ≤ W := by
    have := Nat.div_le_div_right (c := 2 ^ D) hN
    rwa [Nat.mul_div_cancel _ h0] at this
  generalize hqq : N / 2 ^ D = q at *
  generalize hrr : N % 2 ^ D = r at *
  by_cases h1 : r = 0
  · obtain ⟨e1, e2⟩ := rnd_of (n := W * 2 ^ D - N) (d := D) (q := W - q) (r := 0) (by rw [Nat.sub_mul]; omega) h0
    rw [rnd_down (by omega), rnd_down (by omega)]
    omega
  · have hq1 : q + 1 ≤ W := by
      rcases Nat.lt_or_ge q W with x | x
      · omega
      · have : q = W := by omega
        subst this; omega
    obtain ⟨e1, e2⟩ := rnd_of (n := W * 2 ^ D - N) (d := D) (q := W - (q + 1)) (r := 2 ^ D - r) (by
      have : (q + 1) * 2 ^ D ≤ W * 2 ^ D := Nat.mul_le_mul_right _ hq1
      rw [Nat.sub_mul]; rw [Nat.add_mul] at *; omega) (by omega)
    rcases Nat.lt_trichotomy (2 * r) (2 ^ D) with x | x | x
    · rw [rnd_up (n := W * 2 ^ D - N) (by omega), rnd_down (n := N) (by omega)]; omega
    · rw [rnd_half (n := W * 2 ^ D - N) (by omega), rnd_half (n := N) (by omega), e1, hqq]; omega
    · rw [rnd_down (n := W * 2 ^ D - N) (by omega), rnd_up (n := N) (by omega)]; omega

theorem rnd_scale (N D a : Nat) : rnd (N * 2 ^ a) (D + a) = rnd N D := by
  have h := div_eq N D
  have h0 : 0 < 2 ^ a := Nat.two_pow_pos a
  have hr : N % 2 ^ D < 2 ^ D := Nat.mod_lt _ (Nat.two_pow_pos D)
  have hp : 2 ^ (D + a) = 2 ^ D * 2 ^ a := Nat.pow_add ..
  obtain ⟨e1, e2⟩ := rnd_of (n := N * 2 ^ a) (d := D + a) (q := N / 2 ^ D) (r := N % 2 ^ D * 2 ^ a) (by
    conv => lhs; rw [h]
    rw [hp, Nat.add_mul, Nat.mul_assoc]) (by rw [hp]; exact Nat.mul_lt_mul_of_pos_right hr h0)
  unfold rnd
  rw [e1, e2, hp, ← Nat.mul_assoc]
  have i1 : (2 ^ D * 2 ^ a < 2 * (N % 2 ^ D) * 2 ^ a) ↔ (2 ^ D < 2 * (N % 2 ^ D)) := Nat.mul_lt_mul_right h0
  have i2 : (2 ^ D * 2 ^ a = 2 * (N % 2 ^ D) * 2 ^ a) ↔ (2 ^ D = 2 * (N % 2 ^ D)) := Nat.mul_left_inj (by omega)
  rw [decide_eq_decide.2 i1]
  congr 3
  rw [Bool.eq_iff_iff]; simp only [beq_iff_eq, Bool.and_eq_true]
  rw [i2]

theorem rnd_mono {n m d : Nat} (h : n ≤ m) : rnd n d ≤ rnd m d := by
  have hn := div_eq n d
  have hm := div_eq m d
  have h0 : 0 < 2 ^ d := Nat.two_pow_pos d
  have r1 : n % 2 ^ d < 2 ^ d := Nat.mod_lt _ h0
  have r2 : m % 2 ^ d < 2 ^ d := Nat.mod_lt _ h0
  have hq : n / 2 ^ d ≤ m / 2 ^ d := Nat.div_le_div_right h
  have up : rnd n d ≤ n / 2 ^ d + 1 := by
    unfold rnd; generalize (_ || _ : Bool) = b; cases b <;> simp
  have lo : m / 2 ^ d ≤ rnd m d := by unfold rnd; omega
  rcases Nat.lt_or_ge (n / 2 ^ d) (m / 2 ^ d) with x | x
  · omega
  · have e : n / 2 ^ d = m / 2 ^ d := by omega
    rw [e] at hn
    have hr : n % 2 ^ d ≤ m % 2 ^ d := by omega
    rcases Nat.lt_trichotomy (2 * (n % 2 ^ d)) (2 ^ d) with y | y | y
    · rw [rnd_down y]; omega
    · rcases Nat.lt_trichotomy (2 * (m % 2 ^ d)) (2 ^ d) with z | z | z
      · omega
      · rw [rnd_half y.symm, rnd_half z.symm, e]; omega
      · rw [rnd_half y.symm, rnd_up z, e]; omega
    · rw [rnd_up y, rnd_up (n := m) (by omega)]; omega

/-- A number that is less than half a unit from the whole q is rounded to q. -/
theorem rnd_near {n d q : Nat} (h1 : 2 * n < (2 * q + 1) * 2 ^ d) (h2 : 2 * q * 2 ^ d < 2 * n + 2 ^ d) : rnd n d = q := by
  have hn := div_eq n d
  have h0 : 0 < 2 ^ d := Nat.two_pow_pos d
  have r1 : n % 2 ^ d < 2 ^ d := Nat.mod_lt _ h0
  generalize hp : 2 ^ d = p at *
  rcases Nat.lt_trichotomy (n / p) q with x | x | x
  · have a : (n / p + 1) * p ≤ q * p := Nat.mul_le_mul_right _ x
    have e : n / p + 1 = q := by
      rcases Nat.lt_or_ge (n / p + 1) q with y | y
      · have : (n / p + 2) * p ≤ q * p := Nat.mul_le_mul_right _ y
        rw [Nat.add_mul, Nat.mul_assoc] at *
        omega
      · omega
    rw [← hp] at *
    rw [rnd_up (by rw [Nat.add_mul, Nat.mul_assoc] at *; omega)]; exact e
  · have e3 : q * p = n / p * p := by rw [x]
    have e4 : 2 * q * p = 2 * (q * p) := Nat.mul_assoc ..
    have e5 : (2 * q + 1) * p = 2 * q * p + p := by rw [Nat.add_mul, Nat.one_mul]
    have hd : 2 * (n % 2 ^ d) < 2 ^ d := by rw [hp]; omega
    rw [rnd_down hd, hp]; exact x
  · have a : (q + 1) * p ≤ n / p * p := Nat.mul_le_mul_right _ x
    rw [Nat.add_mul, Nat.mul_assoc] at *
    omega

/-- What the words of 64 bits stand for. -/
def mg (r : Nat) : Nat := if r < 2 ^ 52 then r else 2 ^ 52 + r % 2 ^ 52
def ex (r : Nat) : Nat := r / 2 ^ 52 - 1
/-- The size in units of the least one. -/
def val (r : Nat) : Nat := mg r * 2 ^ ex r
theorem read_fin {b : Nat} (h : b % 2 ^ 63 < 2047 * 2 ^ 52) : double.read b = .number (b / 2 ^ 63 % 2 == 1) (mg (b % 2 ^ 63)) (-1074 + (ex (b % 2 ^ 63) : Int)) := by
  have e1 : double.signWeight = 2 ^ 63 := by decide
  have e2 : double.binade = 2 ^ 52 := by decide
  have e3 : double.infRung = 2047 * 2 ^ 52 := by decide
  have e4 : double.leastPlace = -1074 := by decide
  unfold Format.read
  rw [e1, e2, e3, e4]
  generalize b % 2 ^ 63 = r at *
  dsimp only
  unfold mg ex
  by_cases h1 : r < 2 ^ 52
  · rw [if_pos h1, if_pos h1, Nat.div_eq_of_lt h1]; rfl
  · rw [if_neg h1, if_neg h1, if_pos h]
theorem mg_lt (r : Nat) : mg r < 2 ^ 53 := by
  unfold mg
  have := Nat.mod_lt r (show 0 < 2 ^ 52 by decide)
  split <;> omega
theorem val_mono {r q : Nat} (h : r ≤ q) : val r ≤ val q := by
  have hm := mg_lt r
  have hd : r / 2 ^ 52 ≤ q / 2 ^ 52 := Nat.div_le_div_right h
  have e1 := Nat.div_add_mod r (2 ^ 52)
  have e2 := Nat.div_add_mod q (2 ^ 52)
  unfold val
  by_cases h1 : ex r = ex q
  · rw [h1]
    refine Nat.mul_le_mul_right _ ?_
    unfold ex at h1
    unfold mg
    split <;> split <;> omega
  · have h2 : ex r + 1 ≤ ex q := by unfold ex at *; omega
    have h3 : ¬ q < 2 ^ 52 := by
      intro x
      have := Nat.div_eq_of_lt x
      unfold ex at h2; omega
    have h4 : 2 ^ 52 ≤ mg q := by unfold mg; rw [if_neg h3]; omega
    calc mg r * 2 ^ ex r ≤ 2 ^ 53 * 2 ^ ex r := Nat.mul_le_mul_right _ (by omega)
      _ = 2 ^ 52 * 2 ^ (ex r + 1) := by rw [← Nat.pow_add, ← Nat.pow_add]; congr 1; omega
      _ ≤ 2 ^ 52 * 2 ^ ex q := Nat.mul_le_mul_left _ (Nat.pow_le_pow_right (by omega) h2)
      _ ≤ mg q * 2 ^ ex q := Nat.mul_le_mul_right _ h4
theorem val_lt {r q : Nat} (h : r < q) : val r < val q := by
  refine Nat.lt_of_lt_of_le ?_ (val_mono (show r + 1 ≤ q from h))
  have hd : (r + 1) / 2 ^ 52 = r / 2 ^ 52 ∨ (r + 1) / 2 ^ 52 = r / 2 ^ 52 + 1 := by omega
  have hm := mg_lt r
  unfold val
  by_cases h1 : ex r = ex (r + 1)
  · rw [h1]
    refine Nat.mul_lt_mul_of_pos_right ?_ (Nat.two_pow_pos _)
    unfold ex at h1
    unfold mg
    split <;> split <;> omega
  · have h2 : ex (r + 1) = ex r + 1 := by unfold ex at *; omega
    have h3 : 2 ^ 52 ≤ mg (r + 1) := by
      unfold mg; split
      · rename_i x
        have := Nat.div_eq_of_lt x
        unfold ex at h2; omega
      · omega
    rw [h2, Nat.pow_succ, ← Nat.mul_assoc, Nat.mul_right_comm]
    exact Nat.mul_lt_mul_of_pos_right (by omega) (Nat.two_pow_pos _)
theorem val_le {r q : Nat} : val r ≤ val q ↔ r ≤ q := by
  constructor
  · intro h
    rcases Nat.lt_or_ge q r with x | x
    · have := val_lt x; omega
    · exact x
  · exact val_mono

/-- A sign and a size as an integer. -/
def sg (s : Bool) (n : Nat) : Int := if s then -(n : Int) else n
theorem signed_eq (s : Bool) (m k : Nat) : signed s m k = sg s (m * 2 ^ k) := by
  unfold signed sg; rw [Nat.shiftLeft_eq]
theorem sg_mul (s : Bool) (m k : Nat) : sg s (m * k) = sg s m * (k : Int) := by
  unfold sg; cases s
  · simp
  · simp [Int.neg_mul]
theorem cmp_mul (a b : Int) {k : Nat} (h : 0 < k) : compare (a * (k : Int)) (b * (k : Int)) = compare a b := by
  have hk : (0 : Int) < (k : Int) := by omega
  have i1 : a * (k : Int) < b * (k : Int) ↔ a < b := Int.mul_lt_mul_right hk
  have i2 : a * (k : Int) = b * (k : Int) ↔ a = b := ⟨fun e => Int.eq_of_mul_eq_mul_right (by omega) e, fun e => by rw [e]⟩
  simp only [compare, compareOfLessAndEq, i1, i2]
/-- How two finite words stand to each other. -/
theorem order_fin {a b : Nat} (ha : a % 2 ^ 63 < 2047 * 2 ^ 52) (hb : b % 2 ^ 63 < 2047 * 2 ^ 52) :
    double.order a b = some (compare (sg (a / 2 ^ 63 % 2 == 1) (val (a % 2 ^ 63))) (sg (b / 2 ^ 63 % 2 == 1) (val (b % 2 ^ 63)))) := by
  unfold Format.order
  rw [read_fin ha, read_fin hb]
  unfold Datum.order
  simp only [signed_eq]
  congr 1
  generalize (a / 2 ^ 63 % 2 == 1) = s
  generalize (b / 2 ^ 63 % 2 == 1) = t
  generalize a % 2 ^ 63 = r
  generalize b % 2 ^ 63 = q
  have hx : ∃ c : Nat, (min (-1074 + (ex r : Int)) (-1074 + (ex q : Int))) = -1074 + (c : Int) ∧ c ≤ ex r ∧ c ≤ ex q := ⟨min (ex r) (ex q), by omega, by omega, by omega⟩
  obtain ⟨c, e, h1, h2⟩ := hx
  rw [e, show (-1074 + (ex r : Int) - (-1074 + (c : Int))).toNat = ex r - c by omega, show (-1074 + (ex q : Int) - (-1074 + (c : Int))).toNat = ex q - c by omega]
  rw [← cmp_mul _ _ (Nat.two_pow_pos c), ← sg_mul, ← sg_mul, Nat.mul_assoc, Nat.mul_assoc, ← Nat.pow_add, ← Nat.pow_add, Nat.sub_add_cancel h1, Nat.sub_add_cancel h2]
  rfl

theorem nearest_eq (s : Bool) {m : Nat} (p : Int) (hm : m ≠ 0) : double.nearest s m p = double.word s (min ((max (p + m.log2 - 52) (-1074) + 1074).toNat * 2 ^ 52 + rnd (m * 2 ^ (p - max (p + m.log2 - 52) (-1074)).toNat) (max (p + m.log2 - 52) (-1074) - p).toNat) (2047 * 2 ^ 52)) := by
  have e2 : double.binade = 2 ^ 52 := by decide
  have e3 : double.infRung = 2047 * 2 ^ 52 := by decide
  have e4 : double.leastPlace = -1074 := by decide
  have e5 : (double.fractionBits : Int) = 52 := by decide
  unfold Format.nearest
  rw [if_neg hm, e2, e3, e4, e5]
  simp only [cut_rnd, Nat.shiftLeft_eq, Int.sub_neg]

theorem nearest_whole {T D : Nat} (h1 : 2 ^ 52 * 2 ^ D ≤ T) (h2 : T < 2 ^ 53 * 2 ^ D) (h3 : rnd T D < 2 ^ 53) : double.nearest false T (-(D : Int)) = 1074 * 2 ^ 52 + rnd T D := by
  have h0 : 0 < 2 ^ D := Nat.two_pow_pos D
  have hT : T ≠ 0 := by
    have : 0 < 2 ^ 52 * 2 ^ D := Nat.mul_pos (by omega) h0
    omega
  have hl : T.log2 = 52 + D := (Nat.log2_eq_iff hT).2 ⟨by rw [Nat.pow_add]; exact h1, by rw [show 52 + D + 1 = 53 + D by omega, Nat.pow_add]; exact h2⟩
  rw [nearest_eq false _ hT, hl, show max (-(D : Int) + ((52 + D : Nat) : Int) - 52) (-1074) = 0 by omega, show (-(D : Int) - 0).toNat = 0 by omega, show (0 - -(D : Int)).toNat = D by omega, Nat.pow_zero, Nat.mul_one]
  unfold Format.word
  rw [if_neg (by decide), Nat.min_eq_left (by omega)]
  rfl

/-- A whole number below 2 ^ 53 is written and read as it is. -/
theorem whole_back (s : Bool) {n : Nat} (h : n < 2 ^ 53) : (double.read (double.nearest s n 0)).toInt .zero = some (sg s n) := by
  by_cases hn : n = 0
  · subst hn
    cases s <;> decide
  · have hl : n.log2 < 53 := (Nat.log2_lt hn).2 h
    have hlo : 2 ^ n.log2 ≤ n := Nat.log2_self_le hn
    have hhi : n < 2 ^ (n.log2 + 1) := Nat.lt_log2_self
    generalize hL : n.log2 = L at *
    have hp : 2 ^ L * 2 ^ (52 - L) = 2 ^ 52 := by rw [← Nat.pow_add]; congr 1; omega
    have hp' : 2 ^ (L + 1) * 2 ^ (52 - L) = 2 ^ 53 := by rw [← Nat.pow_add]; congr 1; omega
    have b1 : 2 ^ 52 ≤ n * 2 ^ (52 - L) := by rw [← hp]; exact Nat.mul_le_mul_right _ hlo
    have b2 : n * 2 ^ (52 - L) < 2 ^ 53 := by rw [← hp']; exact Nat.mul_lt_mul_of_pos_right hhi (Nat.two_pow_pos _)
    have hr : rnd (n * 2 ^ (52 - L)) 0 = n * 2 ^ (52 - L) := by
      rw [rnd_down (by omega)]; simp
    rw [nearest_eq s _ hn, hL, show max (0 + (L : Int) - 52) (-1074) = (L : Int) - 52 by omega, show (0 - ((L : Int) - 52)).toNat = 52 - L by omega, show ((L : Int) - 52 - 0).toNat = 0 by omega, hr, show ((L : Int) - 52 + 1074).toNat = L + 1022 by omega]
    generalize hM : n * 2 ^ (52 - L) = M at *
    rw [Nat.min_eq_left (by omega)]
    have hw : double.word s ((L + 1022) * 2 ^ 52 + M) % 2 ^ 63 = (L + 1022) * 2 ^ 52 + M ∧ (double.word s ((L + 1022) * 2 ^ 52 + M) / 2 ^ 63 % 2 == 1) = s := by
      have e1 : double.signWeight = 2 ^ 63 := by decide
      unfold Format.word
      rw [e1]
      cases s
      · rw [if_neg (by decide)]; exact ⟨by omega, by rw [Nat.div_eq_of_lt (by omega)]; rfl⟩
      · rw [if_pos rfl]; exact ⟨by omega, by rw [show (2 ^ 63 + ((L + 1022) * 2 ^ 52 + M)) / 2 ^ 63 = 1 by omega]; rfl⟩
    rw [read_fin (by rw [hw.1]; omega), hw.1, hw.2]
    have hm : mg ((L + 1022) * 2 ^ 52 + M) = M := by unfold mg; rw [if_neg (by omega)]; omega
    have he : ex ((L + 1022) * 2 ^ 52 + M) = L + 1022 := by unfold ex; omega
    rw [hm, he]
    unfold Datum.toInt Datum.integral
    simp only
    rw [show (-1074 + ((L + 1022 : Nat) : Int)).toNat = 0 by omega, show (-(-1074 + ((L + 1022 : Nat) : Int))).toNat = 52 - L by omega]
    have hMl : 52 - L ≤ M.log2 + 2 := by
      have : 52 ≤ M.log2 := (Nat.le_log2 (by omega)).2 b1
      omega
    have hc : Toward.zero.cut s (M <<< 0) (52 - L) = n := by
      rw [Nat.shiftLeft_zero]
      unfold Toward.cut
      rw [Nat.min_eq_left hMl, Nat.one_shiftLeft]
      simp only [Bool.toNat_false, Nat.add_zero]
      rw [← hM, Nat.mul_div_cancel _ (Nat.two_pow_pos _)]
    rw [hc, signed_eq, Nat.pow_zero, Nat.mul_one]

/-- The least unit's place, below the point. -/
def dd : Nat := 1074
theorem dd_eq : dd = 1074 := rfl
/-- The steps of a float's size. -/
def stp (r : Nat) : Nat := rnd (val r * 10000000) dd
theorem val_180 : val 0x4066800000000000 = 180 * 2 ^ dd := by decide +kernel
theorem stp_le {r : Nat} (h : r ≤ 0x4066800000000000) : stp r ≤ 1800000000 := by
  have : stp r ≤ stp 0x4066800000000000 := rnd_mono (Nat.mul_le_mul_right _ (val_mono h))
  have e : stp 0x4066800000000000 = 1800000000 := by
    unfold stp
    rw [val_180, show 180 * 2 ^ dd * 10000000 = 1800000000 * 2 ^ dd + 0 by generalize 2 ^ dd = x; omega]
    rw [rnd_add (by decide)]
    decide +kernel
  omega

theorem sg_false (n : Nat) : sg false n = n := rfl
theorem sg_true (n : Nat) : sg true n = -(n : Int) := rfl
def c7 : Nat := 10000000 * 2 ^ 29
theorem c7_eq : c7 = 10000000 * 2 ^ 29 := rfl
theorem fma_steps {b : Nat} (h : b % 2 ^ 63 ≤ 0x4066800000000000) :
    double.fma b 0x416312D000000000 0x4338000000000000 = some (1074 * 2 ^ 52 + (3 * 2 ^ 51 + sg (b / 2 ^ 63 % 2 == 1) (stp (b % 2 ^ 63))).toNat) := by
  have r1 : double.read 0x416312D000000000 = .number false c7 (-29) := by decide +kernel
  have r2 : double.read 0x4338000000000000 = .number false (3 * 2 ^ 51) 0 := by decide +kernel
  unfold Format.fma
  rw [read_fin (by omega), r1, r2]
  generalize (b / 2 ^ 63 % 2 == 1) = s
  have hs := stp_le h
  have hv := val_mono h
  rw [val_180] at hv
  have hex : ex (b % 2 ^ 63) ≤ 1029 := by unfold ex; omega
  generalize b % 2 ^ 63 = r at *
  have hN : rnd (mg r * c7) (1103 - ex r) = stp r := by
    rw [← rnd_scale _ _ (ex r), Nat.sub_add_cancel (by omega), show 1103 = dd + 29 from rfl]
    unfold stp
    rw [← rnd_scale _ dd 29]
    refine congrArg (fun x => rnd x _) ?_
    unfold val
    rw [Nat.mul_right_comm, c7_eq, ← Nat.mul_assoc]
  have hB : mg r * c7 ≤ 1800000000 * 2 ^ (1103 - ex r) := by
    refine Nat.le_of_mul_le_mul_right (c := 2 ^ ex r) ?_ (Nat.two_pow_pos _)
    rw [Nat.mul_assoc 1800000000, ← Nat.pow_add, Nat.sub_add_cancel (by omega), Nat.mul_right_comm]
    have : mg r * 2 ^ ex r * c7 ≤ 180 * 2 ^ dd * c7 := Nat.mul_le_mul_right _ hv
    refine Nat.le_trans this (Nat.le_of_eq ?_)
    rw [show 1103 = dd + 29 from rfl, Nat.pow_add]
    generalize 2 ^ dd = x
    rw [c7_eq]
    generalize 2 ^ 29 = y
    rw [Nat.mul_mul_mul_comm, Nat.mul_assoc]
  have hDd : 1103 - ex r ≥ 74 := by omega
  have hi : -1074 + (ex r : Int) + -29 = -((1103 - ex r : Nat) : Int) := by omega
  simp only [Datum.product, Option.bind_some, Datum.sum, signed_eq]
  generalize mg r * c7 = N at *
  generalize 1103 - ex r = D at *
  generalize stp r = n at *
  have h0 : 0 < 2 ^ D := Nat.two_pow_pos D
  rw [hi, show min (-(D : Int)) 0 = -(D : Int) by omega, show (-(D : Int) - -(D : Int)).toNat = 0 by omega, show (0 - -(D : Int)).toNat = D by omega, Nat.pow_zero, Nat.mul_one]
  simp only [Option.map_some, Format.write, Option.some.injEq]
  have e1 : sg false (3 * 2 ^ 51 * 2 ^ D) = ((3 * 2 ^ 51 * 2 ^ D : Nat) : Int) := sg_false _
  cases s
  · have e2 : sg (false ^^ false) N + sg false (3 * 2 ^ 51 * 2 ^ D) = ((3 * 2 ^ 51 * 2 ^ D + N : Nat) : Int) := by rw [e1, show (false ^^ false) = false from rfl, sg_false N]; omega
    have hk : rnd (3 * 2 ^ 51 * 2 ^ D + N) D = 3 * 2 ^ 51 + n := by rw [rnd_add (by decide), hN]
    rw [e2, if_neg (by generalize 2 ^ D = x at *; omega), decide_eq_false (by omega), Int.natAbs_natCast, nearest_whole (by generalize 2 ^ D = x at *; omega) (by generalize 2 ^ D = x at *; omega) (by omega), hk]
    rw [sg_false n]; omega
  · have hle : N ≤ 3 * 2 ^ 51 * 2 ^ D := by generalize 2 ^ D = x at *; omega
    have e2 : sg (true ^^ false) N + sg false (3 * 2 ^ 51 * 2 ^ D) = ((3 * 2 ^ 51 * 2 ^ D - N : Nat) : Int) := by rw [e1, show (true ^^ false) = true from rfl, sg_true N]; omega
    have hk := rnd_sub (W := 3 * 2 ^ 51) (N := N) (D := D) (by decide) hle
    rw [hN] at hk
    rw [e2, if_neg (by generalize 2 ^ D = x at *; omega), decide_eq_false (by omega), Int.natAbs_natCast, nearest_whole (by generalize 2 ^ D = x at *; omega) (by generalize 2 ^ D = x at *; omega) (by omega)]
    rw [sg_true n]; omega

/-- The whole of the reckoning: the sum, and what was added taken away. -/
theorem sub_steps {s : Bool} {n : Nat} (h : n ≤ 1800000000) : ∃ z, double.sub (1074 * 2 ^ 52 + (3 * 2 ^ 51 + sg s n).toNat) 0x4338000000000000 = some z ∧ (double.read z).toInt .zero = some (sg s n) := by
  have r2 : double.read 0x4338000000000000 = .number false (3 * 2 ^ 51) 0 := by decide +kernel
  have hK : ∃ K : Nat, (3 * 2 ^ 51 + sg s n).toNat = K ∧ (K : Int) = 3 * 2 ^ 51 + sg s n ∧ 2 ^ 52 ≤ K ∧ K < 2 ^ 53 := ⟨_, rfl, by cases s <;> simp [sg] <;> omega, by cases s <;> simp [sg] <;> omega, by cases s <;> simp [sg] <;> omega⟩
  obtain ⟨K, e, eK, k1, k2⟩ := hK
  rw [e]
  have hmod : (1074 * 2 ^ 52 + K) % 2 ^ 63 = 1074 * 2 ^ 52 + K := by omega
  have hr : double.read (1074 * 2 ^ 52 + K) = .number false K 0 := by
    rw [read_fin (by omega), hmod, show mg (1074 * 2 ^ 52 + K) = K by unfold mg; rw [if_neg (by omega)]; omega, show ex (1074 * 2 ^ 52 + K) = 1074 by unfold ex; omega, show (1074 * 2 ^ 52 + K) / 2 ^ 63 = 0 by omega]
    rfl
  unfold Format.sub
  rw [hr, r2]
  have hd : Datum.sum (.number false K 0) (Datum.number false (3 * 2 ^ 51) 0).opposite = some (.number (if sg s n = 0 then false else decide (sg s n < 0)) n 0) := by
    simp only [Datum.opposite, Datum.sum, signed_eq]
    have e3 : sg false (K * 2 ^ (0 - min 0 0 : Int).toNat) + sg (!false) (3 * 2 ^ 51 * 2 ^ (0 - min 0 0 : Int).toNat) = sg s n := by
      rw [show (0 - min 0 0 : Int).toNat = 0 by decide, Nat.pow_zero, Nat.mul_one, Nat.mul_one, sg_false K, eK]
      simp [sg]; omega
    rw [e3]
    have e4 : (sg s n).natAbs = n := by cases s <;> simp [sg]
    rw [e4]; rfl
  rw [hd]
  refine ⟨_, rfl, ?_⟩
  show (double.read (double.nearest _ n 0)).toInt .zero = _
  rw [whole_back _ (by omega)]
  congr 1
  cases s
  · rcases Nat.eq_zero_or_pos n with x | x
    · subst x; rfl
    · rw [if_neg (by simp [sg]; omega)]; simp [sg]; omega
  · rcases Nat.eq_zero_or_pos n with x | x
    · subst x; rfl
    · rw [if_neg (by simp [sg]; omega)]; simp [sg]; omega

theorem read_inf {b : Nat} (h : b % 2 ^ 63 = 2047 * 2 ^ 52) : double.read b = .infinity (b / 2 ^ 63 % 2 == 1) := by
  have e1 : double.signWeight = 2 ^ 63 := by decide
  have e2 : double.binade = 2 ^ 52 := by decide
  have e3 : double.infRung = 2047 * 2 ^ 52 := by decide
  unfold Format.read
  rw [e1, e2, e3]
  dsimp only
  rw [h, if_neg (by decide), if_neg (by decide), if_pos rfl]
theorem read_nan {b : Nat} (h : 2047 * 2 ^ 52 < b % 2 ^ 63) : ∃ t, double.read b = .nan (b / 2 ^ 63 % 2 == 1) t := by
  have e1 : double.signWeight = 2 ^ 63 := by decide
  have e2 : double.binade = 2 ^ 52 := by decide
  have e3 : double.infRung = 2047 * 2 ^ 52 := by decide
  unfold Format.read
  rw [e1, e2, e3]
  dsimp only
  rw [if_neg (by omega), if_neg (by omega), if_neg (by omega)]
  exact ⟨_, rfl⟩
/-- The words of 180 and of its opposite. -/
def w180 (t : Bool) : Nat := if t then 0xC066800000000000 else 0x4066800000000000
theorem read_180 (s : Bool) : double.read (w180 s) = .number s (2 ^ 52 + 0x4066800000000000 % 2 ^ 52) (-1074 + 1029) := by cases s <;> decide +kernel
/-- A word against 180 or its opposite. -/
theorem order_180 (b : Nat) (t : Bool) : double.order b (w180 t) =
    if 2047 * 2 ^ 52 < b % 2 ^ 63 then none else some (if (b / 2 ^ 63 % 2 == 1) = t then (if t then compare 0x4066800000000000 (b % 2 ^ 63) else compare (b % 2 ^ 63) 0x4066800000000000) else if t then .gt else .lt) := by
  rcases Nat.lt_trichotomy (b % 2 ^ 63) (2047 * 2 ^ 52) with h | h | h
  · rw [if_neg (by omega)]
    have c1 : w180 t % 2 ^ 63 = 0x4066800000000000 := by cases t <;> rfl
    have c2 : (w180 t / 2 ^ 63 % 2 == 1) = t := by cases t <;> rfl
    rw [order_fin h (by rw [c1]; omega), c1, c2]
    congr 1
    generalize (b / 2 ^ 63 % 2 == 1) = s
    generalize b % 2 ^ 63 = r
    have m1 : ∀ {x y : Nat}, val x < val y ↔ x < y := fun {x y} => by
      have := val_le (r := y) (q := x); omega
    have m2 : ∀ {x y : Nat}, val x = val y ↔ x = y := fun {x y} => by
      have := val_le (r := y) (q := x); have := val_le (r := x) (q := y); omega
    have p1 : 0 < val 0x4066800000000000 := Nat.lt_of_le_of_lt (Nat.zero_le _) (val_lt (show 0 < 0x4066800000000000 by decide))
    generalize hc : 0x4066800000000000 = c at *
    cases s <;> cases t
    · simp only [sg, compare, compareOfLessAndEq, Bool.false_eq_true, if_false, if_true]
      simp only [Int.ofNat_lt, Int.ofNat_inj, m1, m2]
    · simp only [sg, compare, compareOfLessAndEq, Bool.false_eq_true, if_false, if_true]
      rw [if_neg (by omega), if_neg (by omega)]
    · simp only [sg, compare, compareOfLessAndEq, Bool.true_eq_false, Bool.false_eq_true, if_false, if_true]
      rw [if_pos (by omega)]
    · simp only [sg, compare, compareOfLessAndEq, if_true]
      simp only [Int.neg_lt_neg_iff, Int.neg_inj, Int.ofNat_lt, Int.ofNat_inj, m1, m2, eq_comm]
  · rw [if_neg (by omega)]
    unfold Format.order
    rw [read_inf h, read_180, h]
    cases t <;> cases (b / 2 ^ 63 % 2 == 1) <;> rfl
  · rw [if_pos h]
    unfold Format.order
    obtain ⟨x, e⟩ := read_nan h
    rw [e]; rfl

theorem val_kept (e : Nat) {K : Nat} (h1 : 2 ^ 52 ≤ K) (h2 : K ≤ 2 ^ 53) : val (e * 2 ^ 52 + K) = K * 2 ^ e := by
  rcases Nat.lt_or_ge K (2 ^ 53) with h | h
  · unfold val
    rw [show mg (e * 2 ^ 52 + K) = K by unfold mg; rw [if_neg (by omega)]; omega, show ex (e * 2 ^ 52 + K) = e by unfold ex; omega]
  · have : K = 2 ^ 53 := by omega
    subst this
    unfold val
    rw [show mg (e * 2 ^ 52 + 2 ^ 53) = 2 ^ 52 by unfold mg; rw [if_neg (by omega)]; omega, show ex (e * 2 ^ 52 + 2 ^ 53) = e + 1 by unfold ex; omega, Nat.pow_succ]
    omega
theorem word_parts (s : Bool) {r : Nat} (h : r < 2 ^ 63) : double.word s r % 2 ^ 63 = r ∧ (double.word s r / 2 ^ 63 % 2 == 1) = s ∧ double.word s r < 2 ^ 64 := by
  have e1 : double.signWeight = 2 ^ 63 := by decide
  unfold Format.word
  rw [e1]
  cases s
  · rw [if_neg (by decide)]; exact ⟨by omega, by rw [Nat.div_eq_of_lt (by omega)]; rfl, by omega⟩
  · rw [if_pos rfl]; exact ⟨by omega, by rw [show (2 ^ 63 + r) / 2 ^ 63 = 1 by omega]; rfl, by omega⟩
/-- A whole number below 2 ^ 53 as a word, read. -/
theorem whole_read (s : Bool) {n : Nat} (hn : n ≠ 0) (h : n < 2 ^ 53) : double.read (double.nearest s n 0) = .number s (n * 2 ^ (52 - n.log2)) ((n.log2 : Int) - 52) ∧ 2 ^ 52 ≤ n * 2 ^ (52 - n.log2) ∧ n * 2 ^ (52 - n.log2) < 2 ^ 53 := by
  have hl : n.log2 < 53 := (Nat.log2_lt hn).2 h
  have hlo : 2 ^ n.log2 ≤ n := Nat.log2_self_le hn
  have hhi : n < 2 ^ (n.log2 + 1) := Nat.lt_log2_self
  generalize hL : n.log2 = L at *
  have hp : 2 ^ L * 2 ^ (52 - L) = 2 ^ 52 := by rw [← Nat.pow_add]; congr 1; omega
  have hp' : 2 ^ (L + 1) * 2 ^ (52 - L) = 2 ^ 53 := by rw [← Nat.pow_add]; congr 1; omega
  have b1 : 2 ^ 52 ≤ n * 2 ^ (52 - L) := by rw [← hp]; exact Nat.mul_le_mul_right _ hlo
  have b2 : n * 2 ^ (52 - L) < 2 ^ 53 := by rw [← hp']; exact Nat.mul_lt_mul_of_pos_right hhi (Nat.two_pow_pos _)
  refine ⟨?_, b1, b2⟩
  have hr : rnd (n * 2 ^ (52 - L)) 0 = n * 2 ^ (52 - L) := by
    rw [rnd_down (by omega)]; simp
  rw [nearest_eq s _ hn, hL, show max (0 + (L : Int) - 52) (-1074) = (L : Int) - 52 by omega, show (0 - ((L : Int) - 52)).toNat = 52 - L by omega, show ((L : Int) - 52 - 0).toNat = 0 by omega, hr, show ((L : Int) - 52 + 1074).toNat = L + 1022 by omega]
  generalize hM : n * 2 ^ (52 - L) = M at *
  rw [Nat.min_eq_left (by omega)]
  obtain ⟨w1, w2, _⟩ := word_parts s (r := (L + 1022) * 2 ^ 52 + M) (by omega)
  rw [read_fin (by rw [w1]; omega), w1, w2]
  have hm : mg ((L + 1022) * 2 ^ 52 + M) = M := by unfold mg; rw [if_neg (by omega)]; omega
  have he : ex ((L + 1022) * 2 ^ 52 + M) = L + 1022 := by unfold ex; omega
  rw [hm, he, show -1074 + ((L + 1022 : Nat) : Int) = (L : Int) - 52 by omega]
theorem rnd_err (n d : Nat) : 2 * (rnd n d * 2 ^ d) ≤ 2 * n + 2 ^ d ∧ 2 * n ≤ 2 * (rnd n d * 2 ^ d) + 2 ^ d := by
  have hn := div_eq n d
  have r1 : n % 2 ^ d < 2 ^ d := Nat.mod_lt _ (Nat.two_pow_pos d)
  rcases Nat.lt_trichotomy (2 * (n % 2 ^ d)) (2 ^ d) with y | y | y
  · rw [rnd_down y]; omega
  · rw [rnd_half y.symm]
    rcases Nat.mod_two_eq_zero_or_one (n / 2 ^ d) with e | e
    · rw [e]; simp only [Nat.add_zero]; omega
    · rw [e, Nat.add_mul, Nat.one_mul]; omega
  · rw [rnd_up y, Nat.add_mul, Nat.one_mul]; omega

/-- The document's reckoning in two halves. -/
def lwq (m : Nat) : Nat := m % 67108864 * 10000000
def hiq (m : Nat) : Nat := m / 67108864 * 10000000 + lwq m / 67108864
def loq (m : Nat) : Nat := lwq m % 67108864
theorem hiq_loq (m : Nat) : m * 10000000 = hiq m * 2 ^ 26 + loq m := by
  unfold hiq loq lwq; omega
theorem ref_far {m k : Nat} (hm : m < 2 ^ 53) (hk : 86 ≤ k) : rnd (m * 10000000) k = 0 := by
  have h1 : 2 ^ 86 ≤ 2 ^ k := Nat.pow_le_pow_right (by omega) hk
  have h2 : m * 10000000 < 2 ^ k := by
    have : (2 : Nat) ^ 86 = 77371252455336267181195264 := by decide
    omega
  rw [rnd_down (by rw [Nat.mod_eq_of_lt h2]; have : (2 : Nat) ^ 86 = 77371252455336267181195264 := by decide
                   omega), Nat.div_eq_of_lt h2]
theorem ref_near {m j : Nat} (hj : 1 ≤ j) :
    (2 ^ j / 2 < hiq m % 2 ^ j ∨ hiq m % 2 ^ j = 2 ^ j / 2 ∧ 0 < loq m → rnd (m * 10000000) (j + 26) = hiq m / 2 ^ j + 1) ∧
    (hiq m % 2 ^ j = 2 ^ j / 2 ∧ loq m = 0 → rnd (m * 10000000) (j + 26) = hiq m / 2 ^ j + hiq m / 2 ^ j % 2) ∧
    (hiq m % 2 ^ j < 2 ^ j / 2 → rnd (m * 10000000) (j + 26) = hiq m / 2 ^ j) := by
  obtain ⟨i, rfl⟩ : ∃ i, j = i + 1 := ⟨j - 1, by omega⟩
  have h0 : 0 < 2 ^ i := Nat.two_pow_pos i
  have h1 : 2 ^ (i + 1) = 2 * 2 ^ i := by rw [Nat.pow_succ]; omega
  have h2 : 2 ^ (i + 1) / 2 = 2 ^ i := by omega
  have e := hiq_loq m
  have hl : loq m < 2 ^ 26 := Nat.mod_lt _ (by decide)
  have h3 : 2 ^ (i + 1 + 26) = 2 ^ (i + 1) * 2 ^ 26 := Nat.pow_add ..
  have hd := div_eq (hiq m) (i + 1)
  have hr : hiq m % 2 ^ (i + 1) < 2 ^ (i + 1) := Nat.mod_lt _ (Nat.two_pow_pos _)
  rw [h2]
  have hB : 0 < 2 ^ 26 := by decide
  generalize 2 ^ 26 = B at *
  generalize m * 10000000 = n at *
  generalize hiq m = H at *
  generalize loq m = l at *
  generalize hq : H / 2 ^ (i + 1) = q at *
  generalize hrr : H % 2 ^ (i + 1) = r at *
  have hrB : r + 1 ≤ 2 ^ (i + 1) := hr
  have hrB' : (r + 1) * B ≤ 2 ^ (i + 1) * B := Nat.mul_le_mul_right _ hrB
  rw [Nat.add_mul, Nat.one_mul] at hrB'
  obtain ⟨d1, d2⟩ := rnd_of (n := n) (d := i + 1 + 26) (q := q) (r := r * B + l) (by
    rw [e, hd, h3, ← Nat.mul_assoc, Nat.add_mul, Nat.add_assoc]) (by rw [h3]; omega)
  have hu : 2 ^ (i + 1) * B = 2 * (2 ^ i * B) := by rw [h1, Nat.mul_assoc]
  refine ⟨?_, ?_, ?_⟩
  · intro h
    refine (rnd_up ?_).trans (by rw [d1])
    rw [d2, h3, hu]
    rcases h with h | h
    · have : (2 ^ i + 1) * B ≤ r * B := Nat.mul_le_mul_right _ h
      rw [Nat.add_mul, Nat.one_mul] at this; omega
    · rw [h.1]; omega
  · intro h
    refine (rnd_half ?_).trans (by rw [d1])
    rw [d2, h3, hu, h.1, h.2]; omega
  · intro h
    refine (rnd_down ?_).trans d1
    rw [d2, h3, hu]
    have : (r + 1) * B ≤ 2 ^ i * B := Nat.mul_le_mul_right _ h
    rw [Nat.add_mul, Nat.one_mul] at this; omega

theorem log2_of {n k : Nat} (h1 : 2 ^ k ≤ n) (h2 : n < 2 ^ (k + 1)) : n.log2 = k :=
  (Nat.log2_eq_iff (by have := Nat.two_pow_pos k; omega)).2 ⟨h1, h2⟩
/-- What Degrees makes of a number of steps, and Steps of that. -/
theorem deg_back (s : Bool) {a : Nat} (h0 : a ≠ 0) (h : a < 1800000000) : ∃ z, double.div (double.nearest s a 0) 0x416312D000000000 = some z ∧ z < 2 ^ 64 ∧ (z / 2 ^ 63 % 2 == 1) = s ∧ z % 2 ^ 63 ≤ 0x4066800000000000 ∧ stp (z % 2 ^ 63) = a := by
  have r1 : double.read 0x416312D000000000 = .number false c7 (-29) := by decide +kernel
  obtain ⟨ra, b1, b2⟩ := whole_read s h0 (by omega)
  have hl : a.log2 < 31 := (Nat.log2_lt h0).2 (by omega)
  unfold Format.div
  rw [ra, r1]
  have hM2 : (a * 2 ^ (52 - a.log2)).log2 = 52 := log2_of b1 b2
  have hML : a * 2 ^ (52 - a.log2) * 2 ^ a.log2 = a * 2 ^ 52 := by rw [Nat.mul_assoc, ← Nat.pow_add]; congr 2; omega
  generalize a.log2 = L at *
  generalize a * 2 ^ (52 - L) = M at *
  have c1 : c7.log2 = 52 := by decide +kernel
  have c0 : c7 ≠ 0 := by decide
  have cl : 2 ^ 52 ≤ c7 := by decide
  have cu : c7 < 2 ^ 53 := by decide
  have e5 : double.fractionBits = 52 := rfl
  simp only [Datum.quotient, hM2, c1, e5, if_neg c0, Nat.shiftLeft_eq, Option.map_some, Format.write, Bool.xor_false]
  rw [show 52 + 2 + 52 - 52 = 54 from rfl, show ((L : Int) - 52 - -29 - ((54 : Nat) : Int) - 1) = (L : Int) - 78 by omega]
  have hq := Nat.div_add_mod (M * 2 ^ 54) c7
  have hqr : M * 2 ^ 54 % c7 < c7 := Nat.mod_lt _ (by omega)
  have hbit : (M * 2 ^ 54 % c7 != 0).toNat ≤ 1 := by generalize (_ != 0 : Bool) = x; cases x <;> simp
  have hQ1 : 2 ^ 53 ≤ M * 2 ^ 54 / c7 := (Nat.le_div_iff_mul_le (by omega)).2 (by omega)
  have hQ2 : M * 2 ^ 54 / c7 < 2 ^ 55 := (Nat.div_lt_iff_lt_mul (by omega)).2 (by omega)
  generalize M * 2 ^ 54 / c7 = Q at *
  generalize M * 2 ^ 54 % c7 = R at *
  generalize (R != 0).toNat = x at *
  have hcm : 2 * (c7 * Q) ≤ c7 * (2 * Q + x) ∧ c7 * (2 * Q + x) ≤ 2 * (c7 * Q) + c7 := by
    rw [Nat.mul_add, Nat.mul_left_comm]
    have : c7 * x ≤ c7 * 1 := Nat.mul_le_mul_left _ hbit
    omega
  have hm1 : 2 ^ 54 ≤ 2 * Q + x := by omega
  have hm2 : 2 * Q + x < 2 ^ 56 := by omega
  generalize 2 * Q + x = mag at *
  have hg : mag ≠ 0 := by omega
  obtain ⟨t, ht, ht1, g1, g2⟩ : ∃ t : Nat, mag.log2 = 52 + t ∧ (t = 2 ∨ t = 3) ∧ 2 ^ 52 * 2 ^ t ≤ mag ∧ mag < 2 ^ 53 * 2 ^ t := by
    rcases Nat.lt_or_ge mag (2 ^ 55) with y | y
    · exact ⟨2, log2_of hm1 y, Or.inl rfl, by omega, by omega⟩
    · exact ⟨3, log2_of y hm2, Or.inr rfl, by omega, by omega⟩
  rw [nearest_eq s _ hg, ht, show max ((L : Int) - 78 + ((52 + t : Nat) : Int) - 52) (-1074) = (L : Int) - 78 + t by omega, show ((L : Int) - 78 - ((L : Int) - 78 + t)).toNat = 0 by omega, show ((L : Int) - 78 + t - ((L : Int) - 78)).toNat = t by omega, Nat.pow_zero, Nat.mul_one, show ((L : Int) - 78 + t + 1074).toNat = L + 996 + t by omega]
  have hK := rnd_err mag t
  have hK1 : 2 ^ 52 ≤ rnd mag t := by
    have := rnd_mono (d := t) g1
    have e := rnd_add (W := 2 ^ 52) (N := 0) (D := t) (by decide)
    rw [Nat.add_zero] at e; rw [e] at this; omega
  have hK2 : rnd mag t ≤ 2 ^ 53 := by
    have := rnd_mono (d := t) (Nat.le_of_lt g2)
    have e := rnd_add (W := 2 ^ 53) (N := 0) (D := t) (by decide)
    have e0 : rnd 0 t = 0 := by unfold rnd; simp
    rw [Nat.add_zero, e0, Nat.add_zero] at e; rw [e] at this; exact this
  generalize hKe : rnd mag t = K at *
  have hv := val_kept (L + 996 + t) hK1 hK2
  have hlt : (L + 996 + t) * 2 ^ 52 + K ≤ 2047 * 2 ^ 52 := by
    clear hv hML hK hq hcm ra r1
    omega
  rw [Nat.min_eq_left hlt]
  obtain ⟨w1, w2, w3⟩ := word_parts s (r := (L + 996 + t) * 2 ^ 52 + K) (Nat.lt_of_le_of_lt hlt (by decide))
  refine ⟨_, rfl, w3, w2, ?_⟩
  rw [w1]
  generalize (L + 996 + t) * 2 ^ 52 + K = r at *
  have hK3 : K * 2 ^ t ≤ mag + 4 ∧ mag ≤ K * 2 ^ t + 4 := by
    rcases ht1 with y | y <;> subst y <;> omega
  have hK4 : c7 * (K * 2 ^ t) ≤ c7 * mag + c7 * 4 ∧ c7 * mag ≤ c7 * (K * 2 ^ t) + c7 * 4 := by
    rw [← Nat.mul_add, ← Nat.mul_add]
    exact ⟨Nat.mul_le_mul_left _ hK3.1, Nat.mul_le_mul_left _ hK3.2⟩
  have hMm : c7 * (K * 2 ^ t) ≤ M * 2 ^ 55 + c7 * 6 ∧ M * 2 ^ 55 ≤ c7 * (K * 2 ^ t) + c7 * 6 := by omega
  clear hlt w1 w2 w3 ht g1 g2 hm1 hm2 hq hqr hQ1 hQ2 hcm hK3 hK4 hK hK1 hK2 hKe r1 ra c1 hM2 b1 b2
  obtain ⟨d6, hd6, hd7⟩ : ∃ d, 996 = d ∧ dd = d + 78 := ⟨996, rfl, rfl⟩
  rw [hd6] at hv
  have i1 : c7 * (K * 2 ^ t) * 2 ^ (L + d6) ≤ M * 2 ^ 55 * 2 ^ (L + d6) + c7 * 6 * 2 ^ (L + d6) := by
    rw [← Nat.add_mul]; exact Nat.mul_le_mul_right _ hMm.1
  have i2 : M * 2 ^ 55 * 2 ^ (L + d6) ≤ c7 * (K * 2 ^ t) * 2 ^ (L + d6) + c7 * 6 * 2 ^ (L + d6) := by
    rw [← Nat.add_mul]; exact Nat.mul_le_mul_right _ hMm.2
  have v1 : c7 * (K * 2 ^ t) * 2 ^ (L + d6) = 2 ^ 29 * (val r * 10000000) := by
    rw [hv, c7_eq, Nat.pow_add 2 (L + d6) t]
    generalize 2 ^ 29 = y; generalize 2 ^ (L + d6) = z; generalize 2 ^ t = u; generalize 10000000 = v
    simp only [Nat.mul_comm, Nat.mul_left_comm]
  have v2 : M * 2 ^ 55 * 2 ^ (L + d6) = 2 ^ 29 * (a * 2 ^ dd) := by
    have e9 : M * 2 ^ 55 * 2 ^ (L + d6) = M * 2 ^ L * (2 ^ 55 * 2 ^ d6) := by
      rw [Nat.pow_add 2 L d6]
      generalize 2 ^ 55 = y; generalize 2 ^ L = z; generalize 2 ^ d6 = u
      simp only [Nat.mul_comm, Nat.mul_left_comm]
    rw [e9, hML, hd7, Nat.mul_left_comm (2 ^ 29) a, Nat.mul_assoc a, ← Nat.pow_add, ← Nat.pow_add, ← Nat.pow_add, show 52 + (55 + d6) = 29 + (d6 + 78) by omega]
  have v3 : c7 * 6 * 2 ^ (L + d6) = 2 ^ 29 * (60000000 * 2 ^ (L + d6)) := by
    rw [c7_eq]; generalize 2 ^ (L + d6) = z; omega
  have v4 : 60000000 * 2 ^ (L + d6) * 4 ≤ 2 ^ dd := by
    rw [hd7, Nat.pow_add, Nat.pow_add, Nat.mul_comm (2 ^ d6)]
    have q1 : 2 ^ L ≤ 2 ^ 30 := Nat.pow_le_pow_right (by decide) (by omega)
    have q2 : 60000000 * 2 ^ L * 4 ≤ 2 ^ 78 := by omega
    have q3 : 60000000 * 2 ^ L * 4 * 2 ^ d6 ≤ 2 ^ 78 * 2 ^ d6 := Nat.mul_le_mul_right _ q2
    refine Nat.le_trans (Nat.le_of_eq ?_) q3
    rw [← Nat.mul_assoc 60000000, Nat.mul_right_comm]
  have v5 : 0 < 2 ^ (L + d6) := Nat.two_pow_pos _
  rw [v1, v2, v3] at i1
  rw [v1, v2, v3] at i2
  have i3 : val r * 10000000 ≤ a * 2 ^ dd + 60000000 * 2 ^ (L + d6) := by
    clear hd6 hd7 v4 hv v1 v2 v3 hML hMm
    generalize val r = A at *
    generalize a * 2 ^ dd = B at *
    generalize 2 ^ (L + d6) = C at *
    omega
  have i4 : a * 2 ^ dd ≤ val r * 10000000 + 60000000 * 2 ^ (L + d6) := by
    clear hd6 hd7 v4 hv v1 v2 v3 hML hMm
    generalize val r = A at *
    generalize a * 2 ^ dd = B at *
    generalize 2 ^ (L + d6) = C at *
    omega
  clear i1 i2 v1 v2 v3 hML hMm hv
  constructor
  · refine val_le.1 ?_
    rw [val_180]
    have : (a + 1) * 2 ^ dd ≤ 1800000000 * 2 ^ dd := Nat.mul_le_mul_right _ h
    rw [Nat.add_mul] at this
    generalize 2 ^ (L + d6) = z at *
    generalize val r = A at *
    generalize a * 2 ^ dd = B at *
    generalize 2 ^ dd = C at *
    omega
  · unfold stp
    generalize 2 ^ (L + d6) = z at *
    refine rnd_near ?_ ?_
    · rw [Nat.add_mul, Nat.mul_assoc 2 a]
      generalize a * 2 ^ dd = B at *
      generalize 2 ^ dd = C at *
      omega
    · rw [Nat.mul_assoc 2 a]
      generalize a * 2 ^ dd = B at *
      generalize 2 ^ dd = C at *
      omega
theorem deg_most (s : Bool) : double.div (double.nearest s 1800000000 0) 0x416312D000000000 = some (w180 s) ∧ stp 0x4066800000000000 = 1800000000 := by
  constructor
  · cases s <;> decide +kernel
  · decide +kernel
theorem deg_zero : double.div (double.nearest false 0 0) 0x416312D000000000 = some 0 ∧ stp 0 = 0 := by
  constructor
  · decide +kernel
  · decide +kernel
end Go.Proofs.Ytcgicojdmpjalab
