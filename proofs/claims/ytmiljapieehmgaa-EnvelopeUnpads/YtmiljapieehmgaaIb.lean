import Derived.Test.YtmiljapieehmgaaProg
namespace Go.Proofs.Ytmiljapieehmgaa

/-- A bucket: one of lo to 2 lo - 1 times a power of two, from 64 on. -/
def Bkt (lo b : Nat) : Prop := 64 ≤ b ∧ ∃ m j, b = m * 2 ^ j ∧ lo ≤ m ∧ m < 2 * lo
/-- The step at a size of l digits. -/
def stp (d l : Nat) : Nat := 2 ^ (l - d)
/-- r rounded up to a step. -/
def rup (r s : Nat) : Nat := (r + s - 1) / s * s
theorem rup_mul {r s m : Nat} (hs : 0 < s) (h : r ≤ m * s) : rup r s ≤ m * s := by
  unfold rup
  refine Nat.mul_le_mul_right _ ?_
  rw [← Nat.lt_succ_iff, Nat.div_lt_iff_lt_mul hs, Nat.succ_mul]
  omega
theorem rup_ge {r s : Nat} (hs : 0 < s) : r ≤ rup r s := by
  unfold rup
  have h1 := Nat.div_add_mod (r + s - 1) s
  have h2 := Nat.mod_lt (r + s - 1) hs
  rw [Nat.mul_comm] at h1
  omega
theorem rup_dvd (r s : Nat) : ∃ m, rup r s = m * s := ⟨_, rfl⟩
/-- What is rounded up is a bucket. d: 1 or 4 digits, lo = 2 ^ (d - 1). -/
theorem rup_bkt {d l r : Nat} (hd : 0 < d) (hl : d ≤ l) (h64 : 64 ≤ r) (h1 : 2 ^ (l - 1) ≤ r) (h2 : r < 2 ^ l) : Bkt (2 ^ (d - 1)) (rup r (stp d l)) := by
  have hs : 0 < stp d l := Nat.pow_pos (by decide)
  have hge := rup_ge (r := r) hs
  refine ⟨Nat.le_trans h64 hge, ?_⟩
  have e1 : 2 ^ (l - 1) = 2 ^ (d - 1) * stp d l := by unfold stp; rw [← Nat.pow_add]; congr 1; omega
  have e2 : 2 ^ l = 2 * 2 ^ (d - 1) * stp d l := by unfold stp; rw [← Nat.pow_succ', ← Nat.pow_add]; congr 1; omega
  obtain ⟨m, hm⟩ := rup_dvd r (stp d l)
  have hle : rup r (stp d l) ≤ 2 * 2 ^ (d - 1) * stp d l := rup_mul hs (by omega)
  have m1 : 2 ^ (d - 1) ≤ m := by
    refine Nat.le_of_mul_le_mul_right ?_ hs
    omega
  have m2 : m ≤ 2 * 2 ^ (d - 1) := by
    refine Nat.le_of_mul_le_mul_right ?_ hs
    omega
  rcases Nat.lt_or_ge m (2 * 2 ^ (d - 1)) with q | q
  · exact ⟨m, l - d, hm, m1, q⟩
  · obtain rfl : m = 2 * 2 ^ (d - 1) := by omega
    refine ⟨2 ^ (d - 1), l - d + 1, ?_, Nat.le_refl _, ?_⟩
    · rw [hm]; unfold stp; rw [Nat.pow_succ]
      generalize 2 ^ (d - 1) = x
      generalize 2 ^ (l - d) = y
      rw [Nat.mul_comm 2 x, Nat.mul_assoc, Nat.mul_comm 2 y]
    · have := Nat.pow_pos (n := d - 1) (show 0 < 2 by decide); omega
/-- .. and the least one that has room. -/
theorem rup_least {d l r b : Nat} (hd : 0 < d) (hl : d ≤ l) (h1 : 2 ^ (l - 1) ≤ r) (hb : Bkt (2 ^ (d - 1)) b) (h : r ≤ b) : rup r (stp d l) ≤ b := by
  obtain ⟨_, m, j, rfl, m1, m2⟩ := hb
  have hs : 0 < stp d l := Nat.pow_pos (by decide)
  rcases Nat.lt_or_ge j (l - d) with q | q
  · exfalso
    have e2 : 2 * 2 ^ (d - 1) * 2 ^ j = 2 ^ (d + j) := by rw [← Nat.pow_succ', ← Nat.pow_add]; congr 1; omega
    have h3 : m * 2 ^ j < 2 * 2 ^ (d - 1) * 2 ^ j := Nat.mul_lt_mul_of_pos_right m2 (Nat.pow_pos (by decide))
    have h4 : 2 ^ (d + j) ≤ 2 ^ (l - 1) := Nat.pow_le_pow_right (by decide) (by omega)
    omega
  · have e : m * 2 ^ j = m * 2 ^ (j - (l - d)) * stp d l := by
      unfold stp
      rw [Nat.mul_assoc, ← Nat.pow_add]; congr 2; omega
    rw [e] at h ⊢
    exact rup_mul hs h
/-- Between two buckets lies at least the lower one's step. -/
theorem bkt_next {lo m j b : Nat} (m1 : lo ≤ m) (hb : Bkt lo b) (h : m * 2 ^ j < b) : m * 2 ^ j + 2 ^ j ≤ b := by
  obtain ⟨_, m', j', rfl, n1, n2⟩ := hb
  rcases Nat.lt_or_ge j' j with q | q
  · exfalso
    have h3 : m' * 2 ^ j' < 2 * lo * 2 ^ j' := Nat.mul_lt_mul_of_pos_right n2 (Nat.pow_pos (by decide))
    have h4 : 2 * 2 ^ j' ≤ 2 ^ j := by
      rw [← Nat.pow_succ']
      exact Nat.pow_le_pow_right (by decide) (by omega)
    have h5 : lo * (2 * 2 ^ j') ≤ m * 2 ^ j := Nat.mul_le_mul m1 h4
    have h6 : lo * (2 * 2 ^ j') = 2 * lo * 2 ^ j' := by rw [← Nat.mul_assoc, Nat.mul_comm lo 2]
    omega
  · have e : m' * 2 ^ j' = m' * 2 ^ (j' - j) * 2 ^ j := by
      rw [Nat.mul_assoc, ← Nat.pow_add]; congr 2; omega
    rw [e] at h ⊢
    have := Nat.lt_of_mul_lt_mul_right h
    rw [← Nat.succ_mul]
    exact Nat.mul_le_mul_right _ this
theorem bkt_up {lo m j : Nat} (h0 : 0 < lo) (h64 : 64 ≤ m * 2 ^ j) (m1 : lo ≤ m) (m2 : m < 2 * lo) : Bkt lo (m * 2 ^ j + 2 ^ j) := by
  refine ⟨Nat.le_trans h64 (Nat.le_add_right _ _), ?_⟩
  rcases Nat.lt_or_ge (m + 1) (2 * lo) with q | q
  · exact ⟨m + 1, j, by rw [Nat.succ_mul], by omega, q⟩
  · have e : m + 1 = 2 * lo := by omega
    refine ⟨lo, j + 1, ?_, Nat.le_refl _, by omega⟩
    rw [← Nat.succ_mul, Nat.succ_eq_add_one, e, Nat.pow_succ, Nat.mul_comm 2 lo, Nat.mul_assoc, Nat.mul_comm 2]
/-- Two least buckets are one. -/
theorem bkt_one {lo n a b : Nat} (ha : Bkt lo a ∧ n ≤ a) (hb : Bkt lo b ∧ n ≤ b) (la : ∀ c, Bkt lo c → n ≤ c → a ≤ c) (lb : ∀ c, Bkt lo c → n ≤ c → b ≤ c) : a = b := by
  have := la b hb.1 hb.2
  have := lb a ha.1 ha.2
  omega
/-- The least bucket for a room, found by going up. -/
def Lst (lo n b : Nat) : Prop := Bkt lo b ∧ n ≤ b ∧ ∀ c, Bkt lo c → n ≤ c → b ≤ c
theorem Lst.one {lo n a b : Nat} (ha : Lst lo n a) (hb : Lst lo n b) : a = b := bkt_one ⟨ha.1, ha.2.1⟩ ⟨hb.1, hb.2.1⟩ ha.2.2 hb.2.2
theorem lst_rup {d l n : Nat} (hd : 0 < d) (hl : d ≤ l) (h1 : 2 ^ (l - 1) ≤ max n 64) (h2 : max n 64 < 2 ^ l) : Lst (2 ^ (d - 1)) n (rup (max n 64) (stp d l)) := by
  have hs : 0 < stp d l := Nat.pow_pos (by decide)
  have hge := rup_ge (r := max n 64) hs
  refine ⟨rup_bkt hd hl (Nat.le_max_right _ _) h1 h2, by have := Nat.le_max_left n 64; omega, fun c hc hn => rup_least hd hl h1 hc ?_⟩
  have := hc.1
  exact Nat.max_le.2 ⟨hn, this⟩
/-- The least bucket with room for n bytes, of d digits. -/
def bkd (d n : Nat) : Nat := rup (max n 64) (stp d (Nat.log2 (max n 64) + 1))
theorem log_ge (n : Nat) : 6 ≤ Nat.log2 (max n 64) := by
  rw [Nat.le_log2 (by have := Nat.le_max_right n 64; omega)]
  exact Nat.le_max_right n 64
theorem bkd_lst (d n : Nat) (hd : 0 < d) (h7 : d ≤ 7) : Lst (2 ^ (d - 1)) n (bkd d n) := by
  have h := log_ge n
  refine lst_rup hd (by omega) ?_ Nat.lt_log2_self
  exact Nat.log2_self_le (by have := Nat.le_max_right n 64; omega)
theorem bkd_of (d l n : Nat) (hd : 0 < d) (hl : d ≤ l) (h1 : 2 ^ (l - 1) ≤ max n 64) (h2 : max n 64 < 2 ^ l) (h7 : d ≤ 7) : rup (max n 64) (stp d l) = bkd d n := (lst_rup hd hl h1 h2).one (bkd_lst d n hd h7)
theorem rup_le (r s : Nat) : rup r s ≤ r + s := by
  unfold rup
  have := Nat.div_mul_le_self (r + s - 1) s
  omega
theorem bkd_le (d n : Nat) (hd : 0 < d) : bkd d n ≤ 2 * max n 64 := by
  unfold bkd
  have h1 := rup_le (max n 64) (stp d (Nat.log2 (max n 64) + 1))
  have h2 : stp d (Nat.log2 (max n 64) + 1) ≤ max n 64 := by
    refine Nat.le_trans (Nat.pow_le_pow_right (by decide) ?_) (Nat.log2_self_le (by have := Nat.le_max_right n 64; omega))
    omega
  omega
theorem bkd_64 (d n : Nat) (hd : 0 < d) (h7 : d ≤ 7) : 64 ≤ bkd d n := (bkd_lst d n hd h7).1.1
theorem bkd_ge (d n : Nat) (hd : 0 < d) (h7 : d ≤ 7) : n ≤ bkd d n := (bkd_lst d n hd h7).2.1
/-- The digits of a version's buckets. -/
def dg (v : Nat) : Nat := if v = 1 then 1 else 4
theorem dg_pos (v : Nat) : 0 < dg v := by unfold dg; split <;> decide
theorem dg_le (v : Nat) : dg v ≤ 7 := by unfold dg; split <;> decide
end Go.Proofs.Ytmiljapieehmgaa
