import Derived.Test.YtnbkdlfkacbfjaaProg
namespace Go.Proofs.Ytnbkdlfkacbfjaa

/-! Numbers in their one form, on lists of bytes. -/
abbrev B := BitVec 8
/-- The one form of a number. -/
def en (n : Nat) : List B := if n < 128 then [BitVec.ofNat 8 n] else BitVec.ofNat 8 (n % 128 + 128) :: en (n / 128)
termination_by n
decreasing_by omega
theorem en_lo {n : Nat} (h : n < 128) : en n = [BitVec.ofNat 8 n] := by rw [en, if_pos h]
theorem en_hi {n : Nat} (h : ¬ n < 128) : en n = BitVec.ofNat 8 (n % 128 + 128) :: en (n / 128) := by rw [en, if_neg h]
/-- What reading a number comes to. -/
inductive RN where
  | er (e : Int)
  | ok (v n : Nat)
/-- The number that begins a list, i digits of it being read. -/
def rd : Nat → List B → RN
  | _, [] => .er 73
  | i, x :: l => if 128 ≤ x.toNat then (if i = 9 then .er 70 else match rd (i + 1) l with
      | .ok v n => .ok (v * 128 + (x.toNat - 128)) (n + 1)
      | .er e => .er e) else if (i = 9 ∧ 1 < x.toNat) ∨ (0 < i ∧ x.toNat = 0) then .er 70 else .ok x.toNat 1
theorem b_of (n : Nat) (h : n < 256) : (BitVec.ofNat 8 n).toNat = n := by rw [BitVec.toNat_ofNat]; omega
theorem two_split (i : Nat) (h : i ≤ 8) : 2 ^ (64 - 7 * i) = 128 * 2 ^ (64 - 7 * (i + 1)) := by
  rw [show 64 - 7 * i = 7 + (64 - 7 * (i + 1)) by omega, Nat.pow_add]
theorem rd_en (n : Nat) : ∀ i r, i ≤ 9 → n < 2 ^ (64 - 7 * i) → (0 < i → 0 < n) → rd i (en n ++ r) = .ok n (en n).length := by
  induction n using Nat.strongRecOn with
  | ind n ih =>
    intro i r hi hn h0
    by_cases h : n < 128
    · rw [en_lo h, List.cons_append, rd, b_of n (by omega), if_neg (by omega), if_neg]
      · rfl
      · rintro (⟨rfl, h1⟩ | ⟨h1, h2⟩)
        · have : (2 : Nat) ^ (64 - 7 * 9) = 2 := by decide
          omega
        · have := h0 h1; omega
    · have hi8 : i ≤ 8 := by
        rcases Nat.lt_or_ge i 9 with q | q
        · omega
        · obtain rfl : i = 9 := by omega
          have : (2 : Nat) ^ (64 - 7 * 9) = 2 := by decide
          omega
      have e := ih (n / 128) (by omega) (i + 1) r (by omega) (by have := two_split i hi8; omega) (by omega)
      rw [en_hi h, List.cons_append, rd, b_of _ (by omega), if_pos (by omega), if_neg (by omega), e]
      have h9 : n / 128 * 128 + (n % 128 + 128 - 128) = n := by omega
      simp only [h9, List.length_cons]
theorem rd_ok : ∀ (l : List B) (i v n : Nat), i ≤ 9 → rd i l = .ok v n → (∃ r, l = en v ++ r) ∧ n = (en v).length ∧ v < 2 ^ (64 - 7 * i) ∧ (0 < i → 0 < v)
  | [], _, _, _, _, h => by simp [rd] at h
  | x :: l, i, v, n, hi, h => by
    rw [rd] at h
    split at h
    · rename_i hx
      split at h
      · cases h
      · rename_i hi9
        split at h
        · rename_i v' n' e
          injection h with h1 h2
          obtain ⟨⟨r, hr⟩, hn, hv, h0⟩ := rd_ok l (i + 1) v' n' (by omega) e
          have hv0 := h0 (by omega)
          have hxl := x.isLt
          have hge : ¬ v < 128 := by omega
          have hd : v / 128 = v' := by omega
          have hm : v % 128 + 128 = x.toNat := by omega
          have he : en v = x :: en v' := by rw [en_hi hge, hd, hm, BitVec.ofNat_toNat, BitVec.setWidth_eq]
          have := two_split i (by omega)
          exact ⟨⟨r, by rw [he, hr, List.cons_append]⟩, by rw [he, List.length_cons]; omega, by omega, fun _ => by omega⟩
        · cases h
    · rename_i hx
      split at h
      · cases h
      · rename_i hc
        injection h with h1 h2
        subst h1; subst h2
        have he : en x.toNat = [x] := by rw [en_lo (by omega), BitVec.ofNat_toNat, BitVec.setWidth_eq]
        refine ⟨⟨l, by rw [he]; rfl⟩, by rw [he]; rfl, ?_, fun h0 => ?_⟩
        · rcases Nat.lt_or_ge i 9 with q | q
          · have : 2 ^ 7 ≤ 2 ^ (64 - 7 * i) := Nat.pow_le_pow_right (by decide) (by omega)
            omega
          · obtain rfl : i = 9 := by omega
            have : (2 : Nat) ^ (64 - 7 * 9) = 2 := by decide
            omega
        · omega
theorem rd_er : ∀ (l : List B) (i : Nat) (e : Int), rd i l = .er e → e = 70 ∨ e = 73
  | [], _, e, h => by rw [rd] at h; injection h with h; exact .inr h.symm
  | x :: l, i, e, h => by
    rw [rd] at h
    split at h
    · split at h
      · injection h with h; exact .inl h.symm
      · split at h
        · cases h
        · rename_i e' he
          injection h with h
          subst h
          exact rd_er l (i + 1) _ he
    · split at h
      · injection h with h; exact .inl h.symm
      · cases h
theorem en_pos (n : Nat) : 0 < (en n).length := by
  by_cases h : n < 128
  · rw [en_lo h]; simp
  · rw [en_hi h]; simp
/-- How long the form is. -/
theorem en_len (n : Nat) : ∀ k, 0 < k → ((en n).length ≤ k ↔ n < 2 ^ (7 * k)) := by
  induction n using Nat.strongRecOn with
  | ind n ih =>
    intro k hk
    by_cases h : n < 128
    · rw [en_lo h, List.length_singleton]
      have : 2 ^ 7 ≤ 2 ^ (7 * k) := Nat.pow_le_pow_right (by decide) (by omega)
      omega
    · rw [en_hi h, List.length_cons]
      rcases Nat.lt_or_ge 1 k with q | q
      · have e := ih (n / 128) (by omega) (k - 1) (by omega)
        have : 2 ^ (7 * k) = 128 * 2 ^ (7 * (k - 1)) := by rw [show 7 * k = 7 + 7 * (k - 1) by omega, Nat.pow_add]
        omega
      · obtain rfl : k = 1 := by omega
        have := en_pos (n / 128)
        omega
theorem en_ten {n : Nat} (h : n < 18446744073709551616) : (en n).length ≤ 10 := (en_len n 10 (by decide)).2 (by omega)
theorem en_ten' {n : Nat} (h : n < 2 ^ 64) : (en n).length ≤ 10 := en_ten (by omega)
theorem rd0_en {n : Nat} (h : n < 18446744073709551616) (r : List B) : rd 0 (en n ++ r) = .ok n (en n).length := rd_en n 0 r (by decide) (by simpa using h) (by omega)
theorem rd0_ok {l : List B} {v n : Nat} (h : rd 0 l = .ok v n) : (∃ r, l = en v ++ r) ∧ n = (en v).length ∧ v < 18446744073709551616 := by
  obtain ⟨h1, h2, h3, _⟩ := rd_ok l 0 v n (by decide) h
  exact ⟨h1, h2, by simpa using h3⟩
theorem rd0_len {l : List B} {v n : Nat} (h : rd 0 l = .ok v n) : 0 < n ∧ n ≤ l.length ∧ n ≤ 10 := by
  obtain ⟨⟨r, h1⟩, h2, h3⟩ := rd0_ok h
  have := en_pos v
  have := en_ten h3
  rw [h1, List.length_append]
  omega
/-- No form begins another one. -/
theorem en_inj {n m : Nat} (hn : n < 18446744073709551616) (hm : m < 18446744073709551616) {r s : List B} (h : en n ++ r = en m ++ s) : n = m ∧ r = s := by
  have h1 := rd0_en hn r
  rw [h, rd0_en hm s] at h1
  injection h1 with h1 _
  subst h1
  exact ⟨rfl, List.append_cancel_left h⟩
/-- How many bytes, by how many bits. -/
theorem en_bits {n L : Nat} (_h0 : 0 < L) (h1 : 2 ^ (L - 1) ≤ n ∨ (n = 0 ∧ L = 1)) (h2 : n < 2 ^ L) : (en n).length = (L + 6) / 7 := by
  have hk : 0 < (L + 6) / 7 := by omega
  have hle : (en n).length ≤ (L + 6) / 7 := (en_len n _ hk).2 (Nat.lt_of_lt_of_le h2 (Nat.pow_le_pow_right (by decide) (by omega)))
  rcases Nat.lt_or_ge ((L + 6) / 7) 2 with q | q
  · have := en_pos n; omega
  · have hge : ¬ (en n).length ≤ (L + 6) / 7 - 1 := by
      intro hc
      have h3 := (en_len n _ (by omega)).1 hc
      have : 2 ^ (7 * ((L + 6) / 7 - 1)) ≤ 2 ^ (L - 1) := Nat.pow_le_pow_right (by decide) (by omega)
      omega
    omega
end Go.Proofs.Ytnbkdlfkacbfjaa
