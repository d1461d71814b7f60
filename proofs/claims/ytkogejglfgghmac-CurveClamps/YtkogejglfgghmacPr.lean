namespace Go.Proofs.Ytkogejglfgghmac
/-! Primes, and that 2^255 - 19 is one. -/
def Pr (p : Nat) : Prop := 2 ≤ p ∧ ∀ d, d ∣ p → d = 1 ∨ d = p

theorem Pr.euclid {p a b : Nat} (h : Pr p) (hd : p ∣ a * b) : p ∣ a ∨ p ∣ b := by
  rcases h.2 (Nat.gcd p a) (Nat.gcd_dvd_left p a) with e | e
  · exact Or.inr (Nat.Coprime.dvd_of_dvd_mul_left e hd)
  · left; rw [← e]; exact Nat.gcd_dvd_right p a

def prodL : List Nat → Nat
  | [] => 1
  | x :: l => x * prodL l
theorem prodL_perm {l l' : List Nat} (h : l.Perm l') : prodL l = prodL l' := by
  induction h with
  | nil => rfl
  | cons x _ ih => simp only [prodL, ih]
  | swap x y l => simp only [prodL]; exact Nat.mul_left_comm _ _ _
  | trans _ _ ih1 ih2 => exact ih1.trans ih2
theorem perm_of_sub : ∀ (l l' : List Nat), l.Nodup → (∀ x ∈ l, x ∈ l') → l'.length ≤ l.length → l.Perm l'
  | [], l', _, _, h => by
    have : l' = [] := List.length_eq_zero_iff.1 (Nat.le_zero.1 h)
    rw [this]
  | x :: l, l', hn, hs, hl => by
    have hx : x ∈ l' := hs x (by simp)
    have hn' := List.nodup_cons.1 hn
    have h1 := List.perm_cons_erase hx
    refine List.Perm.trans (List.Perm.cons x (perm_of_sub l (l'.erase x) hn'.2 (fun y hy => ?_) ?_)) h1.symm
    · exact (List.mem_erase_of_ne (show y ≠ x from fun e => hn'.1 (e ▸ hy))).2 (hs y (by simp [hy]))
    · rw [List.length_erase_of_mem hx]
      simp at hl
      omega
theorem prodL_map (p a : Nat) : ∀ l : List Nat, prodL (l.map fun i => a * i % p) % p = a ^ l.length * prodL l % p
  | [] => by simp [prodL]
  | x :: l => by
    have ih := prodL_map p a l
    simp only [List.map_cons, prodL, List.length_cons]
    rw [Nat.mul_mod, Nat.mod_mod, ih, ← Nat.mul_mod]
    congr 1
    rw [Nat.pow_succ]
    simp only [Nat.mul_assoc, Nat.mul_comm, Nat.mul_left_comm]
theorem Pr.prodL {p : Nat} (h : Pr p) : ∀ l : List Nat, (∀ x ∈ l, ¬ p ∣ x) → ¬ p ∣ prodL l
  | [], _, hd => by
    have := Nat.le_of_dvd (by decide) hd
    have := h.1
    simp only [Ytkogejglfgghmac.prodL] at *
    omega
  | x :: l, hx, hd => by
    rcases h.euclid hd with h1 | h1
    · exact hx x (by simp) h1
    · exact Pr.prodL h l (fun y hy => hx y (by simp [hy])) h1
theorem dvd_of_mod_eq {p x y : Nat} (h : x % p = y % p) : p ∣ x - y := Nat.dvd_of_mod_eq_zero (Nat.sub_mod_eq_zero_of_mod_eq h)
theorem mul_inj {p a : Nat} (h : Pr p) (ha : ¬ p ∣ a) {i j : Nat} (hij : i ≤ j) (hj : j < p) (e : a * i % p = a * j % p) : i = j := by
  have h1 : p ∣ a * j - a * i := dvd_of_mod_eq e.symm
  rw [← Nat.mul_sub] at h1
  rcases h.euclid h1 with h2 | h2
  · exact absurd h2 ha
  · rcases Nat.eq_zero_or_pos (j - i) with h3 | h3
    · omega
    · have := Nat.le_of_dvd h3 h2
      omega
theorem fermat {p a : Nat} (h : Pr p) (ha : ¬ p ∣ a) : a ^ (p - 1) % p = 1 := by
  have h2 := h.1
  have hL : ∀ x ∈ List.range' 1 (p - 1), ¬ p ∣ x := fun x hx hd => by
    have hx' := List.mem_range'_1.1 hx
    have := Nat.le_of_dvd (by omega) hd
    omega
  have hp : ((List.range' 1 (p - 1)).map fun i => a * i % p).Perm (List.range' 1 (p - 1)) := by
    refine perm_of_sub _ _ ?_ (fun x hx => ?_) (by simp)
    · refine List.pairwise_map.2 (List.Pairwise.imp_of_mem (fun {i j} hi hj hne => ?_) List.nodup_range')
      have hi' := List.mem_range'_1.1 hi
      have hj' := List.mem_range'_1.1 hj
      intro e
      rcases Nat.le_total i j with hle | hle
      · exact hne (mul_inj h ha hle (by omega) e)
      · exact hne (mul_inj h ha hle (by omega) e.symm).symm
    · obtain ⟨i, hi, rfl⟩ := List.mem_map.1 hx
      have hi' := List.mem_range'_1.1 hi
      refine List.mem_range'_1.2 ⟨?_, ?_⟩
      · rcases Nat.eq_zero_or_pos (a * i % p) with h0 | h0
        · exfalso
          rcases h.euclid (Nat.dvd_of_mod_eq_zero h0) with h1 | h1
          · exact ha h1
          · exact hL i hi h1
        · exact h0
      · have := Nat.mod_lt (a * i) (show 0 < p by omega)
        omega
  have e := prodL_map p a (List.range' 1 (p - 1))
  rw [prodL_perm hp, List.length_range'] at e
  have hpos : 0 < a ^ (p - 1) := by
    rcases Nat.eq_zero_or_pos a with rfl | h0
    · exact absurd (Nat.dvd_zero p) ha
    · exact Nat.pow_pos h0
  have hd : p ∣ a ^ (p - 1) * prodL (List.range' 1 (p - 1)) - prodL (List.range' 1 (p - 1)) := dvd_of_mod_eq e.symm
  have e2 : a ^ (p - 1) * prodL (List.range' 1 (p - 1)) - prodL (List.range' 1 (p - 1)) = (a ^ (p - 1) - 1) * prodL (List.range' 1 (p - 1)) := by rw [Nat.sub_mul, Nat.one_mul]
  rw [e2] at hd
  rcases h.euclid hd with h1 | h1
  · obtain ⟨k, hk⟩ := h1
    have : a ^ (p - 1) = 1 + p * k := by omega
    rw [this, Nat.add_mul_mod_self_left, Nat.mod_eq_of_lt (by omega)]
  · exact absurd h1 (h.prodL _ hL)

theorem pow_mod_one {p b m k : Nat} (hp : 2 ≤ p) (h : b ^ m % p = 1) : b ^ (m * k) % p = 1 := by
  rw [Nat.pow_mul, Nat.pow_mod, h, Nat.one_pow, Nat.mod_eq_of_lt (by omega)]
theorem pow_gcd {p b : Nat} (hp : 2 ≤ p) : ∀ m n : Nat, b ^ m % p = 1 → b ^ n % p = 1 → b ^ (Nat.gcd m n) % p = 1 := by
  intro m n
  induction m, n using Nat.gcd.induction with
  | H0 n => intro _ h; rwa [Nat.gcd_zero_left]
  | H1 m n hm ih =>
    intro h1 h2
    rw [Nat.gcd_rec]
    refine ih ?_ h1
    have e : b ^ n = b ^ (m * (n / m)) * b ^ (n % m) := by rw [← Nat.pow_add, Nat.div_add_mod]
    rw [e, Nat.mul_mod, pow_mod_one hp h1, Nat.one_mul, Nat.mod_mod] at h2
    exact h2

theorem pock_dvd {N q R a p : Nat} (hq : Pr q) (hN : N - 1 = R * q) (hN1 : 1 < N) (hp : Pr p) (hpN : p ∣ N) (h1 : a ^ (N - 1) % N = 1) (hg : Nat.gcd (a ^ R % N + (N - 1)) N = 1) : q ∣ p - 1 := by
  have hp2 := hp.1
  have hb : (a ^ R) ^ q % p = 1 := by
    rw [← Nat.pow_mul, ← hN]
    obtain ⟨k, hk⟩ := hpN
    have := Nat.div_add_mod (a ^ (N - 1)) N
    rw [h1] at this
    rw [← this, hk, Nat.mul_assoc, Nat.mul_add_mod, Nat.mod_eq_of_lt (by omega)]
  have hpb : ¬ p ∣ a ^ R := fun hd => by
    have hq2 := hq.1
    have : p ∣ (a ^ R) ^ q := Nat.dvd_trans hd ⟨(a ^ R) ^ (q - 1), by rw [Nat.mul_comm, ← Nat.pow_succ, show (q - 1).succ = q by omega]⟩
    have := Nat.mod_eq_zero_of_dvd this
    omega
  have hf := fermat hp hpb
  have h3 := pow_gcd hp2 q (p - 1) hb hf
  rcases hq.2 (Nat.gcd q (p - 1)) (Nat.gcd_dvd_left _ _) with e | e
  · exfalso
    rw [e, Nat.pow_one] at h3
    have hd : p ∣ a ^ R % N + (N - 1) := by
      refine Nat.dvd_of_mod_eq_zero ?_
      have e1 : a ^ R % N % p = 1 := by rw [Nat.mod_mod_of_dvd _ hpN]; exact h3
      have e2 : (a ^ R % N + (N - 1)) % p = (1 + (N - 1)) % p := by
        rw [Nat.add_mod, e1, ← Nat.add_mod_mod 1]
        simp
      rw [e2, show 1 + (N - 1) = N by omega]
      exact Nat.mod_eq_zero_of_dvd hpN
    have := Nat.dvd_gcd hd hpN
    rw [hg] at this
    have := Nat.le_of_dvd (by decide) this
    omega
  · rw [← e]; exact Nat.gcd_dvd_right _ _

theorem prime_factor : ∀ n : Nat, 2 ≤ n → ∃ p, Pr p ∧ p ∣ n := by
  intro n
  induction n using Nat.strongRecOn with
  | ind n ih =>
    intro h2
    by_cases h : ∀ d, d ∣ n → d = 1 ∨ d = n
    · exact ⟨n, ⟨h2, h⟩, Nat.dvd_refl n⟩
    · simp only [Classical.not_forall, not_or] at h
      obtain ⟨d, hd, h1, hn⟩ := h
      have hle := Nat.le_of_dvd (by omega) hd
      have h0 : d ≠ 0 := by rintro rfl; rw [Nat.zero_dvd] at hd; omega
      obtain ⟨p, hp, hpd⟩ := ih d (by omega) (by omega)
      exact ⟨p, hp, Nat.dvd_trans hpd hd⟩

theorem pock {N F : Nat} (hN : 1 < N) (hF : ∀ p, Pr p → p ∣ N → F ∣ p - 1) (hlt : N < F * F) : Pr N := by
  refine ⟨hN, fun d hd => ?_⟩
  by_cases h1 : d = 1
  · exact Or.inl h1
  by_cases hn : d = N
  · exact Or.inr hn
  exfalso
  obtain ⟨e, he⟩ := hd
  have hd0 : d ≠ 0 := by rintro rfl; omega
  have he0 : e ≠ 0 := by rintro rfl; omega
  have he1 : e ≠ 1 := by rintro rfl; omega
  -- each factor but 1 has a prime below it, above F
  have big : ∀ x, 2 ≤ x → x ∣ N → F < x := fun x hx hxN => by
    obtain ⟨p, hp, hpx⟩ := prime_factor x hx
    have h := hF p hp (Nat.dvd_trans hpx hxN)
    have hp2 := hp.1
    have := Nat.le_of_dvd (by omega) h
    have := Nat.le_of_dvd (by omega) hpx
    omega
  have b1 := big d (by omega) ⟨e, he⟩
  have b2 := big e (by omega) ⟨d, by rw [he, Nat.mul_comm]⟩
  have := Nat.mul_le_mul (Nat.le_of_lt b1) (Nat.le_of_lt b2)
  omega

/-! Powers by repeated squares. -/
def pwf : Nat → Nat → Nat → Nat → Nat
  | 0, N, _, _ => 1 % N
  | k + 1, N, a, e => if e % 2 = 0 then pwf k N (a * a % N) (e / 2) else pwf k N (a * a % N) (e / 2) * a % N
theorem pwf_eq (N : Nat) : ∀ k a e, e < 2 ^ k → pwf k N a e = a ^ e % N
  | 0, a, e, h => by
    have : e = 0 := by simpa using h
    subst this
    simp [pwf]
  | k + 1, a, e, h => by
    have h2 : e / 2 < 2 ^ k := by rw [Nat.pow_succ] at h; omega
    have ih := pwf_eq N k (a * a % N) (e / 2) h2
    have e1 : (a * a % N) ^ (e / 2) % N = a ^ (2 * (e / 2)) % N := by rw [← Nat.pow_mod, Nat.pow_mul, Nat.pow_two]
    unfold pwf
    split
    · rw [ih, e1, show 2 * (e / 2) = e by omega]
    · rename_i hodd
      rw [ih, e1, Nat.mul_mod, Nat.mod_mod, ← Nat.mul_mod, ← Nat.pow_succ, show (2 * (e / 2)).succ = e by omega]
def noDiv : Nat → Nat → Nat → Bool
  | 0, _, _ => true
  | k + 1, N, d => N % d != 0 && noDiv k N (d + 1)
theorem noDiv_spec (N : Nat) : ∀ k d, noDiv k N d = true → ∀ x, d ≤ x → x < d + k → ¬ x ∣ N
  | 0, _, _, x, h1, h2 => by omega
  | k + 1, d, h, x, h1, h2 => by
    simp only [noDiv, Bool.and_eq_true, bne_iff_ne] at h
    rcases Nat.eq_or_lt_of_le h1 with e | e
    · subst e; exact fun hd => h.1 (Nat.mod_eq_zero_of_dvd hd)
    · exact noDiv_spec N k (d + 1) h.2 x e (by omega)
theorem trial (N k : Nat) (hN : 2 ≤ N) (h : noDiv k N 2 = true) (hk : N < (k + 2) * (k + 2)) : Pr N := by
  refine ⟨hN, fun d hd => ?_⟩
  by_cases h1 : d = 1
  · exact Or.inl h1
  by_cases hn : d = N
  · exact Or.inr hn
  exfalso
  obtain ⟨e, he⟩ := hd
  have hd0 : d ≠ 0 := by rintro rfl; omega
  have he0 : e ≠ 0 := by rintro rfl; omega
  have he1 : e ≠ 1 := by rintro rfl; omega
  have s := noDiv_spec N k 2 h
  have b1 : k + 2 ≤ d := by
    rcases Nat.lt_or_ge d (k + 2) with hl | hl
    · exact absurd ⟨e, he⟩ (s d (by omega) (by omega))
    · exact hl
  have b2 : k + 2 ≤ e := by
    rcases Nat.lt_or_ge e (k + 2) with hl | hl
    · exact absurd ⟨d, by rw [he, Nat.mul_comm]⟩ (s e (by omega) (by omega))
    · exact hl
  have := Nat.mul_le_mul b1 b2
  omega

theorem p127 : Pr 127 := trial 127 10 (by decide) (by decide +kernel) (by decide)
theorem p75707 : Pr 75707 := trial 75707 274 (by decide) (by decide +kernel) (by decide)
theorem p1923133 : Pr 1923133 := trial 1923133 1386 (by decide) (by decide +kernel) (by decide)
theorem p8574133 : Pr 8574133 := trial 8574133 2928 (by decide) (by decide +kernel) (by decide)
/-- One step of the certificate: two primes of N - 1 whose product's square is above N. -/
theorem pock2 (N q r R S a b : Nat) (hq : Pr q) (hr : Pr r) (hqr : Nat.gcd q r = 1) (hN : 1 < N) (hk : N < 2 ^ 256) (h1 : N - 1 = R * q) (h2 : N - 1 = S * r) (ea : pwf 256 N a (N - 1) = 1) (eb : pwf 256 N b (N - 1) = 1)
    (ga : Nat.gcd (pwf 256 N a R + (N - 1)) N = 1) (gb : Nat.gcd (pwf 256 N b S + (N - 1)) N = 1) (hlt : N < (q * r) * (q * r)) : Pr N := by
  have hq2 := hq.1
  have hr2 := hr.1
  have hR : R < 2 ^ 256 := Nat.lt_of_le_of_lt (Nat.le_trans (Nat.le_mul_of_pos_right R (by omega)) (by omega : R * q ≤ N)) hk
  have hS : S < 2 ^ 256 := Nat.lt_of_le_of_lt (Nat.le_trans (Nat.le_mul_of_pos_right S (by omega)) (by omega : S * r ≤ N)) hk
  rw [pwf_eq N 256 a _ (by omega)] at ea
  rw [pwf_eq N 256 b _ (by omega)] at eb
  rw [pwf_eq N 256 a _ hR] at ga
  rw [pwf_eq N 256 b _ hS] at gb
  exact pock hN (fun p hp hpN => Nat.Coprime.mul_dvd_of_dvd_of_dvd hqr (pock_dvd hq h1 hN hp hpN ea ga) (pock_dvd hr h2 hN hp hpN eb gb)) hlt
theorem pC : Pr 1919519569386763 := pock2 1919519569386763 8574133 127 223873314 15114327318006 2 2 p8574133 p127 (by decide +kernel) (by decide +kernel) (by decide +kernel) (by decide +kernel) (by decide +kernel) (by decide +kernel) (by decide +kernel) (by decide +kernel) (by decide +kernel) (by decide +kernel)
theorem pB : Pr 75445702479781427272750846543864801 := pock2 75445702479781427272750846543864801 1919519569386763 75707 39304471641247389600 996548568557483816196003626400 2 2 pC p75707 (by decide +kernel) (by decide +kernel) (by decide +kernel) (by decide +kernel) (by decide +kernel) (by decide +kernel) (by decide +kernel) (by decide +kernel) (by decide +kernel) (by decide +kernel)
theorem pQ : Pr 74058212732561358302231226437062788676166966415465897661863160754340907 := pock2 74058212732561358302231226437062788676166966415465897661863160754340907 75445702479781427272750846543864801 1923133 981609426360740691344999861639072106 38509147694185143878364744631319200843710219946028640589009268082 2 2 pB p1923133 (by decide +kernel) (by decide +kernel) (by decide +kernel) (by decide +kernel) (by decide +kernel) (by decide +kernel) (by decide +kernel) (by decide +kernel) (by decide +kernel) (by decide +kernel)
theorem p3 : Pr 3 := trial 3 0 (by decide) (by decide +kernel) (by decide)
theorem pP : Pr 57896044618658097711785492504343953926634992332820282019728792003956564819949 := pock2 57896044618658097711785492504343953926634992332820282019728792003956564819949 74058212732561358302231226437062788676166966415465897661863160754340907 3 781764 19298681539552699237261830834781317975544997444273427339909597334652188273316 2 2 pQ p3 (by decide +kernel) (by decide +kernel) (by decide +kernel) (by decide +kernel) (by decide +kernel) (by decide +kernel) (by decide +kernel) (by decide +kernel) (by decide +kernel) (by decide +kernel)

end Go.Proofs.Ytkogejglfgghmac
