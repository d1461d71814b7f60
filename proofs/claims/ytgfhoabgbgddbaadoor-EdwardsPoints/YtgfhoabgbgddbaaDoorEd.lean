import Derived.Test.YtgfhoabgbgddbaaDoorEc
namespace Go.Proofs.YtgfhoabgbgddbaaDoor
set_option maxRecDepth 100000

theorem stp_cong (X : Int) (a b u v : Int) : Zp ((stp X ⟨a, b, u, v⟩).a - (a + b) * (a + b) * ((a - b) * (a - b))) ∧
    Zp ((stp X ⟨a, b, u, v⟩).b - ((a + b) * (a + b) - (a - b) * (a - b)) * ((a + b) * (a + b) + 121665 * ((a + b) * (a + b) - (a - b) * (a - b)))) ∧
    Zp ((stp X ⟨a, b, u, v⟩).c - ((u - v) * (a + b) + (u + v) * (a - b)) * ((u - v) * (a + b) + (u + v) * (a - b))) ∧
    Zp ((stp X ⟨a, b, u, v⟩).d - X * (((u - v) * (a + b) - (u + v) * (a - b)) * ((u - v) * (a + b) - (u + v) * (a - b)))) := by
  simp only [stp]
  have he := zp_emod (a + b)
  have hf := zp_emod (a - b)
  have hg := zp_emod (u + v)
  have hh := zp_emod (u - v)
  generalize (a + b) % prm = e at *
  generalize (a - b) % prm = f at *
  generalize (u + v) % prm = g at *
  generalize (u - v) % prm = h at *
  generalize a + b = e0 at *
  generalize a - b = f0 at *
  generalize u + v = g0 at *
  generalize u - v = h0 at *
  have hy : Zp (e * e % prm - e0 * e0) := zp_lin2 1 (e + e0) (zp_emod (e * e)) he (by grind)
  have hz : Zp (f * f % prm - f0 * f0) := zp_lin2 1 (f + f0) (zp_emod (f * f)) hf (by grind)
  have hm : Zp (h * e % prm - h0 * e0) := zp_lin3 1 e h0 (zp_emod (h * e)) hh he (by grind)
  have hn : Zp (g * f % prm - g0 * f0) := zp_lin3 1 f g0 (zp_emod (g * f)) hg hf (by grind)
  generalize e * e % prm = y at *
  generalize f * f % prm = z at *
  generalize h * e % prm = m at *
  generalize g * f % prm = n at *
  generalize e0 * e0 = y0 at *
  generalize f0 * f0 = z0 at *
  generalize h0 * e0 = m0 at *
  generalize g0 * f0 = n0 at *
  have hr : Zp ((y - z) % prm - (y0 - z0)) := zp_lin3 1 1 (-1) (zp_emod (y - z)) hy hz (by grind)
  generalize (y - z) % prm = r at *
  generalize y0 - z0 = r0 at *
  have h1 : Zp (121665 * r % prm - 121665 * r0) := zp_lin2 1 121665 (zp_emod (121665 * r)) hr (by grind)
  generalize 121665 * r % prm = q at *
  have h2 : Zp ((y + q) % prm - (y0 + 121665 * r0)) := zp_lin3 1 1 1 (zp_emod (y + q)) hy h1 (by grind)
  generalize (y + q) % prm = w at *
  generalize y0 + 121665 * r0 = w0 at *
  have hp : Zp ((m + n) % prm - (m0 + n0)) := zp_lin3 1 1 1 (zp_emod (m + n)) hm hn (by grind)
  have hq : Zp ((m - n) % prm - (m0 - n0)) := zp_lin3 1 1 (-1) (zp_emod (m - n)) hm hn (by grind)
  generalize (m + n) % prm = p at *
  generalize (m - n) % prm = k at *
  generalize m0 + n0 = p0 at *
  generalize m0 - n0 = k0 at *
  have hk : Zp (k * k % prm - k0 * k0) := zp_lin2 1 (k + k0) (zp_emod (k * k)) hq (by grind)
  generalize k * k % prm = kk at *
  exact ⟨zp_lin3 1 z y0 (zp_emod (y * z)) hy hz (by grind), zp_lin3 1 w r0 (zp_emod (r * w)) hr h2 (by grind), zp_lin2 1 (p + p0) (zp_emod (p * p)) hp (by grind), zp_lin2 1 X (zp_emod (X * kk)) hk (by grind)⟩
theorem near {c : Int} (hc : NonSq c) {P0 : EP c} (n : Nat) : Zp (P0.y * (1 + (c * (EP.mul hc n P0).x * (EP.mul hc (n + 1) P0).x * (EP.mul hc n P0).y * (EP.mul hc (n + 1) P0).y)) - ((EP.mul hc n P0).y * (EP.mul hc (n + 1) P0).y + (EP.mul hc n P0).x * (EP.mul hc (n + 1) P0).x)) := by
  have e : EP.add hc (EP.mul hc (n + 1) P0) (EP.neg (EP.mul hc n P0)) = P0 := by rw [EP.mul]; exact EP.back hc _ _
  have h := EP.add_y hc (EP.mul hc (n + 1) P0) (EP.neg (EP.mul hc n P0))
  rw [e, EP.neg_y] at h
  have g := EP.neg_x (EP.mul hc n P0)
  generalize (EP.neg (EP.mul hc n P0)).x = q at *
  generalize (EP.mul hc n P0).x = x1 at *
  generalize (EP.mul hc n P0).y = y1 at *
  generalize (EP.mul hc (n + 1) P0).x = x2 at *
  generalize (EP.mul hc (n + 1) P0).y = y2 at *
  exact zp_lin2 1 (P0.y * c * x2 * y2 * y1 - x2) h g (by grind)
theorem step_rep {s c : Int} (hc : NonSq c) (hm : Mont s c) {P0 : EP c} {X : Int} (hX : Zp (X * (1 - P0.y) - s * (1 + P0.y))) (nX : ¬ Zp X) (n0 : ¬ Zp (1 - P0.y)) {n : Nat} {a b u v : Int} (hP : Rep s (EP.mul hc n P0) a b) (hQ : Rep s (EP.mul hc (n + 1) P0) u v) (on : Bool) :
    Rep s (EP.mul hc (2 * n + on.toNat) P0) (rnd X on ⟨a, b, u, v⟩).a (rnd X on ⟨a, b, u, v⟩).b ∧ Rep s (EP.mul hc (2 * n + on.toNat + 1) P0) (rnd X on ⟨a, b, u, v⟩).c (rnd X on ⟨a, b, u, v⟩).d := by
  have nr := near hc (P0 := P0) n
  cases on
  · obtain ⟨k1, k2, k3, k4⟩ := stp_cong X a b u v
    refine ⟨?_, ?_⟩
    · have := (hP.double hc hm).congr k1 k2
      rwa [← EP.mul_add, show n + n = 2 * n + false.toNat by simp; omega] at this
    · have := (Rep.diff hc hm.sq hP hQ nr hX nX n0).congr k3 k4
      rwa [← EP.mul_add, show n + (n + 1) = 2 * n + false.toNat + 1 by simp; omega] at this
  · obtain ⟨k1, k2, k3, k4⟩ := stp_cong X u v a b
    refine ⟨?_, ?_⟩
    · have := (Rep.diff hc hm.sq hQ hP (zp_lin1 1 nr (by grind)) hX nX n0).congr k3 k4
      rwa [← EP.mul_add, show n + 1 + n = 2 * n + true.toNat by simp; omega] at this
    · have := (hQ.double hc hm).congr k1 k2
      rwa [← EP.mul_add, show n + 1 + (n + 1) = 2 * n + true.toNat + 1 by simp; omega] at this
theorem bt_nat (N : Nat) (t : Nat) : bt (N : Int) t = decide (N / 2 ^ t % 2 = 1) := by
  unfold bt
  have e : ((N : Int) / 2 ^ t % 2 = 1) = (N / 2 ^ t % 2 = 1) := by
    apply propext
    have : ((N : Int) / 2 ^ t) = ((N / 2 ^ t : Nat) : Int) := by simp
    rw [this]
    omega
  simp only [e]
theorem lad_rep {s c : Int} (hc : NonSq c) (hm : Mont s c) {P0 : EP c} {X : Int} (hX : Zp (X * (1 - P0.y) - s * (1 + P0.y))) (nX : ¬ Zp X) (n0 : ¬ Zp (1 - P0.y)) (N : Nat) (hN : N < 2 ^ 255) : ∀ i, i ≤ 255 → Rep s (EP.mul hc (N / 2 ^ (255 - i)) P0) (lad N X i).a (lad N X i).b ∧ Rep s (EP.mul hc (N / 2 ^ (255 - i) + 1) P0) (lad N X i).c (lad N X i).d := by
  intro i
  induction i with
  | zero =>
    intro _
    have e : N / 2 ^ (255 - 0) = 0 := Nat.div_eq_of_lt hN
    rw [e]
    refine ⟨⟨fun ⟨q, _⟩ => zp_one q, ?_⟩, ?_⟩
    · show Zp (1 * (1 - 1) - s * 0 * (1 + 1))
      exact zp_lin1 0 zp_zero (by grind)
    · rw [Nat.zero_add, EP.mul_one]
      refine ⟨fun ⟨_, q⟩ => zp_one q, ?_⟩
      show Zp (X * (1 - P0.y) - s * 1 * (1 + P0.y))
      exact zp_lin1 1 hX (by grind)
  | succ i ih =>
    intro hi
    obtain ⟨r1, r2⟩ := ih (by omega)
    have hb : N / 2 ^ (255 - (i + 1)) = 2 * (N / 2 ^ (255 - i)) + (bt N (254 - i)).toNat := by
      rw [bt_nat]
      have e1 : 255 - (i + 1) = 254 - i := by omega
      have e2 : 255 - i = 254 - i + 1 := by omega
      rw [e1, e2, Nat.pow_succ, ← Nat.div_div_eq_div_mul]
      generalize N / 2 ^ (254 - i) = q
      by_cases h : q % 2 = 1
      · rw [decide_eq_true h]; simp; omega
      · rw [decide_eq_false h]; simp; omega
    rw [hb]
    exact step_rep hc hm hX nX n0 r1 r2 (bt N (254 - i))
/-- What stands for a point. -/
def Val {c : Int} (s : Int) (P : EP c) (r : Int) : Prop := (0 ≤ r ∧ r < prm) ∧ (Zp (1 - P.y) → r = 0) ∧ (¬ Zp (1 - P.y) → Zp (r * (1 - P.y) - s * (1 + P.y)))
theorem Val.inj {s c : Int} {P : EP c} {r q : Int} (h : Val s P r) (g : Val s P q) : r = q := by
  by_cases e : Zp (1 - P.y)
  · rw [h.2.1 e, g.2.1 e]
  · have h1 := h.2.2 e
    have h2 := g.2.2 e
    have : Zp (r - q) := zp_cancel (a := 1 - P.y) (zp_lin2 1 (-1) h1 h2 (by grind)) e
    have := zp_sub.1 this
    rwa [Int.emod_eq_of_lt h.1.1 h.1.2, Int.emod_eq_of_lt g.1.1 g.1.2] at this
theorem scn_val {s c : Int} (hc : NonSq c) (hm : Mont s c) {P0 : EP c} {X : Int} (hX : Zp (X * (1 - P0.y) - s * (1 + P0.y))) (nX : ¬ Zp X) (n0 : ¬ Zp (1 - P0.y)) (N : Nat) (hN : N < 2 ^ 255) : Val s (EP.mul hc N P0) (scn N X) := by
  obtain ⟨⟨hn, hr⟩, _⟩ := lad_rep hc hm hX nX n0 N hN 255 (Nat.le_refl _)
  rw [show N / 2 ^ (255 - 255) = N by simp] at hr
  refine ⟨scn_bd _ _, ?_, ?_⟩
  · intro h1
    unfold scn
    generalize (lad N X 255).a = a at *
    generalize (lad N X 255).b = b at *
    generalize (EP.mul hc N P0).y = y at *
    have hb : Zp b := zp_cancel (a := 2) (zp_lin2 (-s) (s * a + b) hr h1 (by have := hm.sq; grind)) zp_two
    have : b ^ 57896044618658097711785492504343953926634992332820282019728792003956564819947 % prm = 0 := pow_zero_c hb (by decide)
    rw [this, Int.mul_zero]
    rfl
  · intro h1
    have hs := hm.sq
    have hb : ¬ Zp (lad N X 255).b := fun hb => hn ⟨zp_cancel (a := 1 - (EP.mul hc N P0).y) (zp_lin2 1 (s * (1 + (EP.mul hc N P0).y)) hr hb (by grind)) h1, hb⟩
    have hi := iv_mul hb
    have hv : Zp (scn N X - (lad N X 255).a * iv (lad N X 255).b) := by
      unfold scn
      have h2 := zp_emod ((lad N X 255).b ^ 57896044618658097711785492504343953926634992332820282019728792003956564819947)
      change Zp (_ - iv (lad N X 255).b) at h2
      generalize (lad N X 255).b ^ 57896044618658097711785492504343953926634992332820282019728792003956564819947 % prm = j at *
      generalize iv (lad N X 255).b = i at *
      exact zp_lin2 1 (lad N X 255).a (zp_emod ((lad N X 255).a * j)) h2 (by grind)
    generalize scn N X = r at *
    generalize (lad N X 255).a = a at *
    generalize (lad N X 255).b = b at *
    generalize (EP.mul hc N P0).y = y at *
    generalize iv b = i at *
    exact zp_lin3 (1 - y) i (s * (1 + y)) hv hr hi (by grind)
/-- The number 0. -/
theorem lad_nil (S : Int) : ∀ i, Zp ((lad S 0 i).a * (lad S 0 i).b) ∧ Zp ((lad S 0 i).c * (lad S 0 i).d) := by
  intro i
  induction i with
  | zero => exact ⟨zp_lin1 0 zp_zero (by simp [lad]), zp_lin1 0 zp_zero (by simp [lad])⟩
  | succ i ih =>
    simp only [lad]
    generalize lad S 0 i = L at *
    obtain ⟨a, b, u, v⟩ := L
    simp only at ih
    cases bt S (254 - i)
    · obtain ⟨_, k2, _, k4⟩ := stp_cong 0 a b u v
      show Zp ((stp 0 ⟨a, b, u, v⟩).a * (stp 0 ⟨a, b, u, v⟩).b) ∧ Zp ((stp 0 ⟨a, b, u, v⟩).c * (stp 0 ⟨a, b, u, v⟩).d)
      generalize (stp 0 ⟨a, b, u, v⟩) = T at *
      exact ⟨zp_lin2 T.a (T.a * 4 * ((a + b) * (a + b) + 121665 * ((a + b) * (a + b) - (a - b) * (a - b)))) k2 ih.1 (by grind), zp_lin1 T.c k4 (by grind)⟩
    · obtain ⟨_, k2, _, k4⟩ := stp_cong 0 u v a b
      show Zp ((stp 0 ⟨u, v, a, b⟩).c * (stp 0 ⟨u, v, a, b⟩).d) ∧ Zp ((stp 0 ⟨u, v, a, b⟩).a * (stp 0 ⟨u, v, a, b⟩).b)
      generalize (stp 0 ⟨u, v, a, b⟩) = T at *
      exact ⟨zp_lin1 T.c k4 (by grind), zp_lin2 T.a (T.a * 4 * ((u + v) * (u + v) + 121665 * ((u + v) * (u + v) - (u - v) * (u - v)))) k2 ih.2 (by grind)⟩
theorem scn_zero (S : Int) (h : bt S 0 = false) : scn S 0 = 0 := by
  have hb : Zp (lad S 0 255).b := by
    obtain ⟨i1, _⟩ := lad_nil S 254
    show Zp (rnd 0 (bt S 0) (lad S 0 254)).b
    rw [h]
    generalize lad S 0 254 = L at *
    obtain ⟨a, b, u, v⟩ := L
    obtain ⟨_, k2, _, _⟩ := stp_cong 0 a b u v
    show Zp (stp 0 ⟨a, b, u, v⟩).b
    simp only at i1
    exact zp_lin2 1 (4 * ((a + b) * (a + b) + 121665 * ((a + b) * (a + b) - (a - b) * (a - b)))) k2 i1 (by grind)
  unfold scn
  rw [pow_zero_c hb (by decide), Int.mul_zero]
  rfl
end Go.Proofs.YtgfhoabgbgddbaaDoor
