import Derived.Test.YtgfhoabgbgddbaaDoorEf
namespace Go.Proofs.YtgfhoabgbgddbaaDoor
set_option maxRecDepth 100000

/-! The curve of layer 19: -x^2 + y^2 = 1 + d x^2 y^2 with d = - ec1, as an Edwards curve whose x is ii times as much. -/
def ii : Int := 19681161376707505956807079304988542015446066515923890162744021073123829784752
theorem ii_sq : Zp (ii * ii + 1) := by unfold Zp; decide +kernel
abbrev E1 := EP ec1
theorem zp_lin5 {h1 h2 h3 h4 h5 g : Int} (k1 k2 k3 k4 k5 : Int) (a1 : Zp h1) (a2 : Zp h2) (a3 : Zp h3) (a4 : Zp h4) (a5 : Zp h5) (e : g = k1 * h1 + k2 * h2 + k3 * h3 + k4 * h4 + k5 * h5) : Zp g := e ▸ zp_add (zp_lin4 k1 k2 k3 k4 a1 a2 a3 a4 rfl) (zp_mul k5 a5)
theorem zp_cg {a b : Int} (h : Zp (a - b)) (hb : ¬ Zp b) : ¬ Zp a := fun ha => hb (zp_lin2 1 (-1) ha h (by grind))
/-- The point's x in the dress of layer 19. -/
def tx (P : E1) : Int := -(ii * P.x) % prm
theorem prm_pos : (0 : Int) < prm := by decide
theorem tx_bd (P : E1) : 0 ≤ tx P ∧ tx P < prm := ⟨Int.emod_nonneg _ (by decide), Int.emod_lt_of_pos _ prm_pos⟩
theorem y_bd (P : E1) : 0 ≤ P.y ∧ P.y < prm := by rw [← P.hy]; exact ⟨Int.emod_nonneg _ (by decide), Int.emod_lt_of_pos _ prm_pos⟩
theorem x_bd (P : E1) : 0 ≤ P.x ∧ P.x < prm := by rw [← P.hx]; exact ⟨Int.emod_nonneg _ (by decide), Int.emod_lt_of_pos _ prm_pos⟩
theorem tx_ii (P : E1) : Zp (tx P + ii * P.x) := zp_lin1 1 (zp_emod (-(ii * P.x))) (by unfold tx; grind)
theorem x_tx (P : E1) : Zp (P.x - ii * tx P) := by
  have h1 := tx_ii P
  have h2 := ii_sq
  generalize tx P = t at *
  generalize ii = i at *
  exact zp_lin2 (-i) P.x h1 h2 (by grind)
theorem tw_on (P : E1) : Zp (P.y * P.y - tx P * tx P - 1 + ec1 * tx P * tx P * P.y * P.y) := by
  have h0 := P.on
  have h1 := x_tx P
  have h2 := ii_sq
  generalize tx P = t at *
  generalize ii = i at *
  generalize P.x = x at *
  generalize P.y = y at *
  generalize ec1 = c at *
  exact zp_lin3 1 (-(1 - c * y * y) * (x + i * t)) (-(1 - c * y * y) * (t * t)) h0 h1 h2 (by grind)
theorem tw_prod (P Q : E1) : Zp (P.x * Q.x + tx P * tx Q) := by
  have h1 := x_tx P
  have h2 := x_tx Q
  have h3 := ii_sq
  generalize tx P = t at *
  generalize tx Q = u at *
  generalize ii = i at *
  exact zp_lin3 Q.x (i * t) (t * u) h1 h2 h3 (by grind)
theorem tw_den1 (P Q : E1) : ¬ Zp (1 - ec1 * tx P * tx Q * P.y * Q.y) := by
  refine zp_cg ?_ (ed_plus nsq_1 P.on Q.on)
  have h := tw_prod P Q
  generalize tx P = t at *
  generalize tx Q = u at *
  generalize P.x = x1 at *
  generalize Q.x = x2 at *
  generalize P.y = y1 at *
  generalize Q.y = y2 at *
  generalize ec1 = c at *
  exact zp_lin1 (-(c * y1 * y2)) h (by grind)
theorem tw_den2 (P Q : E1) : ¬ Zp (1 + ec1 * tx P * tx Q * P.y * Q.y) := by
  refine zp_cg ?_ (ed_minus nsq_1 P.on Q.on)
  have h := tw_prod P Q
  generalize tx P = t at *
  generalize tx Q = u at *
  generalize P.x = x1 at *
  generalize Q.x = x2 at *
  generalize P.y = y1 at *
  generalize Q.y = y2 at *
  generalize ec1 = c at *
  exact zp_lin1 (c * y1 * y2) h (by grind)
/-- The sum. -/
def pl (P Q : E1) : E1 := EP.add nsq_1 P Q
theorem pl_x (P Q : E1) : Zp (tx (pl P Q) * (1 - ec1 * tx P * tx Q * P.y * Q.y) - (tx P * Q.y + P.y * tx Q)) := by
  have hA := EP.add_x nsq_1 P Q
  have h1 := x_tx P
  have h2 := x_tx Q
  have h3 := tx_ii (pl P Q)
  have h4 := ii_sq
  unfold pl at *
  generalize EP.add nsq_1 P Q = R at *
  generalize tx P = t1 at *
  generalize tx Q = t2 at *
  generalize tx R = t3 at *
  generalize ii = i at *
  generalize P.x = x1 at *
  generalize P.y = y1 at *
  generalize Q.x = x2 at *
  generalize Q.y = y2 at *
  generalize R.x = x3 at *
  generalize ec1 = c at *
  exact zp_lin5 (-i) (i * x3 * (c * y1 * y2) * x2 - i * y2) (i * x3 * (c * y1 * y2) * (i * t1) - i * y1) (1 - c * y1 * y2 * t1 * t2) (i * x3 * (c * y1 * y2) * t1 * t2 - t1 * y2 - y1 * t2) hA h1 h2 h3 h4 (by grind)
theorem pl_y (P Q : E1) : Zp ((pl P Q).y * (1 + ec1 * tx P * tx Q * P.y * Q.y) - (P.y * Q.y + tx P * tx Q)) := by
  have hA := EP.add_y nsq_1 P Q
  have h := tw_prod P Q
  unfold pl at *
  generalize EP.add nsq_1 P Q = R at *
  generalize tx P = t1 at *
  generalize tx Q = t2 at *
  generalize P.x = x1 at *
  generalize P.y = y1 at *
  generalize Q.x = x2 at *
  generalize Q.y = y2 at *
  generalize R.y = y3 at *
  generalize ec1 = c at *
  exact zp_lin2 1 (y3 * c * y1 * y2 - 1) hA h (by grind)

/-- Four numbers that say a point: x / z, y / z, and t / z their product. -/
def Sp (P : E1) (X Y Z T : Int) : Prop := ¬ Zp Z ∧ Zp (X - Z * tx P) ∧ Zp (Y - Z * P.y) ∧ Zp (T - Z * (tx P * P.y))
theorem sp_shared {P : E1} {a b c d : Int} (hb : ¬ Zp b) (hd : ¬ Zp d) (h1 : Zp (tx P * b - a)) (h2 : Zp (P.y * d - c)) : Sp P (a * d) (c * b) (b * d) (a * c) := by
  refine ⟨zp_ne_mul hb hd, ?_, ?_, ?_⟩
  · generalize tx P = t at *; exact zp_lin1 (-d) h1 (by grind)
  · generalize tx P = t at *; exact zp_lin1 (-b) h2 (by grind)
  · generalize tx P = t at *; exact zp_lin2 (-c) (-(t * b)) h1 h2 (by grind)
theorem n243332 : ¬ Zp 243332 := by unfold Zp; decide
theorem sp_over {k N D a b : Int} (t : Int) (hk : ¬ Zp k) (hD : ¬ Zp D) (h : Zp (t * D - N)) (ha : Zp (a - k * N)) (hb : Zp (b - k * D)) : ¬ Zp b ∧ Zp (t * b - a) :=
  ⟨zp_cg hb (zp_ne_mul hk hD), zp_lin3 k (-1) t h ha hb (by grind)⟩
theorem sp_plus {P Q : E1} {X1 Y1 Z1 T1 X2 Y2 Z2 T2 : Int} (hP : Sp P X1 Y1 Z1 T1) (hQ : Sp Q X2 Y2 Z2 T2) :
    Sp (pl P Q) (((Y1 + X1) * ((Y2 + X2) * 121666) - (Y1 - X1) * ((Y2 - X2) * 121666)) * (Z1 * (Z2 * 243332) + T1 * (T2 * 243330)))
      (((Y1 + X1) * ((Y2 + X2) * 121666) + (Y1 - X1) * ((Y2 - X2) * 121666)) * (Z1 * (Z2 * 243332) - T1 * (T2 * 243330)))
      ((Z1 * (Z2 * 243332) - T1 * (T2 * 243330)) * (Z1 * (Z2 * 243332) + T1 * (T2 * 243330)))
      (((Y1 + X1) * ((Y2 + X2) * 121666) - (Y1 - X1) * ((Y2 - X2) * 121666)) * ((Y1 + X1) * ((Y2 + X2) * 121666) + (Y1 - X1) * ((Y2 - X2) * 121666))) := by
  obtain ⟨n1, a1, b1, c1⟩ := hP
  obtain ⟨n2, a2, b2, c2⟩ := hQ
  have hx := pl_x P Q
  have hy := pl_y P Q
  have d1 := tw_den1 P Q
  have d2 := tw_den2 P Q
  have hk : ¬ Zp (243332 * (Z1 * Z2)) := zp_ne_mul n243332 (zp_ne_mul n1 n2)
  have he := ec1_eq
  generalize pl P Q = R at *
  generalize hu : tx R = u at *
  generalize tx P = t1 at *
  generalize tx Q = t2 at *
  generalize P.y = y1 at *
  generalize Q.y = y2 at *
  generalize hv : R.y = ry at *
  have hA : Zp (((Y1 + X1) * ((Y2 + X2) * 121666) - (Y1 - X1) * ((Y2 - X2) * 121666)) - 243332 * (Z1 * Z2) * (t1 * y2 + y1 * t2)) :=
    zp_lin4 (243332 * Y2) (243332 * X2) (243332 * Z1 * y1) (243332 * Z1 * t1) a1 b1 a2 b2 (by grind)
  have hC : Zp (((Y1 + X1) * ((Y2 + X2) * 121666) + (Y1 - X1) * ((Y2 - X2) * 121666)) - 243332 * (Z1 * Z2) * (y1 * y2 + t1 * t2)) :=
    zp_lin4 (243332 * X2) (243332 * Y2) (243332 * Z1 * t1) (243332 * Z1 * y1) a1 b1 a2 b2 (by grind)
  have hB : Zp ((Z1 * (Z2 * 243332) - T1 * (T2 * 243330)) - 243332 * (Z1 * Z2) * (1 - ec1 * t1 * t2 * y1 * y2)) :=
    zp_lin3 (-243330 * T2) (-243330 * Z1 * (t1 * y1)) (2 * Z1 * Z2 * t1 * t2 * y1 * y2) c1 c2 he (by grind)
  have hD : Zp ((Z1 * (Z2 * 243332) + T1 * (T2 * 243330)) - 243332 * (Z1 * Z2) * (1 + ec1 * t1 * t2 * y1 * y2)) :=
    zp_lin3 (243330 * T2) (243330 * Z1 * (t1 * y1)) (-2 * Z1 * Z2 * t1 * t2 * y1 * y2) c1 c2 he (by grind)
  obtain ⟨m1, q1⟩ := sp_over u hk d1 hx hA hB
  obtain ⟨m2, q2⟩ := sp_over ry hk d2 hy hC hD
  exact sp_shared m1 m2 (by rw [hu]; exact q1) (by rw [hv]; exact q2)
theorem sp_twice {P : E1} {X Y Z T : Int} (hP : Sp P X Y Z T) :
    Sp (pl P P) (((X + Y) * (X + Y) - (Y * Y + X * X)) * (Z * Z * 2 - (Y * Y - X * X))) ((Y * Y + X * X) * (Y * Y - X * X)) ((Y * Y - X * X) * (Z * Z * 2 - (Y * Y - X * X))) (((X + Y) * (X + Y) - (Y * Y + X * X)) * (Y * Y + X * X)) := by
  obtain ⟨n1, a1, b1, c1⟩ := hP
  have hx := pl_x P P
  have hy := pl_y P P
  have d1 := tw_den1 P P
  have d2 := tw_den2 P P
  have ho := tw_on P
  have hk : ¬ Zp (Z * Z) := zp_ne_mul n1 n1
  generalize pl P P = R at *
  generalize hu : tx R = u at *
  generalize tx P = t at *
  generalize P.y = y at *
  generalize hv : R.y = ry at *
  have hA : Zp (((X + Y) * (X + Y) - (Y * Y + X * X)) - Z * Z * (t * y + y * t)) := zp_lin2 (2 * Y) (2 * (Z * t)) a1 b1 (by grind)
  have hB : Zp ((Y * Y - X * X) - Z * Z * (1 - ec1 * t * t * y * y)) := zp_lin3 (-(X + Z * t)) (Y + Z * y) (Z * Z) a1 b1 ho (by grind)
  have hC : Zp ((Y * Y + X * X) - Z * Z * (y * y + t * t)) := zp_lin2 (X + Z * t) (Y + Z * y) a1 b1 (by grind)
  have hD : Zp ((Z * Z * 2 - (Y * Y - X * X)) - Z * Z * (1 + ec1 * t * t * y * y)) := zp_lin3 (X + Z * t) (-(Y + Z * y)) (-(Z * Z)) a1 b1 ho (by grind)
  obtain ⟨m1, q1⟩ := sp_over u hk d1 hx hA hB
  obtain ⟨m2, q2⟩ := sp_over ry hk d2 hy hC hD
  exact sp_shared m1 m2 (by rw [hu]; exact q1) (by rw [hv]; exact q2)
/-- The opposite. -/
def ng (P : E1) : E1 := EP.neg P
theorem tx_ng (P : E1) : Zp (tx (ng P) + tx P) := by
  have h1 := EP.neg_x P
  have h2 := tx_ii P
  have h3 := tx_ii (ng P)
  unfold ng at *
  generalize EP.neg P = R at *
  generalize tx P = t at *
  generalize tx R = u at *
  generalize ii = i at *
  exact zp_lin3 (-i) 1 1 h1 h2 h3 (by grind)
theorem y_ng (P : E1) : (ng P).y = P.y := rfl
theorem sp_neg {P : E1} {X Y Z T : Int} (hP : Sp P X Y Z T) : Sp (ng P) (-X) Y Z (-T) := by
  obtain ⟨n1, a1, b1, c1⟩ := hP
  have h := tx_ng P
  refine ⟨n1, ?_, ?_, ?_⟩
  · generalize tx P = t at *; generalize tx (ng P) = u at *; exact zp_lin2 (-1) (-Z) a1 h (by grind)
  · rw [y_ng]; exact b1
  · rw [y_ng]; generalize tx P = t at *; generalize tx (ng P) = u at *; exact zp_lin2 (-1) (-(Z * P.y)) c1 h (by grind)
def ze : E1 := EP.zero
theorem tx_ze : tx ze = 0 := by decide +kernel
theorem y_ze : ze.y = 1 := rfl
theorem sp_ze : Sp ze 0 1 1 0 := by
  refine ⟨zp_one, ?_, ?_, ?_⟩
  · rw [tx_ze]; exact zp_zero
  · exact zp_zero
  · rw [tx_ze]; exact zp_zero
theorem sp_flat {P : E1} {X Y : Int} (hx : Zp (X - tx P)) (hy : Zp (Y - P.y)) : Sp P X Y 1 (X * Y) := by
  refine ⟨zp_one, ?_, ?_, ?_⟩
  · exact zp_lin1 1 hx (by grind)
  · exact zp_lin1 1 hy (by grind)
  · generalize tx P = t at *; exact zp_lin2 Y t hx hy (by grind)
theorem Sp.cong {P : E1} {X Y Z T X' Y' Z' T' : Int} (h : Sp P X Y Z T) (hx : Zp (X' - X)) (hy : Zp (Y' - Y)) (hz : Zp (Z' - Z)) (ht : Zp (T' - T)) : Sp P X' Y' Z' T' := by
  obtain ⟨n1, a1, b1, c1⟩ := h
  refine ⟨zp_cg hz n1, ?_, ?_, ?_⟩
  · generalize tx P = t at *; exact zp_lin3 1 1 (-t) a1 hx hz (by grind)
  · exact zp_lin3 1 1 (-P.y) b1 hy hz (by grind)
  · generalize tx P = t at *; exact zp_lin3 1 1 (-(t * P.y)) c1 ht hz (by grind)
theorem E1.eq {P Q : E1} (h1 : Zp (tx P - tx Q)) (h2 : Zp (P.y - Q.y)) : P = Q := by
  refine EP.eq ?_ h2
  have a := x_tx P
  have b := x_tx Q
  generalize tx P = t at *; generalize tx Q = u at *; generalize ii = i at *
  exact zp_lin3 1 (-1) i a b h1 (by grind)
theorem zp_small {a : Int} (h0 : 0 ≤ a) (h1 : a < prm) (h : Zp a) : a = 0 := by
  unfold Zp at h; rw [Int.emod_eq_of_lt h0 h1] at h; exact h
theorem E1.eq' {P Q : E1} (h1 : tx P = tx Q) (h2 : P.y = Q.y) : P = Q := E1.eq (by rw [h1, Int.sub_self]; exact zp_zero) (by rw [h2, Int.sub_self]; exact zp_zero)
theorem sp_eq {P Q : E1} {X1 Y1 Z1 T1 X2 Y2 Z2 T2 : Int} (hP : Sp P X1 Y1 Z1 T1) (hQ : Sp Q X2 Y2 Z2 T2) : (X1 * Z2 % prm = X2 * Z1 % prm ∧ Y1 * Z2 % prm = Y2 * Z1 % prm) ↔ P = Q := by
  obtain ⟨n1, a1, b1, c1⟩ := hP
  obtain ⟨n2, a2, b2, c2⟩ := hQ
  rw [← zp_sub, ← zp_sub]
  constructor
  · rintro ⟨hx, hy⟩
    refine E1.eq (zp_cancel ?_ (zp_ne_mul n1 n2)) (zp_cancel ?_ (zp_ne_mul n1 n2))
    · generalize tx P = t at *; generalize tx Q = u at *; exact zp_lin3 1 (-Z2) Z1 hx a1 a2 (by grind)
    · exact zp_lin3 1 (-Z2) Z1 hy b1 b2 (by grind)
  · rintro rfl
    constructor
    · generalize tx P = t at *; exact zp_lin2 Z2 (-Z1) a1 a2 (by grind)
    · exact zp_lin2 Z2 (-Z1) b1 b2 (by grind)
theorem mod_of {a b : Int} (h : Zp (a - b)) (h0 : 0 ≤ b) (h1 : b < prm) : a % prm = b := by rw [zp_sub.1 h, Int.emod_eq_of_lt h0 h1]
theorem sp_y {P : E1} {X Y Z T : Int} (hP : Sp P X Y Z T) : Y * iv Z % prm = P.y := by
  obtain ⟨n1, a1, b1, c1⟩ := hP
  have h := iv_mul n1
  generalize iv Z = z at *
  exact mod_of (zp_lin2 z P.y b1 h (by grind)) (y_bd P).1 (y_bd P).2
theorem sp_x {P : E1} {X Y Z T : Int} (hP : Sp P X Y Z T) : X * iv Z % prm = tx P := by
  obtain ⟨n1, a1, b1, c1⟩ := hP
  have h := iv_mul n1
  have hb := tx_bd P
  generalize iv Z = z at *
  generalize tx P = t at *
  exact mod_of (zp_lin2 z t a1 h (by grind)) hb.1 hb.2
/-- The number of layer 2. -/
def ux (P : E1) : Int := (1 + P.y) * iv (1 - P.y) % prm
theorem iv_cong {a b : Int} (h : Zp (a - b)) : Zp (iv a - iv b) := by
  rw [zp_sub] at *
  unfold iv
  exact pow_c h _
theorem iv_prod (a b : Int) : iv (a * b) = iv a * iv b := by unfold iv; exact Int.mul_pow
theorem sp_u {P : E1} {X Y Z T : Int} (hP : Sp P X Y Z T) : (Z + Y) * iv (Z - Y) % prm = ux P := by
  obtain ⟨n1, a1, b1, c1⟩ := hP
  have h := iv_mul n1
  have h2 : Zp (iv (Z - Y) - iv Z * iv (1 - P.y)) := by
    rw [← iv_prod]; exact iv_cong (zp_lin1 (-1) b1 (by grind))
  unfold ux
  rw [← zp_sub]
  generalize iv (Z - Y) = q at *
  generalize iv (1 - P.y) = r at *
  generalize iv Z = z at *
  exact zp_lin3 q (r * (1 + P.y)) (Z * (1 + P.y)) b1 h h2 (by grind)
/-- A point's bytes, as a number. -/
def pb (P : E1) : Int := P.y + 57896044618658097711785492504343953926634992332820282019728792003956564819968 * (tx P % 2)
theorem prm_is : prm = 57896044618658097711785492504343953926634992332820282019728792003956564819949 := by decide
theorem pb_bd (P : E1) : 0 ≤ pb P ∧ pb P < 115792089237316195423570985008687907853269984665640564039457584007913129639936 := by
  have h1 := y_bd P
  have h2 : 0 ≤ tx P % 2 ∧ tx P % 2 < 2 := ⟨Int.emod_nonneg _ (by decide), Int.emod_lt_of_pos _ (by decide)⟩
  rw [prm_is] at h1
  unfold pb
  omega
end Go.Proofs.YtgfhoabgbgddbaaDoor
