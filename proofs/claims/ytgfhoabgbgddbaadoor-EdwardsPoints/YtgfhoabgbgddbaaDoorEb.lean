import Derived.Test.YtgfhoabgbgddbaaDoorEa
namespace Go.Proofs.YtgfhoabgbgddbaaDoor
set_option maxRecDepth 100000

theorem zp_emod (a : Int) : Zp (a % prm - a) := zp_sub.2 (Int.emod_emod _ _)
/-- A point of an Edwards curve. -/
structure EP (c : Int) where
  x : Int
  y : Int
  hx : x % prm = x
  hy : y % prm = y
  on : Zp (x * x + y * y - 1 - c * x * x * y * y)
theorem EP.eq {c : Int} {P Q : EP c} (h1 : Zp (P.x - Q.x)) (h2 : Zp (P.y - Q.y)) : P = Q := by
  have e1 : P.x = Q.x := by rw [← P.hx, ← Q.hx]; exact zp_sub.1 h1
  have e2 : P.y = Q.y := by rw [← P.hy, ← Q.hy]; exact zp_sub.1 h2
  cases P; cases Q
  simp at e1 e2
  subst e1 e2
  rfl
theorem quot_spec {X d : Int} (hd : ¬ Zp d) : Zp ((X * iv d) % prm * d - X) := by
  have h1 := zp_emod (X * iv d)
  have h2 := iv_mul hd
  generalize iv d = i at *
  generalize (X * i) % prm = q at *
  exact zp_lin2 d X h1 h2 (by grind)
/-! Associativity, from the parts. -/
theorem as_x {c x1 y1 x2 y2 x3 y3 xa ya xb yb xL xR : Int}
    (ax : Zp (xa * (1 + (c * x1 * x2 * y1 * y2)) - (x1 * y2 + y1 * x2))) (ay : Zp (ya * (1 - (c * x1 * x2 * y1 * y2)) - (y1 * y2 - x1 * x2)))
    (bx : Zp (xb * (1 + (c * x2 * x3 * y2 * y3)) - (x2 * y3 + y2 * x3))) (by' : Zp (yb * (1 - (c * x2 * x3 * y2 * y3)) - (y2 * y3 - x2 * x3)))
    (lx : Zp (xL * (1 + (c * xa * x3 * ya * y3)) - (xa * y3 + ya * x3))) (rx : Zp (xR * (1 + (c * x1 * xb * y1 * yb)) - (x1 * yb + y1 * xb)))
    (d1 : ¬ Zp (1 + (c * x1 * x2 * y1 * y2))) (d2 : ¬ Zp (1 - (c * x1 * x2 * y1 * y2))) (d3 : ¬ Zp (1 + (c * x2 * x3 * y2 * y3))) (d4 : ¬ Zp (1 - (c * x2 * x3 * y2 * y3)))
    (f1 : ¬ Zp (1 + (c * xa * x3 * ya * y3))) (f3 : ¬ Zp (1 + (c * x1 * xb * y1 * yb)))
    (kx : Zp (((x1 * y2 + y1 * x2) * y3 * (1 - (c * x1 * x2 * y1 * y2)) + (y1 * y2 - x1 * x2) * x3 * (1 + (c * x1 * x2 * y1 * y2))) * ((1 - (c * x2 * x3 * y2 * y3) * (c * x2 * x3 * y2 * y3)) + c * x1 * y1 * (x2 * y3 + y2 * x3) * (y2 * y3 - x2 * x3)) - (x1 * (y2 * y3 - x2 * x3) * (1 + (c * x2 * x3 * y2 * y3)) + y1 * (x2 * y3 + y2 * x3) * (1 - (c * x2 * x3 * y2 * y3))) * ((1 - (c * x1 * x2 * y1 * y2) * (c * x1 * x2 * y1 * y2)) + c * (x1 * y2 + y1 * x2) * (y1 * y2 - x1 * x2) * x3 * y3))) :
    Zp (xL - xR) := by
  generalize c * x1 * x2 * y1 * y2 = t at *
  generalize c * x2 * x3 * y2 * y3 = u at *
  generalize x1 * y2 + y1 * x2 = X at *
  generalize y1 * y2 - x1 * x2 = Y at *
  generalize x2 * y3 + y2 * x3 = V at *
  generalize y2 * y3 - x2 * x3 = W at *
  have aXY : Zp (xa * ya * ((1 + t) * (1 - t)) - X * Y) := zp_lin2 (ya * (1 - t)) X ax ay (by grind)
  have bXY : Zp (xb * yb * ((1 + u) * (1 - u)) - V * W) := zp_lin2 (yb * (1 - u)) V bx by' (by grind)
  -- left: xL * DL = NL
  have hL : Zp (xL * ((1 - t * t) + c * X * Y * x3 * y3) - (X * y3 * (1 - t) + Y * x3 * (1 + t))) :=
    zp_lin4 ((1 + t) * (1 - t)) (-(xL * c * x3 * y3)) (y3 * (1 - t)) (x3 * (1 + t)) lx aXY ax ay (by grind)
  have hR : Zp (xR * ((1 - u * u) + c * x1 * y1 * V * W) - (x1 * W * (1 + u) + y1 * V * (1 - u))) :=
    zp_lin4 ((1 + u) * (1 - u)) (-(xR * c * x1 * y1)) (y1 * (1 - u)) (x1 * (1 + u)) rx bXY bx by' (by grind)
  have nL : ¬ Zp ((1 - t * t) + c * X * Y * x3 * y3) := fun h => zp_ne_mul (zp_ne_mul d1 d2) f1 (zp_lin2 1 (c * x3 * y3) h aXY (by grind))
  have nR : ¬ Zp ((1 - u * u) + c * x1 * y1 * V * W) := fun h => zp_ne_mul (zp_ne_mul d3 d4) f3 (zp_lin2 1 (c * x1 * y1) h bXY (by grind))
  generalize (1 - t * t) + c * X * Y * x3 * y3 = DL at *
  generalize (1 - u * u) + c * x1 * y1 * V * W = DR at *
  generalize X * y3 * (1 - t) + Y * x3 * (1 + t) = NL at *
  generalize x1 * W * (1 + u) + y1 * V * (1 - u) = NR at *
  exact zp_cancel (zp_lin3 DR (-DL) 1 hL hR kx (by grind)) (zp_ne_mul nL nR)
theorem as_y {c x1 y1 x2 y2 x3 y3 xa ya xb yb yL yR : Int}
    (ax : Zp (xa * (1 + (c * x1 * x2 * y1 * y2)) - (x1 * y2 + y1 * x2))) (ay : Zp (ya * (1 - (c * x1 * x2 * y1 * y2)) - (y1 * y2 - x1 * x2)))
    (bx : Zp (xb * (1 + (c * x2 * x3 * y2 * y3)) - (x2 * y3 + y2 * x3))) (by' : Zp (yb * (1 - (c * x2 * x3 * y2 * y3)) - (y2 * y3 - x2 * x3)))
    (ly : Zp (yL * (1 - (c * xa * x3 * ya * y3)) - (ya * y3 - xa * x3))) (ry : Zp (yR * (1 - (c * x1 * xb * y1 * yb)) - (y1 * yb - x1 * xb)))
    (d1 : ¬ Zp (1 + (c * x1 * x2 * y1 * y2))) (d2 : ¬ Zp (1 - (c * x1 * x2 * y1 * y2))) (d3 : ¬ Zp (1 + (c * x2 * x3 * y2 * y3))) (d4 : ¬ Zp (1 - (c * x2 * x3 * y2 * y3)))
    (f2 : ¬ Zp (1 - (c * xa * x3 * ya * y3))) (f4 : ¬ Zp (1 - (c * x1 * xb * y1 * yb)))
    (ky : Zp (((y1 * y2 - x1 * x2) * y3 * (1 + (c * x1 * x2 * y1 * y2)) - (x1 * y2 + y1 * x2) * x3 * (1 - (c * x1 * x2 * y1 * y2))) * ((1 - (c * x2 * x3 * y2 * y3) * (c * x2 * x3 * y2 * y3)) - c * x1 * y1 * (x2 * y3 + y2 * x3) * (y2 * y3 - x2 * x3)) - (y1 * (y2 * y3 - x2 * x3) * (1 + (c * x2 * x3 * y2 * y3)) - x1 * (x2 * y3 + y2 * x3) * (1 - (c * x2 * x3 * y2 * y3))) * ((1 - (c * x1 * x2 * y1 * y2) * (c * x1 * x2 * y1 * y2)) - c * (x1 * y2 + y1 * x2) * (y1 * y2 - x1 * x2) * x3 * y3))) :
    Zp (yL - yR) := by
  generalize c * x1 * x2 * y1 * y2 = t at *
  generalize c * x2 * x3 * y2 * y3 = u at *
  generalize x1 * y2 + y1 * x2 = X at *
  generalize y1 * y2 - x1 * x2 = Y at *
  generalize x2 * y3 + y2 * x3 = V at *
  generalize y2 * y3 - x2 * x3 = W at *
  have aXY : Zp (xa * ya * ((1 + t) * (1 - t)) - X * Y) := zp_lin2 (ya * (1 - t)) X ax ay (by grind)
  have bXY : Zp (xb * yb * ((1 + u) * (1 - u)) - V * W) := zp_lin2 (yb * (1 - u)) V bx by' (by grind)
  have hL : Zp (yL * ((1 - t * t) - c * X * Y * x3 * y3) - (Y * y3 * (1 + t) - X * x3 * (1 - t))) :=
    zp_lin4 ((1 + t) * (1 - t)) (yL * c * x3 * y3) (-(x3 * (1 - t))) (y3 * (1 + t)) ly aXY ax ay (by grind)
  have hR : Zp (yR * ((1 - u * u) - c * x1 * y1 * V * W) - (y1 * W * (1 + u) - x1 * V * (1 - u))) :=
    zp_lin4 ((1 + u) * (1 - u)) (yR * c * x1 * y1) (-(x1 * (1 - u))) (y1 * (1 + u)) ry bXY bx by' (by grind)
  have nL : ¬ Zp ((1 - t * t) - c * X * Y * x3 * y3) := fun h => zp_ne_mul (zp_ne_mul d1 d2) f2 (zp_lin2 1 (-(c * x3 * y3)) h aXY (by grind))
  have nR : ¬ Zp ((1 - u * u) - c * x1 * y1 * V * W) := fun h => zp_ne_mul (zp_ne_mul d3 d4) f4 (zp_lin2 1 (-(c * x1 * y1)) h bXY (by grind))
  generalize (1 - t * t) - c * X * Y * x3 * y3 = DL at *
  generalize (1 - u * u) - c * x1 * y1 * V * W = DR at *
  generalize Y * y3 * (1 + t) - X * x3 * (1 - t) = NL at *
  generalize y1 * W * (1 + u) - x1 * V * (1 - u) = NR at *
  exact zp_cancel (zp_lin3 DR (-DL) 1 hL hR ky (by grind)) (zp_ne_mul nL nR)
section
variable {c : Int} (hc : NonSq c)
def EP.add (P Q : EP c) : EP c where
  x := ((P.x * Q.y + P.y * Q.x) * iv (1 + (c * P.x * Q.x * P.y * Q.y))) % prm
  y := ((P.y * Q.y - P.x * Q.x) * iv (1 - (c * P.x * Q.x * P.y * Q.y))) % prm
  hx := Int.emod_emod _ _
  hy := Int.emod_emod _ _
  on := ed_closed hc P.on Q.on (quot_spec (ed_plus hc P.on Q.on)) (quot_spec (ed_minus hc P.on Q.on))
theorem EP.add_x (P Q : EP c) : Zp ((EP.add hc P Q).x * (1 + (c * P.x * Q.x * P.y * Q.y)) - (P.x * Q.y + P.y * Q.x)) := quot_spec (ed_plus hc P.on Q.on)
theorem EP.add_y (P Q : EP c) : Zp ((EP.add hc P Q).y * (1 - (c * P.x * Q.x * P.y * Q.y)) - (P.y * Q.y - P.x * Q.x)) := quot_spec (ed_minus hc P.on Q.on)
/-- Whatever fits the addition is it. -/
theorem EP.add_is {P Q R : EP c} (h1 : Zp (R.x * (1 + (c * P.x * Q.x * P.y * Q.y)) - (P.x * Q.y + P.y * Q.x))) (h2 : Zp (R.y * (1 - (c * P.x * Q.x * P.y * Q.y)) - (P.y * Q.y - P.x * Q.x))) : EP.add hc P Q = R := by
  have a1 := EP.add_x hc P Q
  have a2 := EP.add_y hc P Q
  refine EP.eq (zp_cancel (zp_lin2 1 (-1) a1 h1 ?_) (ed_plus hc P.on Q.on)) (zp_cancel (zp_lin2 1 (-1) a2 h2 ?_) (ed_minus hc P.on Q.on)) <;> grind
theorem EP.add_comm (P Q : EP c) : EP.add hc P Q = EP.add hc Q P :=
  EP.add_is hc (zp_lin1 1 (EP.add_x hc Q P) (by grind)) (zp_lin1 1 (EP.add_y hc Q P) (by grind))
def EP.zero : EP c := ⟨0, 1, by decide, by decide, zp_lin1 0 zp_zero (by grind)⟩
theorem EP.add_zero (P : EP c) : EP.add hc P EP.zero = P :=
  EP.add_is hc (zp_lin1 0 zp_zero (by simp only [EP.zero]; grind)) (zp_lin1 0 zp_zero (by simp only [EP.zero]; grind))
def EP.neg (P : EP c) : EP c := ⟨(-P.x) % prm, P.y, Int.emod_emod _ _, P.hy, by
  have h := zp_emod (-P.x)
  have o := P.on
  generalize (-P.x) % prm = q at *
  exact zp_lin2 ((q - P.x) * (1 - c * P.y * P.y)) 1 h o (by grind)⟩
theorem EP.neg_x (P : EP c) : Zp ((EP.neg P).x + P.x) := zp_lin1 1 (zp_emod (-P.x)) (by simp only [EP.neg]; grind)
theorem EP.neg_y (P : EP c) : (EP.neg P).y = P.y := rfl
theorem EP.add_neg (P : EP c) : EP.add hc P (EP.neg P) = EP.zero := by
  have h := EP.neg_x P
  have o := P.on
  have e := EP.neg_y P
  refine EP.add_is hc ?_ ?_
  · simp only [EP.zero]
    rw [e]
    generalize (EP.neg P).x = q at *
    exact zp_lin1 (-P.y) h (by grind)
  · simp only [EP.zero]
    rw [e]
    generalize (EP.neg P).x = q at *
    exact zp_lin2 (-(c * P.x * P.y * P.y) + P.x) (-1) h o (by grind)
theorem EP.add_assoc (P Q R : EP c) : EP.add hc (EP.add hc P Q) R = EP.add hc P (EP.add hc Q R) := by
  have ax := EP.add_x hc P Q
  have ay := EP.add_y hc P Q
  have bx := EP.add_x hc Q R
  have by' := EP.add_y hc Q R
  have lx := EP.add_x hc (EP.add hc P Q) R
  have ly := EP.add_y hc (EP.add hc P Q) R
  have rx := EP.add_x hc P (EP.add hc Q R)
  have ry := EP.add_y hc P (EP.add hc Q R)
  have d1 := ed_plus hc P.on Q.on
  have d2 := ed_minus hc P.on Q.on
  have d3 := ed_plus hc Q.on R.on
  have d4 := ed_minus hc Q.on R.on
  have f1 := ed_plus hc (EP.add hc P Q).on R.on
  have f2 := ed_minus hc (EP.add hc P Q).on R.on
  have f3 := ed_plus hc P.on (EP.add hc Q R).on
  have f4 := ed_minus hc P.on (EP.add hc Q R).on
  have kx := ed_assoc_x P.on Q.on R.on
  have ky := ed_assoc_y P.on Q.on R.on
  apply EP.eq
  · generalize (EP.add hc (EP.add hc P Q) R).x = xL at *
    generalize (EP.add hc P (EP.add hc Q R)).x = xR at *
    generalize (EP.add hc P Q).x = xa at *
    generalize (EP.add hc P Q).y = ya at *
    generalize (EP.add hc Q R).x = xb at *
    generalize (EP.add hc Q R).y = yb at *
    exact as_x ax ay bx by' lx rx d1 d2 d3 d4 f1 f3 kx
  · generalize (EP.add hc (EP.add hc P Q) R).y = yL at *
    generalize (EP.add hc P (EP.add hc Q R)).y = yR at *
    generalize (EP.add hc P Q).x = xa at *
    generalize (EP.add hc P Q).y = ya at *
    generalize (EP.add hc Q R).x = xb at *
    generalize (EP.add hc Q R).y = yb at *
    exact as_y ax ay bx by' ly ry d1 d2 d3 d4 f2 f4 ky
def EP.mul : Nat → EP c → EP c
  | 0, _ => EP.zero
  | n + 1, P => EP.add hc (EP.mul n P) P
theorem EP.mul_add (m n : Nat) (P : EP c) : EP.mul hc (m + n) P = EP.add hc (EP.mul hc m P) (EP.mul hc n P) := by
  induction n with
  | zero => exact (EP.add_zero hc _).symm
  | succ n ih => rw [← Nat.add_assoc, EP.mul, EP.mul, ih, EP.add_assoc]
theorem EP.mul_mul (m n : Nat) (P : EP c) : EP.mul hc m (EP.mul hc n P) = EP.mul hc (m * n) P := by
  induction m with
  | zero => rw [Nat.zero_mul]; rfl
  | succ m ih => rw [EP.mul, ih, Nat.succ_mul, EP.mul_add]
theorem EP.mul_one (P : EP c) : EP.mul hc 1 P = P := by
  rw [EP.mul, EP.mul, EP.add_comm, EP.add_zero]
theorem EP.mul_zero_pt (m : Nat) : EP.mul hc m (EP.zero : EP c) = EP.zero := by
  induction m with
  | zero => rfl
  | succ m ih => rw [EP.mul, ih, EP.add_zero]
/-- A neighbour less the point itself. -/
theorem EP.back (P Q : EP c) : EP.add hc (EP.add hc P Q) (EP.neg P) = Q := by
  rw [EP.add_comm hc P Q, EP.add_assoc, EP.add_neg, EP.add_zero]
end
end Go.Proofs.YtgfhoabgbgddbaaDoor
