import Derived.Test.YtpconccafpcpnaaDoorMa
import Derived.Test.YtpconccafpcpnaaDoorCm
namespace Go.Proofs.YtpconccafpcpnaaDoor
set_option maxRecDepth 100000

/-! Numbers modulo prm: what is 0. -/
def Zp (a : Int) : Prop := a % prm = 0
theorem zp_zero : Zp 0 := by unfold Zp; decide
theorem zp_dvd {a : Int} : Zp a ↔ prm ∣ a := by unfold Zp; exact ⟨Int.dvd_of_emod_eq_zero, Int.emod_eq_zero_of_dvd⟩
theorem zp_mul (k : Int) {a : Int} (h : Zp a) : Zp (k * a) := by rw [zp_dvd] at *; exact Int.dvd_mul_of_dvd_right h
theorem zp_add {a b : Int} (h : Zp a) (g : Zp b) : Zp (a + b) := by rw [zp_dvd] at *; exact Int.dvd_add h g
theorem zp_neg {a : Int} (h : Zp a) : Zp (-a) := by rw [zp_dvd] at *; exact (Int.dvd_neg).2 h
theorem zp_lin1 {h g : Int} (k : Int) (hh : Zp h) (e : g = k * h) : Zp g := e ▸ zp_mul k hh
theorem zp_lin2 {h1 h2 g : Int} (k1 k2 : Int) (a1 : Zp h1) (a2 : Zp h2) (e : g = k1 * h1 + k2 * h2) : Zp g := e ▸ zp_add (zp_mul k1 a1) (zp_mul k2 a2)
theorem zp_lin3 {h1 h2 h3 g : Int} (k1 k2 k3 : Int) (a1 : Zp h1) (a2 : Zp h2) (a3 : Zp h3) (e : g = k1 * h1 + k2 * h2 + k3 * h3) : Zp g := e ▸ zp_add (zp_add (zp_mul k1 a1) (zp_mul k2 a2)) (zp_mul k3 a3)
theorem zp_lin4 {h1 h2 h3 h4 g : Int} (k1 k2 k3 k4 : Int) (a1 : Zp h1) (a2 : Zp h2) (a3 : Zp h3) (a4 : Zp h4) (e : g = k1 * h1 + k2 * h2 + k3 * h3 + k4 * h4) : Zp g := e ▸ zp_add (zp_add (zp_add (zp_mul k1 a1) (zp_mul k2 a2)) (zp_mul k3 a3)) (zp_mul k4 a4)
theorem zp_or {a b : Int} (h : Zp (a * b)) : Zp a ∨ Zp b := (mul_zero_iff a b).1 h
theorem zp_cancel {a b : Int} (h : Zp (a * b)) (ha : ¬ Zp a) : Zp b := (zp_or h).resolve_left ha
theorem zp_ne_mul {a b : Int} (ha : ¬ Zp a) (hb : ¬ Zp b) : ¬ Zp (a * b) := fun h => (zp_or h).elim ha hb
theorem zp_one : ¬ Zp 1 := by unfold Zp; decide
theorem zp_two : ¬ Zp 2 := by unfold Zp; decide
theorem zp_sub {a b : Int} : Zp (a - b) ↔ a % prm = b % prm := ⟨sub_zero_c, fun h => by unfold Zp; rw [Int.sub_emod, h, Int.sub_self]; rfl⟩
/-- The inverse. -/
def iv (a : Int) : Int := a ^ 57896044618658097711785492504343953926634992332820282019728792003956564819947
theorem iv_mul {a : Int} (h : ¬ Zp a) : Zp (a * iv a - 1) := zp_sub.2 (inv_mul h)
theorem iv_ne {a : Int} (h : ¬ Zp a) : ¬ Zp (iv a) := fun g => zp_one (zp_lin2 a (-1) g (iv_mul h) (by grind))
/-- Not the square of any number. -/
def NonSq (c : Int) : Prop := ∀ r, ¬ Zp (r * r - c)
theorem NonSq.of_ratio {c u v : Int} (hc : NonSq c) (h : Zp (u * u - c * (v * v))) : Zp v := by
  apply Classical.byContradiction
  intro hv
  refine hc (u * iv v) ?_
  have hi := iv_mul hv
  generalize iv v = i at *
  exact zp_lin2 (i * i) (c * (v * i + 1)) h hi (by grind)
/-- The addition's denominators are never 0. -/
theorem ed_den {c x1 y1 x2 y2 : Int} (hc : NonSq c) (h1 : Zp (x1 * x1 + y1 * y1 - 1 - c * x1 * x1 * y1 * y1)) (h2 : Zp (x2 * x2 + y2 * y2 - 1 - c * x2 * x2 * y2 * y2)) (ep : Int) (he : ep * ep = 1) : ¬ Zp (c * x1 * x2 * y1 * y2 - ep) := by
  intro h
  have g : ∀ s : Int, s * s = 1 → Zp (x1 * y1 * (x2 + s * y2)) := fun s hs => by
    refine hc.of_ratio (u := x1 + s * ep * y1) ?_
    exact zp_lin3 (-(c * x1 * x2 * y1 * y2 - ep + 2 * ep) - 2 * s * x1 * y1) 1 (-(c * x1 * x1 * y1 * y1)) h h1 h2 (by grind)
  have n1 : ¬ Zp (x1 * y1) := fun q => by
    have : Zp ep := zp_lin2 (c * x2 * y2) (-1) q h (by grind)
    exact zp_one (zp_lin1 ep this he.symm)
  have n2 : ¬ Zp x2 := fun q => by
    have : Zp ep := zp_lin2 (c * x1 * y1 * y2) (-1) q h (by grind)
    exact zp_one (zp_lin1 ep this he.symm)
  have a1 := zp_cancel (g 1 (by decide)) n1
  have a2 := zp_cancel (g (-1) (by decide)) n1
  have : Zp (2 * x2) := zp_lin2 1 1 a1 a2 (by grind)
  exact n2 (zp_cancel this zp_two)
theorem ed_plus {c x1 y1 x2 y2 : Int} (hc : NonSq c) (h1 : Zp (x1 * x1 + y1 * y1 - 1 - c * x1 * x1 * y1 * y1)) (h2 : Zp (x2 * x2 + y2 * y2 - 1 - c * x2 * x2 * y2 * y2)) : ¬ Zp (1 + (c * x1 * x2 * y1 * y2)) := fun h => ed_den hc h1 h2 (-1) (by decide) (zp_lin1 1 h (by grind))
theorem ed_minus {c x1 y1 x2 y2 : Int} (hc : NonSq c) (h1 : Zp (x1 * x1 + y1 * y1 - 1 - c * x1 * x1 * y1 * y1)) (h2 : Zp (x2 * x2 + y2 * y2 - 1 - c * x2 * x2 * y2 * y2)) : ¬ Zp (1 - (c * x1 * x2 * y1 * y2)) := fun h => ed_den hc h1 h2 1 (by decide) (zp_lin1 (-1) h (by grind))
/-- What the addition gives lies on the curve. -/
theorem ed_closed {c x1 y1 x2 y2 x y : Int} (hc : NonSq c) (h1 : Zp (x1 * x1 + y1 * y1 - 1 - c * x1 * x1 * y1 * y1)) (h2 : Zp (x2 * x2 + y2 * y2 - 1 - c * x2 * x2 * y2 * y2)) (hx : Zp (x * (1 + (c * x1 * x2 * y1 * y2)) - (x1 * y2 + y1 * x2))) (hy : Zp (y * (1 - (c * x1 * x2 * y1 * y2)) - (y1 * y2 - x1 * x2))) : Zp (x * x + y * y - 1 - c * x * x * y * y) := by
  have k : Zp ((x1 * y2 + y1 * x2) * (x1 * y2 + y1 * x2) * ((1 - (c * x1 * x2 * y1 * y2)) * (1 - (c * x1 * x2 * y1 * y2))) + (y1 * y2 - x1 * x2) * (y1 * y2 - x1 * x2) * ((1 + (c * x1 * x2 * y1 * y2)) * (1 + (c * x1 * x2 * y1 * y2))) - (1 - (c * x1 * x2 * y1 * y2) * (c * x1 * x2 * y1 * y2)) * (1 - (c * x1 * x2 * y1 * y2) * (c * x1 * x2 * y1 * y2)) - c * ((x1 * y2 + y1 * x2) * (x1 * y2 + y1 * x2)) * ((y1 * y2 - x1 * x2) * (y1 * y2 - x1 * x2))) :=
    zp_lin2 (x2 * x2 * x2 * x2 + y2 * y2 * y2 * y2 - 2 * x2 * x2 * y2 * y2 * y2 * y2 - 2 * x2 * x2 * x2 * x2 * y2 * y2 + 4 * x2 * x2 * y2 * y2 - c * c * x2 * x2 * x2 * x2 * y2 * y2 * y2 * y2 - 2 * c * x2 * x2 * y2 * y2 + 2 * c * x2 * x2 * x2 * x2 * y2 * y2 * y2 * y2 + c * c * x1 * x1 * x2 * x2 * x2 * x2 * y2 * y2 * y2 * y2 + c * c * x2 * x2 * x2 * x2 * y1 * y1 * y2 * y2 * y2 * y2 - c * x1 * x1 * x2 * x2 * y2 * y2 * y2 * y2 - c * x1 * x1 * x2 * x2 * x2 * x2 * y2 * y2 - c * x2 * x2 * y1 * y1 * y2 * y2 * y2 * y2 - c * x2 * x2 * x2 * x2 * y1 * y1 * y2 * y2 + c * c * c * x1 * x1 * x2 * x2 * x2 * x2 * y1 * y1 * y2 * y2 * y2 * y2) (1 + x2 * x2 + y2 * y2 - x1 * x1 * x2 * x2 - x1 * x1 * y2 * y2 - x2 * x2 * y1 * y1 - y1 * y1 * y2 * y2 - 2 * x2 * x2 * y2 * y2 + c * x2 * x2 * y2 * y2 + 2 * x1 * x1 * x2 * x2 * y2 * y2 + 2 * x2 * x2 * y1 * y1 * y2 * y2 + c * x1 * x1 * x1 * x1 * x2 * x2 * y2 * y2 + c * x2 * x2 * y1 * y1 * y1 * y1 * y2 * y2 - 2 * c * x1 * x1 * x2 * x2 * y2 * y2 - 2 * c * x2 * x2 * y1 * y1 * y2 * y2) h1 h2 (by grind)
  have np := ed_plus hc h1 h2
  have nm := ed_minus hc h1 h2
  generalize (x1 * y2 + y1 * x2) = X at *
  generalize (y1 * y2 - x1 * x2) = Y at *
  generalize (c * x1 * x2 * y1 * y2) = t at *
  refine zp_cancel (a := (1 + t) * (1 + t) * ((1 - t) * (1 - t))) ?_ (zp_ne_mul (zp_ne_mul np np) (zp_ne_mul nm nm))
  have hX : Zp ((x * (1 + t)) * (x * (1 + t)) - X * X) := zp_lin1 (x * (1 + t) + X) hx (by grind)
  have hY : Zp ((y * (1 - t)) * (y * (1 - t)) - Y * Y) := zp_lin1 (y * (1 - t) + Y) hy (by grind)
  exact zp_lin3 ((1 - t) * (1 - t) - c * ((y * (1 - t)) * (y * (1 - t)))) ((1 + t) * (1 + t) - c * (X * X)) 1 hX hY k (by grind)

theorem ed_assoc_x {c x1 y1 x2 y2 x3 y3 : Int} (h1 : Zp (x1 * x1 + y1 * y1 - 1 - c * x1 * x1 * y1 * y1)) (h2 : Zp (x2 * x2 + y2 * y2 - 1 - c * x2 * x2 * y2 * y2)) (h3 : Zp (x3 * x3 + y3 * y3 - 1 - c * x3 * x3 * y3 * y3)) :
    Zp (((x1 * y2 + y1 * x2) * y3 * (1 - (c * x1 * x2 * y1 * y2)) + (y1 * y2 - x1 * x2) * x3 * (1 + (c * x1 * x2 * y1 * y2))) * ((1 - (c * x2 * x3 * y2 * y3) * (c * x2 * x3 * y2 * y3)) + c * x1 * y1 * (x2 * y3 + y2 * x3) * (y2 * y3 - x2 * x3)) - (x1 * (y2 * y3 - x2 * x3) * (1 + (c * x2 * x3 * y2 * y3)) + y1 * (x2 * y3 + y2 * x3) * (1 - (c * x2 * x3 * y2 * y3))) * ((1 - (c * x1 * x2 * y1 * y2) * (c * x1 * x2 * y1 * y2)) + c * (x1 * y2 + y1 * x2) * (y1 * y2 - x1 * x2) * x3 * y3)) :=
  zp_lin3 (c * x1 * x3 * x2 * x2 * x2 * y2 * y2 + c * x1 * x2 * x2 * y2 * y2 * y2 * y3 * y3 * y3 + c * y1 * x2 * x2 * x3 * x3 * x3 * y2 * y2 * y2 + c * y1 * x2 * x2 * x2 * y2 * y2 * y3 * y3 * y3 - c * x1 * y3 * x2 * x2 * y2 * y2 * y2 - c * x1 * x2 * x2 * x2 * x3 * x3 * x3 * y2 * y2 - c * x3 * y1 * x2 * x2 * y2 * y2 * y2 - c * y1 * y3 * x2 * x2 * x2 * y2 * y2 + c * x1 * x2 * x3 * y2 * y2 * y2 * y2 * y3 * y3 + x1 * y3 * c * c * x2 * x2 * x2 * x2 * x3 * x3 * y2 * y2 * y2 + x3 * y1 * c * c * x2 * x2 * x2 * x2 * y2 * y2 * y2 * y3 * y3 + y1 * y3 * c * c * x2 * x2 * x2 * x3 * x3 * y2 * y2 * y2 * y2 - c * x1 * y2 * y3 * x2 * x2 * x2 * x2 * x3 * x3 - c * x2 * y1 * y3 * x3 * x3 * y2 * y2 * y2 * y2 - c * x3 * y1 * y2 * x2 * x2 * x2 * x2 * y3 * y3 - x1 * x3 * c * c * x2 * x2 * x2 * y2 * y2 * y2 * y2 * y3 * y3) (x1 * x2 * x3 * x3 * x3 + x1 * y2 * y3 + x2 * x3 * x1 * x1 * x1 + x2 * y1 * y3 + x2 * y1 * y1 * y1 * y3 * y3 * y3 + x3 * y1 * y2 + y2 * x1 * x1 * x1 * y3 * y3 * y3 + y2 * x3 * x3 * x3 * y1 * y1 * y1 - x1 * x2 * x3 - x1 * y2 * y3 * y3 * y3 - x2 * y1 * y3 * y3 * y3 - x2 * y3 * y1 * y1 * y1 - x2 * x1 * x1 * x1 * x3 * x3 * x3 - x3 * y2 * y1 * y1 * y1 - y1 * y2 * x3 * x3 * x3 - y2 * y3 * x1 * x1 * x1 + x1 * x2 * x3 * y1 * y1 + x1 * x2 * x3 * y3 * y3 + x1 * y2 * y1 * y1 * y3 * y3 * y3 + x2 * y1 * x1 * x1 * y3 * y3 * y3 + x2 * y3 * x3 * x3 * y1 * y1 * y1 + x3 * y2 * y1 * y1 * y1 * y3 * y3 + y1 * y2 * x1 * x1 * x3 * x3 * x3 + y2 * y3 * x1 * x1 * x1 * x3 * x3 - x1 * x2 * x3 * x3 * x3 * y1 * y1 - x1 * y2 * y3 * x3 * x3 - x1 * y2 * y3 * y1 * y1 - x2 * x3 * x1 * x1 * x1 * y3 * y3 - x2 * y1 * y3 * x1 * x1 - x2 * y1 * y3 * x3 * x3 - x3 * y1 * y2 * x1 * x1 - x3 * y1 * y2 * y3 * y3 + c * x1 * y2 * x3 * x3 * y3 * y3 * y3 + c * x2 * y1 * x3 * x3 * y3 * y3 * y3 + c * x2 * x1 * x1 * x1 * x3 * x3 * x3 * y3 * y3 + c * y1 * y2 * x3 * x3 * x3 * y3 * y3 + x1 * y2 * y3 * x3 * x3 * y1 * y1 + x2 * y1 * y3 * x1 * x1 * x3 * x3 + x3 * y1 * y2 * x1 * x1 * y3 * y3 - c * x1 * x2 * x3 * x3 * x3 * y3 * y3 - c * x2 * x3 * x3 * y1 * y1 * y1 * y3 * y3 * y3 - c * y2 * x1 * x1 * x1 * x3 * x3 * y3 * y3 * y3 - c * y2 * x3 * x3 * x3 * y1 * y1 * y1 * y3 * y3 - x1 * x2 * x3 * y1 * y1 * y3 * y3 + c * x1 * x2 * x3 * y2 * y2 * y3 * y3 + c * x1 * x2 * x3 * x3 * x3 * y1 * y1 * y3 * y3 + c * x2 * y3 * x3 * x3 * y1 * y1 * y1 * y2 * y2 + c * x3 * y2 * x2 * x2 * y1 * y1 * y1 * y3 * y3 + c * y2 * y3 * x1 * x1 * x1 * x2 * x2 * x3 * x3 - c * x1 * y2 * y3 * x2 * x2 * x3 * x3 - c * x1 * y2 * x3 * x3 * y1 * y1 * y3 * y3 * y3 - c * x2 * x3 * x1 * x1 * x1 * y2 * y2 * y3 * y3 - c * x2 * y1 * y3 * x3 * x3 * y2 * y2 - c * x2 * y1 * x1 * x1 * x3 * x3 * y3 * y3 * y3 - c * x3 * y1 * y2 * x2 * x2 * y3 * y3 - c * y1 * y2 * x1 * x1 * x3 * x3 * x3 * y3 * y3 + c * x1 * y2 * y3 * x2 * x2 * x3 * x3 * y1 * y1 + c * x2 * y1 * y3 * x1 * x1 * x3 * x3 * y2 * y2 + c * x3 * y1 * y2 * x1 * x1 * x2 * x2 * y3 * y3 + x1 * x2 * c * c * x3 * x3 * x3 * y1 * y1 * y2 * y2 * y3 * y3 - c * x1 * x2 * x3 * y1 * y1 * y2 * y2 * y3 * y3 - x1 * y2 * c * c * x2 * x2 * x3 * x3 * y1 * y1 * y3 * y3 * y3 - x2 * y1 * c * c * x1 * x1 * x3 * x3 * y2 * y2 * y3 * y3 * y3 - y1 * y2 * c * c * x1 * x1 * x2 * x2 * x3 * x3 * x3 * y3 * y3) (x1 * x2 * x3 + x1 * y3 * y2 * y2 * y2 + x2 * y3 * y1 * y1 * y1 + x3 * y1 * y2 * y2 * y2 + x3 * y2 * y1 * y1 * y1 + x3 * x1 * x1 * x1 * x2 * x2 * x2 + y1 * y3 * x2 * x2 * x2 + y2 * y3 * x1 * x1 * x1 - x1 * x3 * x2 * x2 * x2 - x1 * y2 * y3 - x2 * x3 * x1 * x1 * x1 - x2 * y1 * y3 - x3 * y1 * y2 - x3 * y1 * y1 * y1 * y2 * y2 * y2 - y3 * x1 * x1 * x1 * y2 * y2 * y2 - y3 * x2 * x2 * x2 * y1 * y1 * y1 + x1 * x3 * x2 * x2 * x2 * y1 * y1 + x1 * y2 * y3 * x2 * x2 + x1 * y2 * y3 * y1 * y1 + x2 * x3 * x1 * x1 * x1 * y2 * y2 + x2 * y1 * y3 * x1 * x1 + x2 * y1 * y3 * y2 * y2 + x3 * y1 * y2 * x1 * x1 + x3 * y1 * y2 * x2 * x2 - x1 * x2 * x3 * y1 * y1 - x1 * x2 * x3 * y2 * y2 - x1 * y3 * y1 * y1 * y2 * y2 * y2 - x2 * y3 * y1 * y1 * y1 * y2 * y2 - x3 * y1 * x1 * x1 * y2 * y2 * y2 - x3 * y2 * x2 * x2 * y1 * y1 * y1 - y1 * y3 * x1 * x1 * x2 * x2 * x2 - y2 * y3 * x1 * x1 * x1 * x2 * x2 + x1 * x2 * x3 * y1 * y1 * y2 * y2 - x1 * y2 * y3 * x2 * x2 * y1 * y1 - x2 * y1 * y3 * x1 * x1 * y2 * y2 - x3 * y1 * y2 * x1 * x1 * x2 * x2 + c * x1 * y2 * y3 * x2 * x2 * y1 * y1 + c * x2 * y1 * y3 * x1 * x1 * y2 * y2 + c * x3 * y1 * y2 * x1 * x1 * x2 * x2 - c * x1 * x2 * x3 * y1 * y1 * y2 * y2) h1 h2 h3 (by grind)
theorem ed_assoc_y {c x1 y1 x2 y2 x3 y3 : Int} (h1 : Zp (x1 * x1 + y1 * y1 - 1 - c * x1 * x1 * y1 * y1)) (h2 : Zp (x2 * x2 + y2 * y2 - 1 - c * x2 * x2 * y2 * y2)) (h3 : Zp (x3 * x3 + y3 * y3 - 1 - c * x3 * x3 * y3 * y3)) :
    Zp (((y1 * y2 - x1 * x2) * y3 * (1 + (c * x1 * x2 * y1 * y2)) - (x1 * y2 + y1 * x2) * x3 * (1 - (c * x1 * x2 * y1 * y2))) * ((1 - (c * x2 * x3 * y2 * y3) * (c * x2 * x3 * y2 * y3)) - c * x1 * y1 * (x2 * y3 + y2 * x3) * (y2 * y3 - x2 * x3)) - (y1 * (y2 * y3 - x2 * x3) * (1 + (c * x2 * x3 * y2 * y3)) - x1 * (x2 * y3 + y2 * x3) * (1 - (c * x2 * x3 * y2 * y3))) * ((1 - (c * x1 * x2 * y1 * y2) * (c * x1 * x2 * y1 * y2)) - c * (x1 * y2 + y1 * x2) * (y1 * y2 - x1 * x2) * x3 * y3)) :=
  zp_lin3 (c * x1 * x3 * x2 * x2 * y2 * y2 * y2 + c * x1 * y3 * x2 * x2 * x2 * y2 * y2 + c * x3 * y1 * x2 * x2 * x2 * y2 * y2 + c * y1 * x2 * x2 * y2 * y2 * y2 * y3 * y3 * y3 - c * x1 * x2 * x2 * x3 * x3 * x3 * y2 * y2 * y2 - c * x1 * x2 * x2 * x2 * y2 * y2 * y3 * y3 * y3 - c * y1 * y3 * x2 * x2 * y2 * y2 * y2 - c * y1 * x2 * x2 * x2 * x3 * x3 * x3 * y2 * y2 + c * x1 * x2 * y3 * x3 * x3 * y2 * y2 * y2 * y2 + c * x1 * x3 * y2 * x2 * x2 * x2 * x2 * y3 * y3 + c * x2 * x3 * y1 * y2 * y2 * y2 * y2 * y3 * y3 + y1 * y3 * c * c * x2 * x2 * x2 * x2 * x3 * x3 * y2 * y2 * y2 - c * y1 * y2 * y3 * x2 * x2 * x2 * x2 * x3 * x3 - x1 * x3 * c * c * x2 * x2 * x2 * x2 * y2 * y2 * y2 * y3 * y3 - x1 * y3 * c * c * x2 * x2 * x2 * x3 * x3 * y2 * y2 * y2 * y2 - x3 * y1 * c * c * x2 * x2 * x2 * y2 * y2 * y2 * y2 * y3 * y3) (x1 * x2 * y3 * y3 * y3 + x1 * y2 * x3 * x3 * x3 + x2 * x3 * y1 * y1 * y1 + x2 * y1 * x3 * x3 * x3 + x2 * y3 * x1 * x1 * x1 + x3 * y2 * x1 * x1 * x1 + y1 * y2 * y3 + y2 * y1 * y1 * y1 * y3 * y3 * y3 - x1 * x2 * y3 - x1 * x3 * y2 - x2 * x3 * y1 - x2 * x1 * x1 * x1 * y3 * y3 * y3 - x2 * x3 * x3 * x3 * y1 * y1 * y1 - y1 * y2 * y3 * y3 * y3 - y2 * y3 * y1 * y1 * y1 - y2 * x1 * x1 * x1 * x3 * x3 * x3 + x1 * x2 * y3 * x3 * x3 + x1 * x2 * y3 * y1 * y1 + x1 * x3 * y2 * y1 * y1 + x1 * x3 * y2 * y3 * y3 + x2 * x3 * y1 * x1 * x1 + x2 * x3 * y1 * y3 * y3 + y1 * y2 * x1 * x1 * y3 * y3 * y3 + y2 * y3 * x3 * x3 * y1 * y1 * y1 - x1 * x2 * y1 * y1 * y3 * y3 * y3 - x1 * y2 * x3 * x3 * x3 * y1 * y1 - x2 * x3 * y1 * y1 * y1 * y3 * y3 - x2 * y1 * x1 * x1 * x3 * x3 * x3 - x2 * y3 * x1 * x1 * x1 * x3 * x3 - x3 * y2 * x1 * x1 * x1 * y3 * y3 - y1 * y2 * y3 * x1 * x1 - y1 * y2 * y3 * x3 * x3 + c * x2 * x1 * x1 * x1 * x3 * x3 * y3 * y3 * y3 + c * x2 * x3 * x3 * x3 * y1 * y1 * y1 * y3 * y3 + c * y1 * y2 * x3 * x3 * y3 * y3 * y3 + c * y2 * x1 * x1 * x1 * x3 * x3 * x3 * y3 * y3 + y1 * y2 * y3 * x1 * x1 * x3 * x3 - c * x1 * x2 * x3 * x3 * y3 * y3 * y3 - c * x1 * y2 * x3 * x3 * x3 * y3 * y3 - c * x2 * y1 * x3 * x3 * x3 * y3 * y3 - c * y2 * x3 * x3 * y1 * y1 * y1 * y3 * y3 * y3 - x1 * x2 * y3 * x3 * x3 * y1 * y1 - x1 * x3 * y2 * y1 * y1 * y3 * y3 - x2 * x3 * y1 * x1 * x1 * y3 * y3 + c * x1 * x2 * y3 * x3 * x3 * y2 * y2 + c * x1 * x2 * x3 * x3 * y1 * y1 * y3 * y3 * y3 + c * x1 * x3 * y2 * x2 * x2 * y3 * y3 + c * x1 * y2 * x3 * x3 * x3 * y1 * y1 * y3 * y3 + c * x2 * x3 * y1 * y2 * y2 * y3 * y3 + c * x2 * y1 * x1 * x1 * x3 * x3 * x3 * y3 * y3 + c * y2 * y3 * x2 * x2 * x3 * x3 * y1 * y1 * y1 - c * x2 * x3 * y1 * y1 * y1 * y2 * y2 * y3 * y3 - c * x2 * y3 * x1 * x1 * x1 * x3 * x3 * y2 * y2 - c * x3 * y2 * x1 * x1 * x1 * x2 * x2 * y3 * y3 - c * y1 * y2 * y3 * x2 * x2 * x3 * x3 - c * y1 * y2 * x1 * x1 * x3 * x3 * y3 * y3 * y3 + c * y1 * y2 * y3 * x1 * x1 * x2 * x2 * x3 * x3 + x1 * x2 * c * c * x3 * x3 * y1 * y1 * y2 * y2 * y3 * y3 * y3 + x1 * y2 * c * c * x2 * x2 * x3 * x3 * x3 * y1 * y1 * y3 * y3 + x2 * y1 * c * c * x1 * x1 * x3 * x3 * x3 * y2 * y2 * y3 * y3 - c * x1 * x2 * y3 * x3 * x3 * y1 * y1 * y2 * y2 - c * x1 * x3 * y2 * x2 * x2 * y1 * y1 * y3 * y3 - c * x2 * x3 * y1 * x1 * x1 * y2 * y2 * y3 * y3 - y1 * y2 * c * c * x1 * x1 * x2 * x2 * x3 * x3 * y3 * y3 * y3) (x1 * x2 * y3 + x1 * x3 * y2 + x2 * x3 * y1 + x3 * x1 * x1 * x1 * y2 * y2 * y2 + x3 * x2 * x2 * x2 * y1 * y1 * y1 + y1 * y3 * y2 * y2 * y2 + y2 * y3 * y1 * y1 * y1 + y3 * x1 * x1 * x1 * x2 * x2 * x2 - x1 * x3 * y2 * y2 * y2 - x1 * y3 * x2 * x2 * x2 - x2 * x3 * y1 * y1 * y1 - x2 * y3 * x1 * x1 * x1 - x3 * y1 * x2 * x2 * x2 - x3 * y2 * x1 * x1 * x1 - y1 * y2 * y3 - y3 * y1 * y1 * y1 * y2 * y2 * y2 + x1 * x3 * y1 * y1 * y2 * y2 * y2 + x1 * y3 * x2 * x2 * x2 * y1 * y1 + x2 * x3 * y1 * y1 * y1 * y2 * y2 + x2 * y3 * x1 * x1 * x1 * y2 * y2 + x3 * y1 * x1 * x1 * x2 * x2 * x2 + x3 * y2 * x1 * x1 * x1 * x2 * x2 + y1 * y2 * y3 * x1 * x1 + y1 * y2 * y3 * x2 * x2 - x1 * x2 * y3 * y1 * y1 - x1 * x2 * y3 * y2 * y2 - x1 * x3 * y2 * x2 * x2 - x1 * x3 * y2 * y1 * y1 - x2 * x3 * y1 * x1 * x1 - x2 * x3 * y1 * y2 * y2 - y1 * y3 * x1 * x1 * y2 * y2 * y2 - y2 * y3 * x2 * x2 * y1 * y1 * y1 + x1 * x2 * y3 * y1 * y1 * y2 * y2 + x1 * x3 * y2 * x2 * x2 * y1 * y1 + x2 * x3 * y1 * x1 * x1 * y2 * y2 - y1 * y2 * y3 * x1 * x1 * x2 * x2 + c * y1 * y2 * y3 * x1 * x1 * x2 * x2 - c * x1 * x2 * y3 * y1 * y1 * y2 * y2 - c * x1 * x3 * y2 * x2 * x2 * y1 * y1 - c * x2 * x3 * y1 * x1 * x1 * y2 * y2) h1 h2 h3 (by grind)
end Go.Proofs.YtpconccafpcpnaaDoor

namespace Go.Proofs.YtpconccafpcpnaaDoor
set_option maxRecDepth 100000

theorem zp_emod (a : Int) : Zp (a % prm - a) := zp_sub.2 (Int.emod_emod _ _)
/-- A point of an Edwards curve. -/
structure EP (c : Int) where
  x : Int
  y : Int
  hx : x % prm = x
  hy : y % prm = y
  on : Zp (x * x + y * y - 1 - c * x * x * y * y)
theorem EP.eq {c : Int} {P Q : EP c} (h1 : Zp (P.x - Q.x)) (h2 : Zp (P.y - Q.y)) : P = Q := by
  have e1 : P.x = Q.x := by rw [← P.hx, ← Q.hx]; exact zp_sub.1 h1
  have e2 : P.y = Q.y := by rw [← P.hy, ← Q.hy]; exact zp_sub.1 h2
  cases P; cases Q
  simp at e1 e2
  subst e1 e2
  rfl
theorem quot_spec {X d : Int} (hd : ¬ Zp d) : Zp ((X * iv d) % prm * d - X) := by
  have h1 := zp_emod (X * iv d)
  have h2 := iv_mul hd
  generalize iv d = i at *
  generalize (X * i) % prm = q at *
  exact zp_lin2 d X h1 h2 (by grind)
/-! Associativity, from the parts. -/
theorem as_x {c x1 y1 x2 y2 x3 y3 xa ya xb yb xL xR : Int}
    (ax : Zp (xa * (1 + (c * x1 * x2 * y1 * y2)) - (x1 * y2 + y1 * x2))) (ay : Zp (ya * (1 - (c * x1 * x2 * y1 * y2)) - (y1 * y2 - x1 * x2)))
    (bx : Zp (xb * (1 + (c * x2 * x3 * y2 * y3)) - (x2 * y3 + y2 * x3))) (by' : Zp (yb * (1 - (c * x2 * x3 * y2 * y3)) - (y2 * y3 - x2 * x3)))
    (lx : Zp (xL * (1 + (c * xa * x3 * ya * y3)) - (xa * y3 + ya * x3))) (rx : Zp (xR * (1 + (c * x1 * xb * y1 * yb)) - (x1 * yb + y1 * xb)))
    (d1 : ¬ Zp (1 + (c * x1 * x2 * y1 * y2))) (d2 : ¬ Zp (1 - (c * x1 * x2 * y1 * y2))) (d3 : ¬ Zp (1 + (c * x2 * x3 * y2 * y3))) (d4 : ¬ Zp (1 - (c * x2 * x3 * y2 * y3)))
    (f1 : ¬ Zp (1 + (c * xa * x3 * ya * y3))) (f3 : ¬ Zp (1 + (c * x1 * xb * y1 * yb)))
    (kx : Zp (((x1 * y2 + y1 * x2) * y3 * (1 - (c * x1 * x2 * y1 * y2)) + (y1 * y2 - x1 * x2) * x3 * (1 + (c * x1 * x2 * y1 * y2))) * ((1 - (c * x2 * x3 * y2 * y3) * (c * x2 * x3 * y2 * y3)) + c * x1 * y1 * (x2 * y3 + y2 * x3) * (y2 * y3 - x2 * x3)) - (x1 * (y2 * y3 - x2 * x3) * (1 + (c * x2 * x3 * y2 * y3)) + y1 * (x2 * y3 + y2 * x3) * (1 - (c * x2 * x3 * y2 * y3))) * ((1 - (c * x1 * x2 * y1 * y2) * (c * x1 * x2 * y1 * y2)) + c * (x1 * y2 + y1 * x2) * (y1 * y2 - x1 * x2) * x3 * y3))) :
    Zp (xL - xR) := by
  generalize c * x1 * x2 * y1 * y2 = t at *
  generalize c * x2 * x3 * y2 * y3 = u at *
  generalize x1 * y2 + y1 * x2 = X at *
  generalize y1 * y2 - x1 * x2 = Y at *
  generalize x2 * y3 + y2 * x3 = V at *
  generalize y2 * y3 - x2 * x3 = W at *
  have aXY : Zp (xa * ya * ((1 + t) * (1 - t)) - X * Y) := zp_lin2 (ya * (1 - t)) X ax ay (by grind)
  have bXY : Zp (xb * yb * ((1 + u) * (1 - u)) - V * W) := zp_lin2 (yb * (1 - u)) V bx by' (by grind)
  -- left: xL * DL = NL
  have hL : Zp (xL * ((1 - t * t) + c * X * Y * x3 * y3) - (X * y3 * (1 - t) + Y * x3 * (1 + t))) :=
    zp_lin4 ((1 + t) * (1 - t)) (-(xL * c * x3 * y3)) (y3 * (1 - t)) (x3 * (1 + t)) lx aXY ax ay (by grind)
  have hR : Zp (xR * ((1 - u * u) + c * x1 * y1 * V * W) - (x1 * W * (1 + u) + y1 * V * (1 - u))) :=
    zp_lin4 ((1 + u) * (1 - u)) (-(xR * c * x1 * y1)) (y1 * (1 - u)) (x1 * (1 + u)) rx bXY bx by' (by grind)
  have nL : ¬ Zp ((1 - t * t) + c * X * Y * x3 * y3) := fun h => zp_ne_mul (zp_ne_mul d1 d2) f1 (zp_lin2 1 (c * x3 * y3) h aXY (by grind))
  have nR : ¬ Zp ((1 - u * u) + c * x1 * y1 * V * W) := fun h => zp_ne_mul (zp_ne_mul d3 d4) f3 (zp_lin2 1 (c * x1 * y1) h bXY (by grind))
  generalize (1 - t * t) + c * X * Y * x3 * y3 = DL at *
  generalize (1 - u * u) + c * x1 * y1 * V * W = DR at *
  generalize X * y3 * (1 - t) + Y * x3 * (1 + t) = NL at *
  generalize x1 * W * (1 + u) + y1 * V * (1 - u) = NR at *
  exact zp_cancel (zp_lin3 DR (-DL) 1 hL hR kx (by grind)) (zp_ne_mul nL nR)
theorem as_y {c x1 y1 x2 y2 x3 y3 xa ya xb yb yL yR : Int}
    (ax : Zp (xa * (1 + (c * x1 * x2 * y1 * y2)) - (x1 * y2 + y1 * x2))) (ay : Zp (ya * (1 - (c * x1 * x2 * y1 * y2)) - (y1 * y2 - x1 * x2)))
    (bx : Zp (xb * (1 + (c * x2 * x3 * y2 * y3)) - (x2 * y3 + y2 * x3))) (by' : Zp (yb * (1 - (c * x2 * x3 * y2 * y3)) - (y2 * y3 - x2 * x3)))
    (ly : Zp (yL * (1 - (c * xa * x3 * ya * y3)) - (ya * y3 - xa * x3))) (ry : Zp (yR * (1 - (c * x1 * xb * y1 * yb)) - (y1 * yb - x1 * xb)))
    (d1 : ¬ Zp (1 + (c * x1 * x2 * y1 * y2))) (d2 : ¬ Zp (1 - (c * x1 * x2 * y1 * y2))) (d3 : ¬ Zp (1 + (c * x2 * x3 * y2 * y3))) (d4 : ¬ Zp (1 - (c * x2 * x3 * y2 * y3)))
    (f2 : ¬ Zp (1 - (c * xa * x3 * ya * y3))) (f4 : ¬ Zp (1 - (c * x1 * xb * y1 * yb)))
    (ky : Zp (((y1 * y2 - x1 * x2) * y3 * (1 + (c * x1 * x2 * y1 * y2)) - (x1 * y2 + y1 * x2) * x3 * (1 - (c * x1 * x2 * y1 * y2))) * ((1 - (c * x2 * x3 * y2 * y3) * (c * x2 * x3 * y2 * y3)) - c * x1 * y1 * (x2 * y3 + y2 * x3) * (y2 * y3 - x2 * x3)) - (y1 * (y2 * y3 - x2 * x3) * (1 + (c * x2 * x3 * y2 * y3)) - x1 * (x2 * y3 + y2 * x3) * (1 - (c * x2 * x3 * y2 * y3))) * ((1 - (c * x1 * x2 * y1 * y2) * (c * x1 * x2 * y1 * y2)) - c * (x1 * y2 + y1 * x2) * (y1 * y2 - x1 * x2) * x3 * y3))) :
    Zp (yL - yR) := by
  generalize c * x1 * x2 * y1 * y2 = t at *
  generalize c * x2 * x3 * y2 * y3 = u at *
  generalize x1 * y2 + y1 * x2 = X at *
  generalize y1 * y2 - x1 * x2 = Y at *
  generalize x2 * y3 + y2 * x3 = V at *
  generalize y2 * y3 - x2 * x3 = W at *
  have aXY : Zp (xa * ya * ((1 + t) * (1 - t)) - X * Y) := zp_lin2 (ya * (1 - t)) X ax ay (by grind)
  have bXY : Zp (xb * yb * ((1 + u) * (1 - u)) - V * W) := zp_lin2 (yb * (1 - u)) V bx by' (by grind)
  have hL : Zp (yL * ((1 - t * t) - c * X * Y * x3 * y3) - (Y * y3 * (1 + t) - X * x3 * (1 - t))) :=
    zp_lin4 ((1 + t) * (1 - t)) (yL * c * x3 * y3) (-(x3 * (1 - t))) (y3 * (1 + t)) ly aXY ax ay (by grind)
  have hR : Zp (yR * ((1 - u * u) - c * x1 * y1 * V * W) - (y1 * W * (1 + u) - x1 * V * (1 - u))) :=
    zp_lin4 ((1 + u) * (1 - u)) (yR * c * x1 * y1) (-(x1 * (1 - u))) (y1 * (1 + u)) ry bXY bx by' (by grind)
  have nL : ¬ Zp ((1 - t * t) - c * X * Y * x3 * y3) := fun h => zp_ne_mul (zp_ne_mul d1 d2) f2 (zp_lin2 1 (-(c * x3 * y3)) h aXY (by grind))
  have nR : ¬ Zp ((1 - u * u) - c * x1 * y1 * V * W) := fun h => zp_ne_mul (zp_ne_mul d3 d4) f4 (zp_lin2 1 (-(c * x1 * y1)) h bXY (by grind))
  generalize (1 - t * t) - c * X * Y * x3 * y3 = DL at *
  generalize (1 - u * u) - c * x1 * y1 * V * W = DR at *
  generalize Y * y3 * (1 + t) - X * x3 * (1 - t) = NL at *
  generalize y1 * W * (1 + u) - x1 * V * (1 - u) = NR at *
  exact zp_cancel (zp_lin3 DR (-DL) 1 hL hR ky (by grind)) (zp_ne_mul nL nR)
section
variable {c : Int} (hc : NonSq c)
def EP.add (P Q : EP c) : EP c where
  x := ((P.x * Q.y + P.y * Q.x) * iv (1 + (c * P.x * Q.x * P.y * Q.y))) % prm
  y := ((P.y * Q.y - P.x * Q.x) * iv (1 - (c * P.x * Q.x * P.y * Q.y))) % prm
  hx := Int.emod_emod _ _
  hy := Int.emod_emod _ _
  on := ed_closed hc P.on Q.on (quot_spec (ed_plus hc P.on Q.on)) (quot_spec (ed_minus hc P.on Q.on))
theorem EP.add_x (P Q : EP c) : Zp ((EP.add hc P Q).x * (1 + (c * P.x * Q.x * P.y * Q.y)) - (P.x * Q.y + P.y * Q.x)) := quot_spec (ed_plus hc P.on Q.on)
theorem EP.add_y (P Q : EP c) : Zp ((EP.add hc P Q).y * (1 - (c * P.x * Q.x * P.y * Q.y)) - (P.y * Q.y - P.x * Q.x)) := quot_spec (ed_minus hc P.on Q.on)
/-- Whatever fits the addition is it. -/
theorem EP.add_is {P Q R : EP c} (h1 : Zp (R.x * (1 + (c * P.x * Q.x * P.y * Q.y)) - (P.x * Q.y + P.y * Q.x))) (h2 : Zp (R.y * (1 - (c * P.x * Q.x * P.y * Q.y)) - (P.y * Q.y - P.x * Q.x))) : EP.add hc P Q = R := by
  have a1 := EP.add_x hc P Q
  have a2 := EP.add_y hc P Q
  refine EP.eq (zp_cancel (zp_lin2 1 (-1) a1 h1 ?_) (ed_plus hc P.on Q.on)) (zp_cancel (zp_lin2 1 (-1) a2 h2 ?_) (ed_minus hc P.on Q.on)) <;> grind
theorem EP.add_comm (P Q : EP c) : EP.add hc P Q = EP.add hc Q P :=
  EP.add_is hc (zp_lin1 1 (EP.add_x hc Q P) (by grind)) (zp_lin1 1 (EP.add_y hc Q P) (by grind))
def EP.zero : EP c := ⟨0, 1, by decide, by decide, zp_lin1 0 zp_zero (by grind)⟩
theorem EP.add_zero (P : EP c) : EP.add hc P EP.zero = P :=
  EP.add_is hc (zp_lin1 0 zp_zero (by simp only [EP.zero]; grind)) (zp_lin1 0 zp_zero (by simp only [EP.zero]; grind))
def EP.neg (P : EP c) : EP c := ⟨(-P.x) % prm, P.y, Int.emod_emod _ _, P.hy, by
  have h := zp_emod (-P.x)
  have o := P.on
  generalize (-P.x) % prm = q at *
  exact zp_lin2 ((q - P.x) * (1 - c * P.y * P.y)) 1 h o (by grind)⟩
theorem EP.neg_x (P : EP c) : Zp ((EP.neg P).x + P.x) := zp_lin1 1 (zp_emod (-P.x)) (by simp only [EP.neg]; grind)
theorem EP.neg_y (P : EP c) : (EP.neg P).y = P.y := rfl
theorem EP.add_neg (P : EP c) : EP.add hc P (EP.neg P) = EP.zero := by
  have h := EP.neg_x P
  have o := P.on
  have e := EP.neg_y P
  refine EP.add_is hc ?_ ?_
  · simp only [EP.zero]
    rw [e]
    generalize (EP.neg P).x = q at *
    exact zp_lin1 (-P.y) h (by grind)
  · simp only [EP.zero]
    rw [e]
    generalize (EP.neg P).x = q at *
    exact zp_lin2 (-(c * P.x * P.y * P.y) + P.x) (-1) h o (by grind)
theorem EP.add_assoc (P Q R : EP c) : EP.add hc (EP.add hc P Q) R = EP.add hc P (EP.add hc Q R) := by
  have ax := EP.add_x hc P Q
  have ay := EP.add_y hc P Q
  have bx := EP.add_x hc Q R
  have by' := EP.add_y hc Q R
  have lx := EP.add_x hc (EP.add hc P Q) R
  have ly := EP.add_y hc (EP.add hc P Q) R
  have rx := EP.add_x hc P (EP.add hc Q R)
  have ry := EP.add_y hc P (EP.add hc Q R)
  have d1 := ed_plus hc P.on Q.on
  have d2 := ed_minus hc P.on Q.on
  have d3 := ed_plus hc Q.on R.on
  have d4 := ed_minus hc Q.on R.on
  have f1 := ed_plus hc (EP.add hc P Q).on R.on
  have f2 := ed_minus hc (EP.add hc P Q).on R.on
  have f3 := ed_plus hc P.on (EP.add hc Q R).on
  have f4 := ed_minus hc P.on (EP.add hc Q R).on
  have kx := ed_assoc_x P.on Q.on R.on
  have ky := ed_assoc_y P.on Q.on R.on
  apply EP.eq
  · generalize (EP.add hc (EP.add hc P Q) R).x = xL at *
    generalize (EP.add hc P (EP.add hc Q R)).x = xR at *
    generalize (EP.add hc P Q).x = xa at *
    generalize (EP.add hc P Q).y = ya at *
    generalize (EP.add hc Q R).x = xb at *
    generalize (EP.add hc Q R).y = yb at *
    exact as_x ax ay bx by' lx rx d1 d2 d3 d4 f1 f3 kx
  · generalize (EP.add hc (EP.add hc P Q) R).y = yL at *
    generalize (EP.add hc P (EP.add hc Q R)).y = yR at *
    generalize (EP.add hc P Q).x = xa at *
    generalize (EP.add hc P Q).y = ya at *
    generalize (EP.add hc Q R).x = xb at *
    generalize (EP.add hc Q R).y = yb at *
    exact as_y ax ay bx by' ly ry d1 d2 d3 d4 f2 f4 ky
def EP.mul : Nat → EP c → EP c
  | 0, _ => EP.zero
  | n + 1, P => EP.add hc (EP.mul n P) P
theorem EP.mul_add (m n : Nat) (P : EP c) : EP.mul hc (m + n) P = EP.add hc (EP.mul hc m P) (EP.mul hc n P) := by
  induction n with
  | zero => exact (EP.add_zero hc _).symm
  | succ n ih => rw [← Nat.add_assoc, EP.mul, EP.mul, ih, EP.add_assoc]
theorem EP.mul_mul (m n : Nat) (P : EP c) : EP.mul hc m (EP.mul hc n P) = EP.mul hc (m * n) P := by
  induction m with
  | zero => rw [Nat.zero_mul]; rfl
  | succ m ih => rw [EP.mul, ih, Nat.succ_mul, EP.mul_add]
theorem EP.mul_one (P : EP c) : EP.mul hc 1 P = P := by
  rw [EP.mul, EP.mul, EP.add_comm, EP.add_zero]
theorem EP.mul_zero_pt (m : Nat) : EP.mul hc m (EP.zero : EP c) = EP.zero := by
  induction m with
  | zero => rfl
  | succ m ih => rw [EP.mul, ih, EP.add_zero]
/-- A neighbour less the point itself. -/
theorem EP.back (P Q : EP c) : EP.add hc (EP.add hc P Q) (EP.neg P) = Q := by
  rw [EP.add_comm hc P Q, EP.add_assoc, EP.add_neg, EP.add_zero]
end
end Go.Proofs.YtpconccafpcpnaaDoor

namespace Go.Proofs.YtpconccafpcpnaaDoor
set_option maxRecDepth 100000

/-- A fraction that stands for a point's number. -/
def Rep (s : Int) {c : Int} (P : EP c) (a b : Int) : Prop := ¬ (Zp a ∧ Zp b) ∧ Zp (a * (1 - P.y) - s * b * (1 + P.y))
theorem Rep.scale {s c : Int} {P : EP c} {a b : Int} (hs : s * s = 1) (h : Rep s P a b) : ∃ l, ¬ Zp l ∧ Zp (a - s * l * (1 + P.y)) ∧ Zp (b - l * (1 - P.y)) := by
  obtain ⟨hn, hr⟩ := h
  have hi := iv_mul zp_two
  generalize iv 2 = i at *
  generalize P.y = y at *
  have ha : Zp (a - s * ((s * a + b) * i) * (1 + y)) := zp_lin2 i (-a) hr hi (by grind)
  have hb : Zp (b - (s * a + b) * i * (1 - y)) := zp_lin2 (-(s * i)) (-b) hr hi (by grind)
  refine ⟨(s * a + b) * i, fun hl => hn ⟨?_, ?_⟩, ha, hb⟩
  · exact zp_lin2 1 (s * (1 + y)) ha hl (by grind)
  · exact zp_lin2 1 (1 - y) hb hl (by grind)
theorem Rep.congr {s c : Int} {P : EP c} {a b a' b' : Int} (h : Rep s P a b) (ha : Zp (a' - a)) (hb : Zp (b' - b)) : Rep s P a' b' := by
  obtain ⟨hn, hr⟩ := h
  refine ⟨fun ⟨q1, q2⟩ => hn ⟨zp_lin2 1 (-1) q1 ha (by grind), zp_lin2 1 (-1) q2 hb (by grind)⟩, ?_⟩
  generalize P.y = y at *
  exact zp_lin3 1 (1 - y) (-(s * (1 + y))) hr ha hb (by grind)
/-- Which curve: the one of the document, or its twist. -/
def Mont (s c : Int) : Prop := (s = 1 ∧ Zp (121666 * c - 121665)) ∨ (s = -1 ∧ Zp (121665 * c - 121666))
theorem Mont.sq {s c : Int} (h : Mont s c) : s * s = 1 := by rcases h with ⟨rfl, _⟩ | ⟨rfl, _⟩ <;> decide
theorem n16 : ¬ Zp 16 := by unfold Zp; decide
theorem n121666 : ¬ Zp 121666 := by unfold Zp; decide
theorem n121665 : ¬ Zp 121665 := by unfold Zp; decide
/-- Doubling. -/
theorem Rep.double {s c : Int} (hc : NonSq c) (hm : Mont s c) {P : EP c} {a b : Int} (h : Rep s P a b) :
    Rep s (EP.add hc P P) ((a + b) * (a + b) * ((a - b) * (a - b))) (((a + b) * (a + b) - (a - b) * (a - b)) * ((a + b) * (a + b) + 121665 * ((a + b) * (a + b) - (a - b) * (a - b)))) := by
  obtain ⟨l, hl, ha, hb⟩ := h.scale hm.sq
  have sp := EP.add_y hc P P
  have dn := ed_minus hc P.on P.on
  have on := P.on
  unfold Rep
  generalize (EP.add hc P P).y = z at *
  generalize P.y = y at *
  generalize P.x = x at *
  have nl : ¬ Zp (16 * (l * l * (l * l))) := zp_ne_mul n16 (zp_ne_mul (zp_ne_mul hl hl) (zp_ne_mul hl hl))
  rcases hm with ⟨rfl, zc⟩ | ⟨rfl, zc⟩
  · have he : Zp (a + b - 2 * l) := zp_lin2 1 1 ha hb (by grind)
    have hf : Zp (a - b - 2 * l * y) := zp_lin2 1 (-1) ha hb (by grind)
    generalize a + b = e at *
    generalize a - b = f at *
    have hy : Zp (e * e - 4 * l * l) := zp_lin1 (e + 2 * l) he (by grind)
    have hz : Zp (f * f - 4 * l * l * y * y) := zp_lin1 (f + 2 * l * y) hf (by grind)
    generalize e * e = Y at *
    generalize f * f = Z at *
    have hA : Zp (Y * Z - 16 * (l * l * (l * l)) * (y * y)) := zp_lin2 Z (4 * l * l) hy hz (by grind)
    have hr : Zp (Y - Z - 4 * l * l * (1 - y * y)) := zp_lin2 1 (-1) hy hz (by grind)
    generalize Y - Z = r at *
    have hY : Zp (Y + 121665 * r - 4 * l * l * (1 + 121665 * (1 - y * y))) := zp_lin2 1 121665 hy hr (by grind)
    generalize Y + 121665 * r = V at *
    have hB : Zp (r * V - 16 * (l * l * (l * l)) * ((1 - y * y) * (1 + 121665 * (1 - y * y)))) := zp_lin2 V (4 * l * l * (1 - y * y)) hr hY (by grind)
    generalize Y * Z = A at *
    generalize r * V = B at *
    have G : Zp (y * y * ((1 - c * x * x * y * y) - (y * y - x * x)) - (1 - y * y) * (1 + 121665 * (1 - y * y)) * ((1 - c * x * x * y * y) + (y * y - x * x))) :=
      zp_lin2 (2 * 121666 * (1 - y * y) + y * y - (1 - y * y) * (1 + 121665 * (1 - y * y))) (2 * (1 - y * y) * (x * x * (y * y))) on zc (by grind)
    constructor
    · rintro ⟨q1, q2⟩
      have k1 : Zp (16 * (l * l * (l * l)) * (y * y)) := zp_lin2 1 (-1) q1 hA (by grind)
      have ky : Zp y := (zp_or (zp_cancel k1 nl)).elim id id
      have k2 : Zp (16 * (l * l * (l * l)) * 121666) := zp_lin3 1 (-1) (16 * (l * l * (l * l)) * (y * (1 + 121665 * (1 - y * y)) + y * 121665)) q2 hB ky (by grind)
      exact zp_ne_mul nl n121666 k2
    · refine zp_cancel (a := 1 - c * x * x * y * y) ?_ dn
      have g2 : Zp (16 * (l * l * (l * l)) * (y * y * ((1 - c * x * x * y * y) - (y * y - x * x)) - (1 - y * y) * (1 + 121665 * (1 - y * y)) * ((1 - c * x * x * y * y) + (y * y - x * x)))) := zp_mul _ G
      generalize 16 * (l * l * (l * l)) = L at *
      generalize c * x * x * y * y = t at *
      generalize (1 - y * y) * (1 + 121665 * (1 - y * y)) = bb at *
      generalize y * y = yy at *
      generalize x * x = xx at *
      exact zp_lin4 ((1 - t) * (1 - z)) (-((1 - t) * (1 + z))) 1 (-(L * yy) - L * bb) hA hB g2 sp (by grind)
  · have he : Zp (a + b + 2 * l * y) := zp_lin2 1 1 ha hb (by grind)
    have hf : Zp (a - b + 2 * l) := zp_lin2 1 (-1) ha hb (by grind)
    generalize a + b = e at *
    generalize a - b = f at *
    have hy : Zp (e * e - 4 * l * l * y * y) := zp_lin1 (e - 2 * l * y) he (by grind)
    have hz : Zp (f * f - 4 * l * l) := zp_lin1 (f - 2 * l) hf (by grind)
    generalize e * e = Y at *
    generalize f * f = Z at *
    have hA : Zp (Y * Z - 16 * (l * l * (l * l)) * (y * y)) := zp_lin2 Z (4 * l * l * y * y) hy hz (by grind)
    have hr : Zp (Y - Z + 4 * l * l * (1 - y * y)) := zp_lin2 1 (-1) hy hz (by grind)
    generalize Y - Z = r at *
    have hY : Zp (Y + 121665 * r - 4 * l * l * (y * y - 121665 * (1 - y * y))) := zp_lin2 1 121665 hy hr (by grind)
    generalize Y + 121665 * r = V at *
    have hB : Zp (r * V + 16 * (l * l * (l * l)) * ((1 - y * y) * (y * y - 121665 * (1 - y * y)))) := zp_lin2 V (-(4 * l * l * (1 - y * y))) hr hY (by grind)
    generalize Y * Z = A at *
    generalize r * V = B at *
    have G : Zp (y * y * ((1 - c * x * x * y * y) - (y * y - x * x)) - (1 - y * y) * (y * y - 121665 * (1 - y * y)) * ((1 - c * x * x * y * y) + (y * y - x * x))) :=
      zp_lin2 (-(2 * 121665 * (1 - y * y)) + y * y - (1 - y * y) * (y * y - 121665 * (1 - y * y))) (-(2 * (1 - y * y) * (x * x * (y * y)))) on zc (by grind)
    constructor
    · rintro ⟨q1, q2⟩
      have k1 : Zp (16 * (l * l * (l * l)) * (y * y)) := zp_lin2 1 (-1) q1 hA (by grind)
      have ky : Zp y := (zp_or (zp_cancel k1 nl)).elim id id
      have k2 : Zp (16 * (l * l * (l * l)) * 121665) := zp_lin3 1 (-1) (16 * (l * l * (l * l)) * (-(y * (y * y - 121665 * (1 - y * y))) + y + 121665 * y)) q2 hB ky (by grind)
      exact zp_ne_mul nl n121665 k2
    · refine zp_cancel (a := 1 - c * x * x * y * y) ?_ dn
      have g2 : Zp (16 * (l * l * (l * l)) * (y * y * ((1 - c * x * x * y * y) - (y * y - x * x)) - (1 - y * y) * (y * y - 121665 * (1 - y * y)) * ((1 - c * x * x * y * y) + (y * y - x * x)))) := zp_mul _ G
      generalize 16 * (l * l * (l * l)) = L at *
      generalize c * x * x * y * y = t at *
      generalize (1 - y * y) * (y * y - 121665 * (1 - y * y)) = bb at *
      generalize y * y = yy at *
      generalize x * x = xx at *
      exact zp_lin4 ((1 - t) * (1 - z)) ((1 - t) * (1 + z)) 1 (-(L * yy) - L * bb) hA hB g2 sp (by grind)
/-- The sum of two points whose difference is known. -/
theorem Rep.diff {s c : Int} (hc : NonSq c) (hs : s * s = 1) {P Q : EP c} {a b u v X y0 : Int} (hP : Rep s P a b) (hQ : Rep s Q u v)
    (hD : Zp (y0 * (1 + (c * P.x * Q.x * P.y * Q.y)) - (P.y * Q.y + P.x * Q.x))) (hX : Zp (X * (1 - y0) - s * (1 + y0))) (nX : ¬ Zp X) (n0 : ¬ Zp (1 - y0)) :
    Rep s (EP.add hc P Q) (((u - v) * (a + b) + (u + v) * (a - b)) * ((u - v) * (a + b) + (u + v) * (a - b))) (X * (((u - v) * (a + b) - (u + v) * (a - b)) * ((u - v) * (a + b) - (u + v) * (a - b)))) := by
  obtain ⟨l, hl, ha, hb⟩ := hP.scale hs
  obtain ⟨m, hm, hu, hv⟩ := hQ.scale hs
  have sp := EP.add_y hc P Q
  have dp := ed_plus hc P.on Q.on
  have dm := ed_minus hc P.on Q.on
  have o1 := P.on
  have o2 := Q.on
  unfold Rep
  generalize (EP.add hc P Q).y = z at *
  generalize P.x = x1 at *
  generalize P.y = y1 at *
  generalize Q.x = x2 at *
  generalize Q.y = y2 at *
  have G : Zp ((1 - (c * x1 * x2 * y1 * y2) + (y1 * y2 - x1 * x2)) * (1 + (c * x1 * x2 * y1 * y2) + (y1 * y2 + x1 * x2)) * ((y1 - y2) * (y1 - y2)) - (1 - (c * x1 * x2 * y1 * y2) - (y1 * y2 - x1 * x2)) * (1 + (c * x1 * x2 * y1 * y2) - (y1 * y2 + x1 * x2)) * ((y1 + y2) * (y1 + y2))) :=
    zp_lin2 (4 * y1 * y2 * x2 * x2 - 4 * c * y1 * x2 * x2 * y2 * y2 * y2) (-(4 * y2 * y1 * y1 * y1) + 4 * y1 * y2) o1 o2 (by grind)
  have hM : Zp ((u - v) * (a + b) + (u + v) * (a - b) - 4 * l * m * (y1 + y2)) := zp_lin4 (2 * u) (-(2 * v)) (2 * s * l * (1 + y1)) (-(2 * l * (1 - y1))) ha hb hu hv (by grind)
  have hN : Zp ((u - v) * (a + b) - (u + v) * (a - b) - 4 * s * l * m * (y2 - y1)) := zp_lin4 (-(2 * v)) (2 * u) (2 * l * (1 - y1)) (-(2 * s * l * (1 + y1))) ha hb hu hv (by grind)
  generalize (u - v) * (a + b) + (u + v) * (a - b) = M at *
  generalize (u - v) * (a + b) - (u + v) * (a - b) = N at *
  have hC : Zp (M * M - 16 * (l * l * (m * m)) * ((y1 + y2) * (y1 + y2))) := zp_lin1 (M + 4 * l * m * (y1 + y2)) hM (by grind)
  have hE : Zp (N * N - 16 * (l * l * (m * m)) * ((y1 - y2) * (y1 - y2))) := zp_lin1 (N + 4 * s * l * m * (y2 - y1)) hN (by grind)
  have nl : ¬ Zp (16 * (l * l * (m * m))) := zp_ne_mul n16 (zp_ne_mul (zp_ne_mul hl hl) (zp_ne_mul hm hm))
  generalize 16 * (l * l * (m * m)) = L at *
  generalize M * M = C at *
  generalize N * N = D at *
  constructor
  · rintro ⟨q1, q2⟩
    have k1 : Zp (L * ((y1 + y2) * (y1 + y2))) := zp_lin2 1 (-1) q1 hC (by grind)
    have k2 : Zp (L * ((y1 - y2) * (y1 - y2))) := zp_lin2 1 (-1) (zp_cancel q2 nX) hE (by grind)
    have s1 : Zp (y1 + y2) := (zp_or (zp_cancel k1 nl)).elim id id
    have s2 : Zp (y1 - y2) := (zp_or (zp_cancel k2 nl)).elim id id
    have z1 : Zp y1 := zp_cancel (a := 2) (zp_lin2 1 1 s1 s2 (by grind)) zp_two
    have z2 : Zp y2 := zp_cancel (a := 2) (zp_lin2 1 (-1) s1 s2 (by grind)) zp_two
    have w1 : Zp (x1 * x1 - 1) := zp_lin2 1 (-y1 + c * x1 * x1 * y1) o1 z1 (by grind)
    have w2 : Zp (x2 * x2 - 1) := zp_lin2 1 (-y2 + c * x2 * x2 * y2) o2 z2 (by grind)
    have w3 : Zp (y0 - x1 * x2) := zp_lin2 1 (-(y0 * c * x1 * x2 * y2) + y2) hD z1 (by grind)
    have w4 : Zp ((1 - y0) * (1 + y0)) := zp_lin3 (-(y0 + x1 * x2)) (-(x2 * x2)) (-1) w3 w1 w2 (by grind)
    rcases zp_or w4 with q | q
    · exact n0 q
    · exact nX (zp_cancel (a := 1 - y0) (zp_lin2 1 s hX q (by grind)) n0)
  · refine zp_cancel (a := (1 - y0) * ((1 + (c * x1 * x2 * y1 * y2)) * (1 - (c * x1 * x2 * y1 * y2)))) ?_ (zp_ne_mul n0 (zp_ne_mul dp dm))
    generalize c * x1 * x2 * y1 * y2 = t at *
    generalize y1 * y2 - x1 * x2 = Ym at *
    generalize y1 * y2 + x1 * x2 = Yp at *
    generalize (y1 + y2) * (y1 + y2) = S at *
    generalize (y1 - y2) * (y1 - y2) = R at *
    have h1 : Zp ((1 - y0) * ((1 + t) * (1 - t)) * (C * (1 - z) - s * (X * D) * (1 + z)) - (1 - y0) * ((1 + t) * (1 - t)) * (L * S * (1 - z) - s * (X * (L * R)) * (1 + z))) := zp_lin2 ((1 - y0) * ((1 + t) * (1 - t)) * (1 - z)) (-((1 - y0) * ((1 + t) * (1 - t)) * (s * X * (1 + z)))) hC hE (by grind)
    have h2 : Zp ((1 - y0) * ((1 + t) * (1 - t)) * (L * S * (1 - z) - s * (X * (L * R)) * (1 + z)) - ((1 + t) * (1 - t)) * (L * S * (1 - y0) * (1 - z) - L * R * (1 + y0) * (1 + z))) := zp_lin1 (-((1 + t) * (1 - t) * s * L * R * (1 + z))) hX (by grind)
    have h3 : Zp ((1 + t) * (1 - t) * ((1 - y0) * (1 - z)) - (1 + t - Yp) * (1 - t - Ym)) := zp_lin2 (-((1 - t) * (1 - z))) (-(1 + t - Yp)) hD sp (by grind)
    have h4 : Zp ((1 + t) * (1 - t) * ((1 + y0) * (1 + z)) - (1 + t + Yp) * (1 - t + Ym)) := zp_lin2 ((1 - t) * (1 + z)) (1 + t + Yp) hD sp (by grind)
    have h5 : Zp (((1 + t) * (1 - t)) * (L * S * (1 - y0) * (1 - z) - L * R * (1 + y0) * (1 + z))) := zp_lin3 (L * S) (-(L * R)) (-L) h3 h4 G (by grind)
    exact zp_lin3 1 1 1 h1 h2 h5 (by grind)
end Go.Proofs.YtpconccafpcpnaaDoor

namespace Go.Proofs.YtpconccafpcpnaaDoor
set_option maxRecDepth 100000

theorem stp_cong (X : Int) (a b u v : Int) : Zp ((stp X ⟨a, b, u, v⟩).a - (a + b) * (a + b) * ((a - b) * (a - b))) ∧
    Zp ((stp X ⟨a, b, u, v⟩).b - ((a + b) * (a + b) - (a - b) * (a - b)) * ((a + b) * (a + b) + 121665 * ((a + b) * (a + b) - (a - b) * (a - b)))) ∧
    Zp ((stp X ⟨a, b, u, v⟩).c - ((u - v) * (a + b) + (u + v) * (a - b)) * ((u - v) * (a + b) + (u + v) * (a - b))) ∧
    Zp ((stp X ⟨a, b, u, v⟩).d - X * (((u - v) * (a + b) - (u + v) * (a - b)) * ((u - v) * (a + b) - (u + v) * (a - b)))) := by
  simp only [stp]
  have he := zp_emod (a + b)
  have hf := zp_emod (a - b)
  have hg := zp_emod (u + v)
  have hh := zp_emod (u - v)
  generalize (a + b) % prm = e at *
  generalize (a - b) % prm = f at *
  generalize (u + v) % prm = g at *
  generalize (u - v) % prm = h at *
  generalize a + b = e0 at *
  generalize a - b = f0 at *
  generalize u + v = g0 at *
  generalize u - v = h0 at *
  have hy : Zp (e * e % prm - e0 * e0) := zp_lin2 1 (e + e0) (zp_emod (e * e)) he (by grind)
  have hz : Zp (f * f % prm - f0 * f0) := zp_lin2 1 (f + f0) (zp_emod (f * f)) hf (by grind)
  have hm : Zp (h * e % prm - h0 * e0) := zp_lin3 1 e h0 (zp_emod (h * e)) hh he (by grind)
  have hn : Zp (g * f % prm - g0 * f0) := zp_lin3 1 f g0 (zp_emod (g * f)) hg hf (by grind)
  generalize e * e % prm = y at *
  generalize f * f % prm = z at *
  generalize h * e % prm = m at *
  generalize g * f % prm = n at *
  generalize e0 * e0 = y0 at *
  generalize f0 * f0 = z0 at *
  generalize h0 * e0 = m0 at *
  generalize g0 * f0 = n0 at *
  have hr : Zp ((y - z) % prm - (y0 - z0)) := zp_lin3 1 1 (-1) (zp_emod (y - z)) hy hz (by grind)
  generalize (y - z) % prm = r at *
  generalize y0 - z0 = r0 at *
  have h1 : Zp (121665 * r % prm - 121665 * r0) := zp_lin2 1 121665 (zp_emod (121665 * r)) hr (by grind)
  generalize 121665 * r % prm = q at *
  have h2 : Zp ((y + q) % prm - (y0 + 121665 * r0)) := zp_lin3 1 1 1 (zp_emod (y + q)) hy h1 (by grind)
  generalize (y + q) % prm = w at *
  generalize y0 + 121665 * r0 = w0 at *
  have hp : Zp ((m + n) % prm - (m0 + n0)) := zp_lin3 1 1 1 (zp_emod (m + n)) hm hn (by grind)
  have hq : Zp ((m - n) % prm - (m0 - n0)) := zp_lin3 1 1 (-1) (zp_emod (m - n)) hm hn (by grind)
  generalize (m + n) % prm = p at *
  generalize (m - n) % prm = k at *
  generalize m0 + n0 = p0 at *
  generalize m0 - n0 = k0 at *
  have hk : Zp (k * k % prm - k0 * k0) := zp_lin2 1 (k + k0) (zp_emod (k * k)) hq (by grind)
  generalize k * k % prm = kk at *
  exact ⟨zp_lin3 1 z y0 (zp_emod (y * z)) hy hz (by grind), zp_lin3 1 w r0 (zp_emod (r * w)) hr h2 (by grind), zp_lin2 1 (p + p0) (zp_emod (p * p)) hp (by grind), zp_lin2 1 X (zp_emod (X * kk)) hk (by grind)⟩
theorem near {c : Int} (hc : NonSq c) {P0 : EP c} (n : Nat) : Zp (P0.y * (1 + (c * (EP.mul hc n P0).x * (EP.mul hc (n + 1) P0).x * (EP.mul hc n P0).y * (EP.mul hc (n + 1) P0).y)) - ((EP.mul hc n P0).y * (EP.mul hc (n + 1) P0).y + (EP.mul hc n P0).x * (EP.mul hc (n + 1) P0).x)) := by
  have e : EP.add hc (EP.mul hc (n + 1) P0) (EP.neg (EP.mul hc n P0)) = P0 := by rw [EP.mul]; exact EP.back hc _ _
  have h := EP.add_y hc (EP.mul hc (n + 1) P0) (EP.neg (EP.mul hc n P0))
  rw [e, EP.neg_y] at h
  have g := EP.neg_x (EP.mul hc n P0)
  generalize (EP.neg (EP.mul hc n P0)).x = q at *
  generalize (EP.mul hc n P0).x = x1 at *
  generalize (EP.mul hc n P0).y = y1 at *
  generalize (EP.mul hc (n + 1) P0).x = x2 at *
  generalize (EP.mul hc (n + 1) P0).y = y2 at *
  exact zp_lin2 1 (P0.y * c * x2 * y2 * y1 - x2) h g (by grind)
theorem step_rep {s c : Int} (hc : NonSq c) (hm : Mont s c) {P0 : EP c} {X : Int} (hX : Zp (X * (1 - P0.y) - s * (1 + P0.y))) (nX : ¬ Zp X) (n0 : ¬ Zp (1 - P0.y)) {n : Nat} {a b u v : Int} (hP : Rep s (EP.mul hc n P0) a b) (hQ : Rep s (EP.mul hc (n + 1) P0) u v) (on : Bool) :
    Rep s (EP.mul hc (2 * n + on.toNat) P0) (rnd X on ⟨a, b, u, v⟩).a (rnd X on ⟨a, b, u, v⟩).b ∧ Rep s (EP.mul hc (2 * n + on.toNat + 1) P0) (rnd X on ⟨a, b, u, v⟩).c (rnd X on ⟨a, b, u, v⟩).d := by
  have nr := near hc (P0 := P0) n
  cases on
  · obtain ⟨k1, k2, k3, k4⟩ := stp_cong X a b u v
    refine ⟨?_, ?_⟩
    · have := (hP.double hc hm).congr k1 k2
      rwa [← EP.mul_add, show n + n = 2 * n + false.toNat by simp; omega] at this
    · have := (Rep.diff hc hm.sq hP hQ nr hX nX n0).congr k3 k4
      rwa [← EP.mul_add, show n + (n + 1) = 2 * n + false.toNat + 1 by simp; omega] at this
  · obtain ⟨k1, k2, k3, k4⟩ := stp_cong X u v a b
    refine ⟨?_, ?_⟩
    · have := (Rep.diff hc hm.sq hQ hP (zp_lin1 1 nr (by grind)) hX nX n0).congr k3 k4
      rwa [← EP.mul_add, show n + 1 + n = 2 * n + true.toNat by simp; omega] at this
    · have := (hQ.double hc hm).congr k1 k2
      rwa [← EP.mul_add, show n + 1 + (n + 1) = 2 * n + true.toNat + 1 by simp; omega] at this
theorem bt_nat (N : Nat) (t : Nat) : bt (N : Int) t = decide (N / 2 ^ t % 2 = 1) := by
  unfold bt
  have e : ((N : Int) / 2 ^ t % 2 = 1) = (N / 2 ^ t % 2 = 1) := by
    apply propext
    have : ((N : Int) / 2 ^ t) = ((N / 2 ^ t : Nat) : Int) := by simp
    rw [this]
    omega
  simp only [e]
theorem lad_rep {s c : Int} (hc : NonSq c) (hm : Mont s c) {P0 : EP c} {X : Int} (hX : Zp (X * (1 - P0.y) - s * (1 + P0.y))) (nX : ¬ Zp X) (n0 : ¬ Zp (1 - P0.y)) (N : Nat) (hN : N < 2 ^ 255) : ∀ i, i ≤ 255 → Rep s (EP.mul hc (N / 2 ^ (255 - i)) P0) (lad N X i).a (lad N X i).b ∧ Rep s (EP.mul hc (N / 2 ^ (255 - i) + 1) P0) (lad N X i).c (lad N X i).d := by
  intro i
  induction i with
  | zero =>
    intro _
    have e : N / 2 ^ (255 - 0) = 0 := Nat.div_eq_of_lt hN
    rw [e]
    refine ⟨⟨fun ⟨q, _⟩ => zp_one q, ?_⟩, ?_⟩
    · show Zp (1 * (1 - 1) - s * 0 * (1 + 1))
      exact zp_lin1 0 zp_zero (by grind)
    · rw [Nat.zero_add, EP.mul_one]
      refine ⟨fun ⟨_, q⟩ => zp_one q, ?_⟩
      show Zp (X * (1 - P0.y) - s * 1 * (1 + P0.y))
      exact zp_lin1 1 hX (by grind)
  | succ i ih =>
    intro hi
    obtain ⟨r1, r2⟩ := ih (by omega)
    have hb : N / 2 ^ (255 - (i + 1)) = 2 * (N / 2 ^ (255 - i)) + (bt N (254 - i)).toNat := by
      rw [bt_nat]
      have e1 : 255 - (i + 1) = 254 - i := by omega
      have e2 : 255 - i = 254 - i + 1 := by omega
      rw [e1, e2, Nat.pow_succ, ← Nat.div_div_eq_div_mul]
      generalize N / 2 ^ (254 - i) = q
      by_cases h : q % 2 = 1
      · rw [decide_eq_true h]; simp; omega
      · rw [decide_eq_false h]; simp; omega
    rw [hb]
    exact step_rep hc hm hX nX n0 r1 r2 (bt N (254 - i))
/-- What stands for a point. -/
def Val {c : Int} (s : Int) (P : EP c) (r : Int) : Prop := (0 ≤ r ∧ r < prm) ∧ (Zp (1 - P.y) → r = 0) ∧ (¬ Zp (1 - P.y) → Zp (r * (1 - P.y) - s * (1 + P.y)))
theorem Val.inj {s c : Int} {P : EP c} {r q : Int} (h : Val s P r) (g : Val s P q) : r = q := by
  by_cases e : Zp (1 - P.y)
  · rw [h.2.1 e, g.2.1 e]
  · have h1 := h.2.2 e
    have h2 := g.2.2 e
    have : Zp (r - q) := zp_cancel (a := 1 - P.y) (zp_lin2 1 (-1) h1 h2 (by grind)) e
    have := zp_sub.1 this
    rwa [Int.emod_eq_of_lt h.1.1 h.1.2, Int.emod_eq_of_lt g.1.1 g.1.2] at this
theorem scn_val {s c : Int} (hc : NonSq c) (hm : Mont s c) {P0 : EP c} {X : Int} (hX : Zp (X * (1 - P0.y) - s * (1 + P0.y))) (nX : ¬ Zp X) (n0 : ¬ Zp (1 - P0.y)) (N : Nat) (hN : N < 2 ^ 255) : Val s (EP.mul hc N P0) (scn N X) := by
  obtain ⟨⟨hn, hr⟩, _⟩ := lad_rep hc hm hX nX n0 N hN 255 (Nat.le_refl _)
  rw [show N / 2 ^ (255 - 255) = N by simp] at hr
  refine ⟨scn_bd _ _, ?_, ?_⟩
  · intro h1
    unfold scn
    generalize (lad N X 255).a = a at *
    generalize (lad N X 255).b = b at *
    generalize (EP.mul hc N P0).y = y at *
    have hb : Zp b := zp_cancel (a := 2) (zp_lin2 (-s) (s * a + b) hr h1 (by have := hm.sq; grind)) zp_two
    have : b ^ 57896044618658097711785492504343953926634992332820282019728792003956564819947 % prm = 0 := pow_zero_c hb (by decide)
    rw [this, Int.mul_zero]
    rfl
  · intro h1
    have hs := hm.sq
    have hb : ¬ Zp (lad N X 255).b := fun hb => hn ⟨zp_cancel (a := 1 - (EP.mul hc N P0).y) (zp_lin2 1 (s * (1 + (EP.mul hc N P0).y)) hr hb (by grind)) h1, hb⟩
    have hi := iv_mul hb
    have hv : Zp (scn N X - (lad N X 255).a * iv (lad N X 255).b) := by
      unfold scn
      have h2 := zp_emod ((lad N X 255).b ^ 57896044618658097711785492504343953926634992332820282019728792003956564819947)
      change Zp (_ - iv (lad N X 255).b) at h2
      generalize (lad N X 255).b ^ 57896044618658097711785492504343953926634992332820282019728792003956564819947 % prm = j at *
      generalize iv (lad N X 255).b = i at *
      exact zp_lin2 1 (lad N X 255).a (zp_emod ((lad N X 255).a * j)) h2 (by grind)
    generalize scn N X = r at *
    generalize (lad N X 255).a = a at *
    generalize (lad N X 255).b = b at *
    generalize (EP.mul hc N P0).y = y at *
    generalize iv b = i at *
    exact zp_lin3 (1 - y) i (s * (1 + y)) hv hr hi (by grind)
/-- The number 0. -/
theorem lad_nil (S : Int) : ∀ i, Zp ((lad S 0 i).a * (lad S 0 i).b) ∧ Zp ((lad S 0 i).c * (lad S 0 i).d) := by
  intro i
  induction i with
  | zero => exact ⟨zp_lin1 0 zp_zero (by simp [lad]), zp_lin1 0 zp_zero (by simp [lad])⟩
  | succ i ih =>
    simp only [lad]
    generalize lad S 0 i = L at *
    obtain ⟨a, b, u, v⟩ := L
    simp only at ih
    cases bt S (254 - i)
    · obtain ⟨_, k2, _, k4⟩ := stp_cong 0 a b u v
      show Zp ((stp 0 ⟨a, b, u, v⟩).a * (stp 0 ⟨a, b, u, v⟩).b) ∧ Zp ((stp 0 ⟨a, b, u, v⟩).c * (stp 0 ⟨a, b, u, v⟩).d)
      generalize (stp 0 ⟨a, b, u, v⟩) = T at *
      exact ⟨zp_lin2 T.a (T.a * 4 * ((a + b) * (a + b) + 121665 * ((a + b) * (a + b) - (a - b) * (a - b)))) k2 ih.1 (by grind), zp_lin1 T.c k4 (by grind)⟩
    · obtain ⟨_, k2, _, k4⟩ := stp_cong 0 u v a b
      show Zp ((stp 0 ⟨u, v, a, b⟩).c * (stp 0 ⟨u, v, a, b⟩).d) ∧ Zp ((stp 0 ⟨u, v, a, b⟩).a * (stp 0 ⟨u, v, a, b⟩).b)
      generalize (stp 0 ⟨u, v, a, b⟩) = T at *
      exact ⟨zp_lin1 T.c k4 (by grind), zp_lin2 T.a (T.a * 4 * ((u + v) * (u + v) + 121665 * ((u + v) * (u + v) - (u - v) * (u - v)))) k2 ih.2 (by grind)⟩
theorem scn_zero (S : Int) (h : bt S 0 = false) : scn S 0 = 0 := by
  have hb : Zp (lad S 0 255).b := by
    obtain ⟨i1, _⟩ := lad_nil S 254
    show Zp (rnd 0 (bt S 0) (lad S 0 254)).b
    rw [h]
    generalize lad S 0 254 = L at *
    obtain ⟨a, b, u, v⟩ := L
    obtain ⟨_, k2, _, _⟩ := stp_cong 0 a b u v
    show Zp (stp 0 ⟨a, b, u, v⟩).b
    simp only at i1
    exact zp_lin2 1 (4 * ((a + b) * (a + b) + 121665 * ((a + b) * (a + b) - (a - b) * (a - b)))) k2 i1 (by grind)
  unfold scn
  rw [pow_zero_c hb (by decide), Int.mul_zero]
  rfl
end Go.Proofs.YtpconccafpcpnaaDoor

namespace Go.Proofs.YtpconccafpcpnaaDoor
set_option maxRecDepth 100000

def sA : Int := 9094040566125962849133224048217411091405536248825867518642941381412595940312
def ec1 : Int := 20800338683988658368647408995589388737092878452977063003340006470870624536394
def ec2 : Int := 28692721048178265397853269683490922171210976843790175684556505508326675974058
theorem sA_sq : Zp (sA * sA - 486664) := by unfold Zp; decide +kernel
theorem sA_ne : ¬ Zp sA := by unfold Zp; decide +kernel
theorem ec1_eq : Zp (121666 * ec1 - 121665) := by unfold Zp; decide +kernel
theorem ec2_eq : Zp (121665 * ec2 - 121666) := by unfold Zp; decide +kernel
theorem half_486660 : (486660 : Int) ^ 28948022309329048855892746252171976963317496166410141009864396001978282409974 % prm = -1 % prm := by
  rw [pow_nat (m := 486660) (by decide)]
  have : pwf 256 57896044618658097711785492504343953926634992332820282019728792003956564819949 486660 28948022309329048855892746252171976963317496166410141009864396001978282409974 = 57896044618658097711785492504343953926634992332820282019728792003956564819948 := by decide +kernel
  rw [pwf_eq _ _ _ _ (by decide)] at this
  rw [this]; decide
theorem rok_486660 : rok 486660 = false := by
  cases h : rok 486660
  · rfl
  · rcases (rok_half 486660).1 h with q | q
    · exact absurd q (by decide)
    · rw [half_486660] at q; exact absurd q (by decide)
theorem nonsq_of {c : Int} (h : rok c = false) : NonSq c := fun r hr => by
  have e : rok (r * r) = rok c := rok_c (zp_sub.1 hr)
  rw [rok_sq, h] at e
  cases e
theorem nsq_A : NonSq 486660 := nonsq_of rok_486660
theorem nsq_1 : NonSq ec1 := fun r hr => by
  have h1 := sA_sq
  have h2 := ec1_eq
  generalize sA = q at *
  generalize ec1 = c at *
  exact nsq_A (r * q) (zp_lin3 (q * q) c 4 hr h1 h2 (by grind))
theorem nsq_2 : NonSq ec2 := fun r hr => by
  have h1 := sA_sq
  have h2 := ec2_eq
  have nc : ¬ Zp ec2 := by unfold Zp; decide +kernel
  generalize sA = q at *
  generalize ec2 = c at *
  have nr : ¬ Zp r := fun z => nc (zp_lin2 r (-1) z hr (by grind))
  have hi := iv_mul nr
  generalize iv r = i at *
  exact nsq_A (q * i) (zp_lin4 (i * i) (-(4 * (i * i))) (-(486660 * (i * i))) (486660 * (r * i + 1)) h1 h2 hr hi (by grind))
def fX (X : Int) : Int := X * (X * X + 486662 * X + 1)
theorem fX_ne {X : Int} (nX : ¬ Zp X) : ¬ Zp (fX X) := by
  intro h
  have q := zp_cancel (show Zp (X * (X * X + 486662 * X + 1)) from h) nX
  have h1 := sA_sq
  have n := sA_ne
  generalize sA = r at *
  exact n (nsq_A.of_ratio (u := 2 * X + 486662) (zp_lin2 4 (-486660) q h1 (by grind)))
theorem pt_of {X : Int} (nX : ¬ Zp X) : ∃ s c, ∃ _hc : NonSq c, Mont s c ∧ ∃ P0 : EP c, Zp (X * (1 - P0.y) - s * (1 + P0.y)) ∧ ¬ Zp (1 - P0.y) := by
  have nf := fX_ne nX
  have ef : fX X = X * (X * X + 486662 * X + 1) := rfl
  cases hr : rok (fX X)
  · -- the twist
    have hw := (rok_iff _).1 (rok_mul rok_486660 hr)
    replace hw := zp_sub.2 hw
    generalize rt (486660 * fX X) = w at *
    have n6 : ¬ Zp 486660 := by unfold Zp; decide
    have nw : ¬ Zp w := fun z => zp_ne_mul n6 nf (zp_lin2 w (-1) z hw (by grind))
    have n1 : ¬ Zp (X - 1) := fun z => by
      have h1 := sA_sq
      have e : Zp (fX X - sA * sA) := by
        rw [ef]
        generalize sA = q at *
        exact zp_lin2 (X * X + 486663 * X + 486664) (-1) z h1 (by grind)
      have := rok_c (zp_sub.1 e)
      rw [hr, rok_sq] at this
      cases this
    have hy := quot_spec (X := X + 1) n1
    have hx := quot_spec (X := 486660 * X) nw
    have zc := ec2_eq
    rw [ef] at hw
    have on : Zp (((486660 * X) * iv w) % prm * (((486660 * X) * iv w) % prm) + ((X + 1) * iv (X - 1)) % prm * (((X + 1) * iv (X - 1)) % prm) - 1 - ec2 * (((486660 * X) * iv w) % prm) * (((486660 * X) * iv w) % prm) * (((X + 1) * iv (X - 1)) % prm) * (((X + 1) * iv (X - 1)) % prm)) := by
      generalize ((486660 * X) * iv w) % prm = x at *
      generalize ((X + 1) * iv (X - 1)) % prm = y at *
      generalize ec2 = c at *
      refine zp_cancel (a := w * w * ((X - 1) * (X - 1))) ?_ (zp_ne_mul (zp_ne_mul nw nw) (zp_ne_mul n1 n1))
      have p2 : Zp ((x * w) * (x * w) - 486660 * 486660 * (X * X)) := zp_lin1 (x * w + 486660 * X) hx (by grind)
      have q2 : Zp ((y * (X - 1)) * (y * (X - 1)) - (X + 1) * (X + 1)) := zp_lin1 (y * (X - 1) + (X + 1)) hy (by grind)
      exact zp_lin4 ((X - 1) * (X - 1) - c * ((y * (X - 1)) * (y * (X - 1)))) (w * w - c * (486660 * 486660 * (X * X))) ((X + 1) * (X + 1) - (X - 1) * (X - 1)) (-(486660 * 4 * (X * X * ((X + 1) * (X + 1))))) p2 q2 hw zc (by grind)
    refine ⟨-1, ec2, nsq_2, Or.inr ⟨rfl, ec2_eq⟩, ⟨_, _, Int.emod_emod _ _, Int.emod_emod _ _, on⟩, ?_, ?_⟩
    · show Zp (X * (1 - ((X + 1) * iv (X - 1)) % prm) - -1 * (1 + ((X + 1) * iv (X - 1)) % prm))
      generalize ((X + 1) * iv (X - 1)) % prm = y at *
      exact zp_lin1 (-1) hy (by grind)
    · show ¬ Zp (1 - ((X + 1) * iv (X - 1)) % prm)
      generalize ((X + 1) * iv (X - 1)) % prm = y at *
      exact fun z => zp_two (zp_lin2 (-(X - 1)) (-1) z hy (by grind))
  · -- the curve
    have hv := zp_sub.2 ((rok_iff _).1 hr)
    generalize rt (fX X) = v at *
    have nv : ¬ Zp v := fun z => nf (zp_lin2 v (-1) z hv (by grind))
    rw [ef] at hv
    have n1 : ¬ Zp (X + 1) := fun z => nsq_A v (zp_lin2 1 (X * X + 486661 * X - 486660) hv z (by grind))
    have hy := quot_spec (X := X - 1) n1
    have hx := quot_spec (X := sA * X) nv
    have zc := ec1_eq
    have h1 := sA_sq
    have on : Zp (((sA * X) * iv v) % prm * (((sA * X) * iv v) % prm) + ((X - 1) * iv (X + 1)) % prm * (((X - 1) * iv (X + 1)) % prm) - 1 - ec1 * (((sA * X) * iv v) % prm) * (((sA * X) * iv v) % prm) * (((X - 1) * iv (X + 1)) % prm) * (((X - 1) * iv (X + 1)) % prm)) := by
      generalize ((sA * X) * iv v) % prm = x at *
      generalize ((X - 1) * iv (X + 1)) % prm = y at *
      generalize ec1 = c at *
      generalize sA = q at *
      refine zp_cancel (a := v * v * ((X + 1) * (X + 1))) ?_ (zp_ne_mul (zp_ne_mul nv nv) (zp_ne_mul n1 n1))
      have p2 : Zp ((x * v) * (x * v) - 486664 * (X * X)) := zp_lin2 (x * v + q * X) (X * X) hx h1 (by grind)
      have q2 : Zp ((y * (X + 1)) * (y * (X + 1)) - (X - 1) * (X - 1)) := zp_lin1 (y * (X + 1) + (X - 1)) hy (by grind)
      exact zp_lin4 ((X + 1) * (X + 1) - c * ((y * (X + 1)) * (y * (X + 1)))) (v * v - c * (486664 * (X * X))) ((X - 1) * (X - 1) - (X + 1) * (X + 1)) (-(4 * (X * X * ((X - 1) * (X - 1))))) p2 q2 hv zc (by grind)
    refine ⟨1, ec1, nsq_1, Or.inl ⟨rfl, ec1_eq⟩, ⟨_, _, Int.emod_emod _ _, Int.emod_emod _ _, on⟩, ?_, ?_⟩
    · show Zp (X * (1 - ((X - 1) * iv (X + 1)) % prm) - 1 * (1 + ((X - 1) * iv (X + 1)) % prm))
      generalize ((X - 1) * iv (X + 1)) % prm = y at *
      exact zp_lin1 (-1) hy (by grind)
    · show ¬ Zp (1 - ((X - 1) * iv (X + 1)) % prm)
      generalize ((X - 1) * iv (X + 1)) % prm = y at *
      exact fun z => zp_two (zp_lin2 (X + 1) 1 z hy (by grind))
theorem val_zero {s c : Int} : Val s (EP.zero : EP c) 0 := ⟨by decide, fun _ => rfl, fun h => absurd (zp_lin1 0 zp_zero (by simp [EP.zero])) h⟩
theorem one_ne {c : Int} (hc : NonSq c) : ¬ Zp (1 - c) := fun h => hc 1 (zp_lin1 1 h (by grind))
theorem even_bt {N : Nat} (h : N % 2 = 0) : bt N 0 = false := by
  rw [bt_nat]
  simp
  omega
/-- A scalar on what stands for a point. -/
theorem val_next {s c : Int} (hc : NonSq c) (hm : Mont s c) {Q : EP c} {v : Int} (hv : Val s Q v) (N : Nat) (hN : N < 2 ^ 255) (hev : N % 2 = 0) : Val s (EP.mul hc N Q) (scn N v) := by
  by_cases h1 : Zp (1 - Q.y)
  · obtain rfl := hv.2.1 h1
    have hx : Zp (Q.x) := by
      have o := Q.on
      have h2 : Zp ((1 - c) * (Q.x * Q.x)) := zp_lin2 1 ((1 + Q.y) * (1 - c * (Q.x * Q.x))) o h1 (by grind)
      exact (zp_or (zp_cancel h2 (one_ne hc))).elim id id
    have e : Q = EP.zero := EP.eq (zp_lin1 1 hx (by simp [EP.zero])) (zp_lin1 (-1) h1 (by simp only [EP.zero]; grind))
    rw [e, EP.mul_zero_pt, scn_zero _ (even_bt hev)]
    exact val_zero
  · by_cases hz : Zp v
    · obtain rfl : v = 0 := by
        have := hz
        unfold Zp at this
        rwa [Int.emod_eq_of_lt hv.1.1 hv.1.2] at this
      have hs := hm.sq
      have h2 : Zp (1 + Q.y) := zp_lin1 (-s) (hv.2.2 h1) (by grind)
      have o := Q.on
      have hx : Zp (Q.x) := by
        have h3 : Zp ((1 - c) * (Q.x * Q.x)) := zp_lin2 1 ((1 - Q.y) * (1 - c * (Q.x * Q.x))) o h2 (by grind)
        exact (zp_or (zp_cancel h3 (one_ne hc))).elim id id
      have e2 : EP.mul hc 2 Q = EP.zero := by
        rw [show 2 = 1 + 1 from rfl, EP.mul_add, EP.mul_one]
        refine EP.add_is hc ?_ ?_
        · simp only [EP.zero]
          exact zp_lin1 (-(2 * Q.y)) hx (by grind)
        · simp only [EP.zero]
          exact zp_lin2 (-(c * Q.x * Q.y * Q.y) + Q.x) (1 - Q.y) hx h2 (by grind)
      have e3 : EP.mul hc N Q = EP.zero := by
        have : N = N / 2 * 2 := by omega
        rw [this, ← EP.mul_mul, e2, EP.mul_zero_pt]
      rw [e3, scn_zero _ (even_bt hev)]
      exact val_zero
    · exact scn_val hc hm (hv.2.2 h1) hz h1 N hN
theorem scn_turn {A B : Nat} (hA : A < 2 ^ 255) (eA : A % 2 = 0) (hB : B < 2 ^ 255) (eB : B % 2 = 0) {x : Int} (hx : 0 ≤ x ∧ x < prm) : scn A (scn B x) = scn B (scn A x) := by
  by_cases hz : Zp x
  · obtain rfl : x = 0 := by
      have := hz
      unfold Zp at this
      rwa [Int.emod_eq_of_lt hx.1 hx.2] at this
    rw [scn_zero _ (even_bt eA), scn_zero _ (even_bt eB), scn_zero _ (even_bt eA)]
  · obtain ⟨s, c, hc, hm, P0, hX, n0⟩ := pt_of hz
    have v0 : Val s P0 x := ⟨hx, fun h => absurd h n0, fun _ => hX⟩
    have v1 := val_next hc hm (val_next hc hm v0 B hB eB) A hA eA
    have v2 := val_next hc hm (val_next hc hm v0 A hA eA) B hB eB
    rw [EP.mul_mul] at v1 v2
    rw [Nat.mul_comm] at v2
    exact v1.inj v2
theorem clp_nat (K : Int) : ∃ N : Nat, clp K = (N : Int) ∧ N < 2 ^ 255 ∧ N % 2 = 0 := by
  obtain ⟨h0, h1⟩ := clp_bd K
  have h2 : clp K % 2 = 0 := by unfold clp; omega
  refine ⟨(clp K).toNat, by omega, ?_, by omega⟩
  have : (2 : Nat) ^ 255 = 57896044618658097711785492504343953926634992332820282019728792003956564819968 := by decide
  omega
theorem num_of {Y : Int} (h : 0 ≤ Y ∧ Y < prm) : num Y = Y := by
  unfold num
  rw [Int.emod_eq_of_lt h.1 (Int.lt_trans h.2 (by decide)), Int.emod_eq_of_lt h.1 h.2]
theorem scl_turn (a b u : Int) : scl a (scl b u) = scl b (scl a u) := by
  obtain ⟨A, eA, hA, vA⟩ := clp_nat a
  obtain ⟨B, eB, hB, vB⟩ := clp_nat b
  unfold scl
  rw [eA, eB, num_of (scn_bd _ _), num_of (scn_bd _ _)]
  exact scn_turn hA vA hB vB ⟨Int.emod_nonneg _ (by decide), Int.emod_lt_of_pos _ (by decide)⟩
end Go.Proofs.YtpconccafpcpnaaDoor

namespace Go.Proofs.YtpconccafpcpnaaDoor
set_option maxRecDepth 100000

theorem q1224481 : Pr 1224481 := trial 1224481 1105 (by decide) (by decide +kernel) (by decide)
theorem q531581 : Pr 531581 := trial 531581 728 (by decide) (by decide +kernel) (by decide)
theorem q1257559732178653 : Pr 1257559732178653 := pock2 1257559732178653 1224481 531581 1027014492 2365697292 2 2 q1224481 q531581 (by decide +kernel) (by decide +kernel) (by decide +kernel) (by decide +kernel) (by decide +kernel) (by decide +kernel) (by decide +kernel) (by decide +kernel) (by decide +kernel) (by decide +kernel)
theorem q2 : Pr 2 := trial 2 0 (by decide) (by decide +kernel) (by decide)
theorem q4434155615661930479 : Pr 4434155615661930479 := pock2 4434155615661930479 1257559732178653 2 3526 2217077807830965239 2 17 q1257559732178653 q2 (by decide +kernel) (by decide +kernel) (by decide +kernel) (by decide +kernel) (by decide +kernel) (by decide +kernel) (by decide +kernel) (by decide +kernel) (by decide +kernel) (by decide +kernel)
theorem q172054593956031949258510691 : Pr 172054593956031949258510691 := pock2 172054593956031949258510691 4434155615661930479 2 38802110 86027296978015974629255345 2 2 q4434155615661930479 q2 (by decide +kernel) (by decide +kernel) (by decide +kernel) (by decide +kernel) (by decide +kernel) (by decide +kernel) (by decide +kernel) (by decide +kernel) (by decide +kernel) (by decide +kernel)
theorem q19757330305831588566944191468367130476339 : Pr 19757330305831588566944191468367130476339 := pock2 19757330305831588566944191468367130476339 172054593956031949258510691 2 114831751082918 9878665152915794283472095734183565238169 2 2 q172054593956031949258510691 q2 (by decide +kernel) (by decide +kernel) (by decide +kernel) (by decide +kernel) (by decide +kernel) (by decide +kernel) (by decide +kernel) (by decide +kernel) (by decide +kernel) (by decide +kernel)
theorem q276602624281642239937218680557139826668747 : Pr 276602624281642239937218680557139826668747 := pock2 276602624281642239937218680557139826668747 19757330305831588566944191468367130476339 2 14 138301312140821119968609340278569913334373 2 2 q19757330305831588566944191468367130476339 q2 (by decide +kernel) (by decide +kernel) (by decide +kernel) (by decide +kernel) (by decide +kernel) (by decide +kernel) (by decide +kernel) (by decide +kernel) (by decide +kernel) (by decide +kernel)
theorem q7237005577332262213973186563042994240857116359379907606001950938285454250989 : Pr 7237005577332262213973186563042994240857116359379907606001950938285454250989 := pock2 7237005577332262213973186563042994240857116359379907606001950938285454250989 276602624281642239937218680557139826668747 2 26163907866482859529727157400808004 3618502788666131106986593281521497120428558179689953803000975469142727125494 2 2 q276602624281642239937218680557139826668747 q2 (by decide +kernel) (by decide +kernel) (by decide +kernel) (by decide +kernel) (by decide +kernel) (by decide +kernel) (by decide +kernel) (by decide +kernel) (by decide +kernel) (by decide +kernel)

section
variable {c : Int} (hc : NonSq c)
theorem EP.mul_mod {P : EP c} {m n : Nat} (hm : EP.mul hc m P = EP.zero) (hn : EP.mul hc n P = EP.zero) : EP.mul hc (n % m) P = EP.zero := by
  have e : n = n / m * m + n % m := by rw [Nat.mul_comm]; exact (Nat.div_add_mod n m).symm
  rw [e, EP.mul_add, ← EP.mul_mul, hm, EP.mul_zero_pt, EP.add_comm, EP.add_zero] at hn
  exact hn
theorem EP.mul_gcd {P : EP c} : ∀ m n : Nat, EP.mul hc m P = EP.zero → EP.mul hc n P = EP.zero → EP.mul hc (Nat.gcd m n) P = EP.zero := by
  intro m n
  induction m, n using Nat.gcd.induction with
  | H0 n => intro _ h; simpa using h
  | H1 m n hm ih =>
    intro h1 h2
    rw [Nat.gcd_rec]
    exact ih (EP.mul_mod hc h1 h2) h1
end
def ell : Nat := 7237005577332262213973186563042994240857116359379907606001950938285454250989
theorem ell_prime : Pr ell := q7237005577332262213973186563042994240857116359379907606001950938285454250989
theorem ell_lad : Zp (lad ell 9 255).b := by unfold Zp; decide +kernel
/-- The point 9, times ell, is gone. -/
theorem ell_kills {s c : Int} (hc : NonSq c) (hm : Mont s c) {P0 : EP c} (hX : Zp (9 * (1 - P0.y) - s * (1 + P0.y))) (n0 : ¬ Zp (1 - P0.y)) : EP.mul hc ell P0 = EP.zero := by
  have n9 : ¬ Zp 9 := by unfold Zp; decide
  obtain ⟨⟨hn, hr⟩, _⟩ := lad_rep hc hm hX n9 n0 ell (by decide +kernel) 255 (Nat.le_refl _)
  rw [show ell / 2 ^ (255 - 255) = ell by simp] at hr
  have hb := ell_lad
  have on := (EP.mul hc ell P0).on
  have na : ¬ Zp (lad ell 9 255).a := fun h => hn ⟨h, hb⟩
  have h1 : Zp (1 - (EP.mul hc ell P0).y) := zp_cancel (zp_lin2 1 (s * (1 + (EP.mul hc ell P0).y)) hr hb (by grind)) na
  have hx : Zp (EP.mul hc ell P0).x := by
    generalize (EP.mul hc ell P0).x = x at *
    generalize (EP.mul hc ell P0).y = y at *
    have h2 : Zp ((1 - c) * (x * x)) := zp_lin2 1 ((1 + y) * (1 - c * (x * x))) on h1 (by grind)
    exact (zp_or (zp_cancel h2 (one_ne hc))).elim id id
  exact EP.eq (zp_lin1 1 hx (by simp [EP.zero])) (zp_lin1 (-1) h1 (by simp only [EP.zero]; grind))
theorem zero_of_val {s c : Int} (hc : NonSq c) (hs : s * s = 1) {Q : EP c} (h : Val s Q 0) : EP.mul hc 2 Q = EP.zero := by
  have o := Q.on
  have hx : Zp Q.x ∧ Zp ((1 - Q.y) * (1 + Q.y)) := by
    by_cases h1 : Zp (1 - Q.y)
    · have h2 : Zp ((1 - c) * (Q.x * Q.x)) := zp_lin2 1 ((1 + Q.y) * (1 - c * (Q.x * Q.x))) o h1 (by grind)
      exact ⟨(zp_or (zp_cancel h2 (one_ne hc))).elim id id, zp_lin1 (1 + Q.y) h1 (by grind)⟩
    · have h2 : Zp (1 + Q.y) := zp_lin1 (-s) (h.2.2 h1) (by grind)
      have h3 : Zp ((1 - c) * (Q.x * Q.x)) := zp_lin2 1 ((1 - Q.y) * (1 - c * (Q.x * Q.x))) o h2 (by grind)
      exact ⟨(zp_or (zp_cancel h3 (one_ne hc))).elim id id, zp_lin1 (1 - Q.y) h2 (by grind)⟩
  rw [show 2 = 1 + 1 from rfl, EP.mul_add, EP.mul_one]
  refine EP.add_is hc ?_ ?_
  · simp only [EP.zero]
    exact zp_lin1 (-(2 * Q.y)) hx.1 (by grind)
  · simp only [EP.zero]
    exact zp_lin2 (-(c * Q.x * Q.y * Q.y) + Q.x) 1 hx.1 hx.2 (by grind)
theorem not_dvd_of_lt {a : Nat} (h0 : 0 < a) (h : a < ell) : ¬ ell ∣ a := fun hd => by have := Nat.le_of_dvd h0 hd; omega
/-- No secret of two is 0. -/
theorem scl_secret (a b : Int) : scl a (scl b 9) ≠ 0 := by
  intro h
  have e8 : ∀ K, ∃ k : Nat, clp K = ((8 * k : Nat) : Int) ∧ 0 < k ∧ k < ell ∧ 8 * k < 2 ^ 255 := fun K => by
    obtain ⟨h0, h1⟩ := clp_bd K
    have h2 : clp K % 8 = 0 := by unfold clp; omega
    have h3 : 28948022309329048855892746252171976963317496166410141009864396001978282409984 ≤ clp K := by unfold clp; omega
    have e : (2 : Nat) ^ 255 = 57896044618658097711785492504343953926634992332820282019728792003956564819968 := by decide
    refine ⟨(clp K).toNat / 8, by omega, by omega, ?_, by omega⟩
    unfold ell
    omega
  obtain ⟨A, eA, a0, a1, a2⟩ := e8 a
  obtain ⟨B, eB, b0, b1, b2⟩ := e8 b
  have n9 : ¬ Zp 9 := by unfold Zp; decide
  obtain ⟨s, c, hc, hm, P0, hX, n0⟩ := pt_of n9
  have v0 : Val s P0 9 := ⟨by decide, fun h => absurd h n0, fun _ => hX⟩
  have v1 := val_next hc hm (val_next hc hm v0 (8 * B) b2 (by omega)) (8 * A) a2 (by omega)
  unfold scl at h
  rw [eA, eB, num_of (scn_bd _ _), show num 9 = 9 from num_of (by decide)] at h
  rw [h, EP.mul_mul] at v1
  have z1 := zero_of_val hc hm.sq v1
  rw [EP.mul_mul] at z1
  have z2 := EP.mul_gcd hc _ _ (ell_kills hc hm hX n0) z1
  have hp := ell_prime
  have nd : ¬ ell ∣ 2 * (8 * A * (8 * B)) := by
    intro hd
    have e : 2 * (8 * A * (8 * B)) = 128 * (A * B) := by grind
    rw [e] at hd
    rcases hp.euclid hd with q | q
    · exact not_dvd_of_lt (by decide) (by decide +kernel) q
    · rcases hp.euclid q with q | q
      · exact not_dvd_of_lt a0 a1 q
      · exact not_dvd_of_lt b0 b1 q
  have hg : Nat.gcd ell (2 * (8 * A * (8 * B))) = 1 := by
    rcases hp.2 _ (Nat.gcd_dvd_left ell (2 * (8 * A * (8 * B)))) with q | q
    · exact q
    · exact absurd (q ▸ Nat.gcd_dvd_right ell (2 * (8 * A * (8 * B)))) nd
  rw [hg, EP.mul_one] at z2
  exact n0 (z2 ▸ zp_lin1 0 zp_zero (by simp [EP.zero]))
end Go.Proofs.YtpconccafpcpnaaDoor

namespace Go.Proofs.YtpconccafpcpnaaDoor
set_option maxRecDepth 100000

theorem t3911 : Pr 3911 := trial 3911 61 (by decide) (by decide +kernel) (by decide)
theorem t383 : Pr 383 := trial 383 18 (by decide) (by decide +kernel) (by decide)
theorem t1013266244677 : Pr 1013266244677 := pock2 1013266244677 3911 383 259081116 2645603772 2 2 t3911 t383 (by decide +kernel) (by decide +kernel) (by decide +kernel) (by decide +kernel) (by decide +kernel) (by decide +kernel) (by decide +kernel) (by decide +kernel) (by decide +kernel) (by decide +kernel)
theorem t11351 : Pr 11351 := trial 11351 105 (by decide) (by decide +kernel) (by decide)
theorem t3 : Pr 3 := trial 3 0 (by decide) (by decide +kernel) (by decide)
theorem t743104567 : Pr 743104567 := pock2 743104567 11351 3 65466 247701522 2 2 t11351 t3 (by decide +kernel) (by decide +kernel) (by decide +kernel) (by decide +kernel) (by decide +kernel) (by decide +kernel) (by decide +kernel) (by decide +kernel) (by decide +kernel) (by decide +kernel)
theorem t203852586375664218368381551393371968928013 : Pr 203852586375664218368381551393371968928013 := pock2 203852586375664218368381551393371968928013 1013266244677 743104567 201183635048107748313396499356 274325573315530731179561639530836 2 2 t1013266244677 t743104567 (by decide +kernel) (by decide +kernel) (by decide +kernel) (by decide +kernel) (by decide +kernel) (by decide +kernel) (by decide +kernel) (by decide +kernel) (by decide +kernel) (by decide +kernel)
theorem t104719073621178708975837602950775180438320278101 : Pr 104719073621178708975837602950775180438320278101 := pock2 104719073621178708975837602950775180438320278101 203852586375664218368381551393371968928013 2 513700 52359536810589354487918801475387590219160139050 2 2 t203852586375664218368381551393371968928013 q2 (by decide +kernel) (by decide +kernel) (by decide +kernel) (by decide +kernel) (by decide +kernel) (by decide +kernel) (by decide +kernel) (by decide +kernel) (by decide +kernel) (by decide +kernel)
theorem t27413359092552162435694767700453926735143482401279781 : Pr 27413359092552162435694767700453926735143482401279781 := pock2 27413359092552162435694767700453926735143482401279781 104719073621178708975837602950775180438320278101 2 261780 13706679546276081217847383850226963367571741200639890 2 2 t104719073621178708975837602950775180438320278101 q2 (by decide +kernel) (by decide +kernel) (by decide +kernel) (by decide +kernel) (by decide +kernel) (by decide +kernel) (by decide +kernel) (by decide +kernel) (by decide +kernel) (by decide +kernel)
theorem t14474011154664524427946373126085988481603263447650325797860494125407373907997 : Pr 14474011154664524427946373126085988481603263447650325797860494125407373907997 := pock2 14474011154664524427946373126085988481603263447650325797860494125407373907997 27413359092552162435694767700453926735143482401279781 2 527991155910437724961516 7237005577332262213973186563042994240801631723825162898930247062703686953998 2 2 t27413359092552162435694767700453926735143482401279781 q2 (by decide +kernel) (by decide +kernel) (by decide +kernel) (by decide +kernel) (by decide +kernel) (by decide +kernel) (by decide +kernel) (by decide +kernel) (by decide +kernel) (by decide +kernel)

theorem side {s c : Int} (hm : Mont s c) {Q : EP c} {r : Int} (hv : Val s Q r) (nr : ¬ Zp r) : (s = 1 → rok (fX r) = true) ∧ (s = -1 → rok (fX r) = false) := by
  have n1 : ¬ Zp (1 - Q.y) := fun h => nr (by rw [hv.2.1 h]; exact zp_zero)
  have hr := hv.2.2 n1
  have on := Q.on
  have hs := hm.sq
  have n2 : ¬ Zp (1 + Q.y) := fun h => nr (zp_cancel (a := 1 - Q.y) (zp_lin2 1 s hr h (by grind)) n1)
  have nx : ¬ Zp Q.x := fun h => zp_ne_mul n1 n2 (zp_lin2 (-1) (Q.x - c * Q.x * Q.y * Q.y) on h (by grind))
  have hi := iv_mul nx
  have h1 := sA_sq
  generalize iv Q.x = i at *
  generalize Q.x = x at *
  generalize Q.y = y at *
  generalize sA = q at *
  have ef : fX r = r * (r * r + 486662 * r + 1) := rfl
  rcases hm with ⟨rfl, zc⟩ | ⟨rfl, zc⟩
  · refine ⟨fun _ => ?_, fun h => absurd h (by decide)⟩
    have hu : Zp (r * (1 - y) - (1 + y)) := zp_lin1 1 hr (by grind)
    have HH : Zp (x * x * (r * r + 486662 * r + 1) - 486664 * r) := zp_cancel (a := (1 - y) * (1 - y))
      (zp_lin3 (x * x * (r * (1 - y) + (1 + y) + 486662 * (1 - y)) - 486664 * (1 - y)) 486664 (4 * (x * x * (y * y))) hu on zc (by grind)) (zp_ne_mul n1 n1)
    have e : Zp (fX r - (q * r * i) * (q * r * i)) := by
      rw [ef]
      exact zp_lin3 (r * i * i) (-(r * r * i * i)) (-(r * (r * r + 486662 * r + 1) * (x * i + 1))) HH h1 hi (by grind)
    rw [rok_c (zp_sub.1 e), rok_sq]
  · refine ⟨fun h => absurd h (by decide), fun _ => ?_⟩
    have hu : Zp (r * (1 - y) + (1 + y)) := zp_lin1 1 hr (by grind)
    have HH : Zp (x * x * (r * r + 486662 * r + 1) - 486660 * r) := zp_cancel (a := (1 - y) * (1 - y))
      (zp_lin3 (x * x * (r * (1 - y) - (1 + y) + 486662 * (1 - y)) - 486660 * (1 - y)) (-486660) (-(4 * (x * x * (y * y)))) hu on zc (by grind)) (zp_ne_mul n1 n1)
    cases h : rok (fX r)
    · rfl
    · exfalso
      have hw := zp_sub.2 ((rok_iff _).1 h)
      generalize rt (fX r) = v at *
      rw [ef] at hw
      exact nr (nsq_A.of_ratio (u := v * x) (zp_lin2 (x * x) r hw HH (by grind)))
theorem val_ne {s c : Int} {Q : EP c} {r : Int} (hv : Val s Q r) (h : r ≠ 0) : ¬ Zp r := fun z => h (by
  unfold Zp at z
  rwa [Int.emod_eq_of_lt hv.1.1 hv.1.2] at z)
/-- What Scale gives lies where the number did. -/
theorem side_stays {N : Nat} (hN : N < 2 ^ 255) (eN : N % 2 = 0) {x : Int} (hx : 0 ≤ x ∧ x < prm) (h : scn N x ≠ 0) : rok (fX (scn N x)) = rok (fX x) := by
  have nz : ¬ Zp x := fun z => by
    have : x = 0 := by
      unfold Zp at z
      rwa [Int.emod_eq_of_lt hx.1 hx.2] at z
    rw [this, scn_zero _ (even_bt eN)] at h
    exact h rfl
  obtain ⟨s, c, hc, hm, P0, hX, n0⟩ := pt_of nz
  have v0 : Val s P0 x := ⟨hx, fun h => absurd h n0, fun _ => hX⟩
  have v1 := val_next hc hm v0 N hN eN
  have a0 := side hm v0 nz
  have a1 := side hm v1 (val_ne v1 h)
  rcases hm with ⟨rfl, _⟩ | ⟨rfl, _⟩
  · rw [a0.1 rfl, a1.1 rfl]
  · rw [a0.2 rfl, a1.2 rfl]
theorem rok_nine : rok (fX 9) = true := by
  have e : Zp (fX 9 - 14781619447589544791020593568409986887264606134616475288964881837755586237401 * 14781619447589544791020593568409986887264606134616475288964881837755586237401) := by unfold Zp; decide +kernel
  rw [rok_c (zp_sub.1 e), rok_sq]
theorem half_f2 : (fX 2) ^ 28948022309329048855892746252171976963317496166410141009864396001978282409974 % prm = -1 % prm := by
  rw [pow_nat (m := 1946658) (by decide)]
  have : pwf 256 57896044618658097711785492504343953926634992332820282019728792003956564819949 1946658 28948022309329048855892746252171976963317496166410141009864396001978282409974 = 57896044618658097711785492504343953926634992332820282019728792003956564819948 := by decide +kernel
  rw [pwf_eq _ _ _ _ (by decide)] at this
  rw [this]; decide
theorem rok_f2 : rok (fX 2) = false := by
  cases h : rok (fX 2)
  · rfl
  · rcases (rok_half (fX 2)).1 h with q | q
    · exact absurd q (by decide)
    · rw [half_f2] at q; exact absurd q (by decide)
def ell2 : Nat := 14474011154664524427946373126085988481603263447650325797860494125407373907997
theorem ell2_prime : Pr ell2 := t14474011154664524427946373126085988481603263447650325797860494125407373907997
theorem ell2_lad : Zp (lad ((4 * ell2 : Nat) : Int) 2 255).b := by unfold Zp; decide +kernel
theorem four_lad : ¬ Zp (lad ((4 : Nat) : Int) 2 255).b := by unfold Zp; decide +kernel
/-- The ladder's last number below is 0 just at the point at infinity. -/
theorem gone_iff {s c : Int} (hc : NonSq c) (hm : Mont s c) {P0 : EP c} {X : Int} (hX : Zp (X * (1 - P0.y) - s * (1 + P0.y))) (nX : ¬ Zp X) (n0 : ¬ Zp (1 - P0.y)) (N : Nat) (hN : N < 2 ^ 255) : EP.mul hc N P0 = EP.zero ↔ Zp (lad N X 255).b := by
  obtain ⟨⟨hn, hr⟩, _⟩ := lad_rep hc hm hX nX n0 N hN 255 (Nat.le_refl _)
  rw [show N / 2 ^ (255 - 255) = N by simp] at hr
  have hs := hm.sq
  constructor
  · intro e
    rw [e] at hr
    simp only [EP.zero] at hr
    generalize (lad N X 255).b = b at *
    generalize (lad N X 255).a = a at *
    exact zp_cancel (a := 2) (zp_lin1 (-s) hr (by grind)) zp_two
  · intro hb
    have on := (EP.mul hc N P0).on
    have na : ¬ Zp (lad N X 255).a := fun h => hn ⟨h, hb⟩
    have h1 : Zp (1 - (EP.mul hc N P0).y) := zp_cancel (zp_lin2 1 (s * (1 + (EP.mul hc N P0).y)) hr hb (by grind)) na
    have hx : Zp (EP.mul hc N P0).x := by
      generalize (EP.mul hc N P0).x = x at *
      generalize (EP.mul hc N P0).y = y at *
      have h2 : Zp ((1 - c) * (x * x)) := zp_lin2 1 ((1 + y) * (1 - c * (x * x))) on h1 (by grind)
      exact (zp_or (zp_cancel h2 (one_ne hc))).elim id id
    exact EP.eq (zp_lin1 1 hx (by simp [EP.zero])) (zp_lin1 (-1) h1 (by simp only [EP.zero]; grind))
theorem scl_two (a : Int) : scl a 2 ≠ 0 := by
  intro h
  have e8 : ∃ k : Nat, clp a = ((8 * k : Nat) : Int) ∧ 0 < k ∧ k < ell2 ∧ 8 * k < 2 ^ 255 := by
    obtain ⟨h0, h1⟩ := clp_bd a
    have h2 : clp a % 8 = 0 := by unfold clp; omega
    have h3 : 28948022309329048855892746252171976963317496166410141009864396001978282409984 ≤ clp a := by unfold clp; omega
    have e : (2 : Nat) ^ 255 = 57896044618658097711785492504343953926634992332820282019728792003956564819968 := by decide
    refine ⟨(clp a).toNat / 8, by omega, by omega, ?_, by omega⟩
    unfold ell2
    omega
  obtain ⟨A, eA, a0, a1, a2⟩ := e8
  obtain ⟨s, c, hc, hm, P0, hX, n0⟩ := pt_of zp_two
  have v0 : Val s P0 2 := ⟨by decide, fun h => absurd h n0, fun _ => hX⟩
  have v1 := val_next hc hm v0 (8 * A) a2 (by omega)
  unfold scl at h
  rw [eA, show num 2 = 2 from num_of (by decide)] at h
  rw [h] at v1
  have z1 := zero_of_val hc hm.sq v1
  rw [EP.mul_mul] at z1
  have z2 := EP.mul_gcd hc _ _ ((gone_iff hc hm hX zp_two n0 (4 * ell2) (by decide +kernel)).2 ell2_lad) z1
  have hp := ell2_prime
  have nd : ¬ ell2 ∣ 4 * A := by
    intro hd
    rcases hp.euclid hd with q | q
    · exact absurd (Nat.le_of_dvd (by decide) q) (by decide +kernel)
    · have := Nat.le_of_dvd a0 q
      omega
  have hg : Nat.gcd (4 * ell2) (2 * (8 * A)) = 4 := by
    rw [show 2 * (8 * A) = 4 * (4 * A) by omega, Nat.gcd_mul_left]
    rcases hp.2 _ (Nat.gcd_dvd_left ell2 (4 * A)) with q | q
    · rw [q]
    · exact absurd (q ▸ Nat.gcd_dvd_right ell2 (4 * A)) nd
  rw [hg] at z2
  exact four_lad ((gone_iff hc hm hX zp_two n0 4 (by decide +kernel)).1 z2)
end Go.Proofs.YtpconccafpcpnaaDoor

namespace Go.Proofs.YtpconccafpcpnaaDoor
set_option maxRecDepth 100000

/-- Behind no private key is the number of 9 gone. -/
theorem scl_nine (a : Int) : scl a 9 ≠ 0 := by
  intro h
  have h2 := scl_secret a a
  rw [h] at h2
  obtain ⟨N, eN, _, e2⟩ := clp_nat a
  apply h2
  unfold scl
  rw [show num 0 = 0 from num_of (by decide), eN]
  exact scn_zero _ (even_bt e2)
theorem side_scl (a x : Int) (hx : 0 ≤ x ∧ x < prm) (h : scn (clp a) x ≠ 0) : rok (fX (scn (clp a) x)) = rok (fX x) := by
  obtain ⟨N, eN, h1, h2⟩ := clp_nat a
  rw [eN] at h ⊢
  exact side_stays h1 h2 hx h
theorem num_bd (U : Int) : 0 ≤ num U ∧ num U < prm := ⟨Int.emod_nonneg _ (by decide), Int.emod_lt_of_pos _ (by decide)⟩
theorem num_scl (K U : Int) : num (scl K U) = scl K U := num_of (scn_bd _ _)
/-- A number that is a half of 1 is no square. -/
theorem rok_half_no {h : Int} (h2 : 2 * h % prm = 1 % prm) : rok h = false := by
  rw [Bool.eq_false_iff]
  intro hr
  have h1 := (rok_iff h).1 hr
  have e : 2 % prm = (2 * rt h) * (2 * rt h) % prm := by
    have e1 : (2 * rt h) * (2 * rt h) = 4 * (rt h * rt h) := by grind
    rw [e1, mul_c (rfl : (4 : Int) % prm = 4 % prm) h1]
    have e2 : (4 : Int) * h = 2 * (2 * h) := by grind
    rw [e2, mul_c (rfl : (2 : Int) % prm = 2 % prm) h2]
    rfl
  have := rok_sq (2 * rt h)
  rw [← rok_c e, rok_two] at this
  exact absurd this (by decide)
theorem half_not {w h : Int} (h2 : 2 * h % prm = 1 % prm) (hw : w % prm ≠ 0) : rok (w * h) = !rok w := by
  have hh := rok_half_no h2
  cases e : rok w with
  | false => rw [rok_mul e hh]; rfl
  | true =>
    have hwh := ((rok_half w).1 e).resolve_left hw
    show rok (w * h) = false
    rw [Bool.eq_false_iff]
    intro hr
    rcases (rok_half (w * h)).1 hr with h0 | h0
    · apply hw
      have e1 : w % prm = 2 * (w * h) % prm := by
        have e2 : 2 * (w * h) = w * (2 * h) := by grind
        rw [e2, mul_c (rfl : w % prm = w % prm) h2, Int.mul_one]
      rw [e1, mul_c (rfl : (2 : Int) % prm = 2 % prm) (show w * h % prm = 0 % prm by rw [h0]; rfl)]
      rfl
    · rw [Int.mul_pow, mul_c hwh (rfl : _ % prm = _ % prm), Int.one_mul] at h0
      rw [(rok_half h).2 (.inr h0)] at hh
      exact absurd hh (by decide)
theorem side_nine (K : Int) : rok (fX (num (scl K 9))) = true := by
  rw [num_scl]
  have h := scl_nine K
  unfold scl at h ⊢
  rw [side_scl K _ (num_bd 9) h, show num 9 = 9 from num_of (by decide), rok_nine]
theorem side_two (K : Int) : rok (fX (num (scl K 2))) = false := by
  rw [num_scl]
  have h := scl_two K
  unfold scl at h ⊢
  rw [side_scl K _ (num_bd 2) h, show num 2 = 2 from num_of (by decide), rok_f2]
theorem side_any (K U : Int) : scl K U = 0 ∨ rok (fX (num (scl K U))) = rok (fX (num U)) := by
  by_cases h : scl K U = 0
  · exact .inl h
  · right
    rw [num_scl]
    unfold scl at h ⊢
    exact side_scl K _ (num_bd U) h
end Go.Proofs.YtpconccafpcpnaaDoor
