import Derived.Test.YtdcpcdkbhgkmlaaDoorDOpen
import Derived.Deep.MidRow
import Derived.Test.YtdcpcdkbhgkmlaaDoorProg
import Derived.WalkKit
import Derived.WalkSpells
import Derived.WalkLawsBesides
import Derived.Lib.QuietBelow
import Derived.BigQuiet
import Derived.OrdersHeld
import Derived.Deep.RegionHeld3
namespace Go.Proofs.YtdcpcdkbhgkmlaaDoor
set_option maxRecDepth 100000
/-! Numbers modulo prm: what is 0. -/
def Zp (a : Int) : Prop := a % prm = 0
theorem zp_zero : Zp 0 := by unfold Zp; decide
theorem zp_dvd {a : Int} : Zp a ↔ prm ∣ a := by unfold Zp; exact ⟨Int.dvd_of_emod_eq_zero, Int.emod_eq_zero_of_dvd⟩
theorem zp_mul (k : Int) {a : Int} (h : Zp a) : Zp (k * a) := by rw [zp_dvd] at *; exact Int.dvd_mul_of_dvd_right h
theorem zp_add {a b : Int} (h : Zp a) (g : Zp b) : Zp (a + b) := by rw [zp_dvd] at *; exact Int.dvd_add h g
theorem zp_lin1 {h g : Int} (k : Int) (hh : Zp h) (e : g = k * h) : Zp g := e ▸ zp_mul k hh
theorem zp_lin2 {h1 h2 g : Int} (k1 k2 : Int) (a1 : Zp h1) (a2 : Zp h2) (e : g = k1 * h1 + k2 * h2) : Zp g := e ▸ zp_add (zp_mul k1 a1) (zp_mul k2 a2)
theorem zp_lin3 {h1 h2 h3 g : Int} (k1 k2 k3 : Int) (a1 : Zp h1) (a2 : Zp h2) (a3 : Zp h3) (e : g = k1 * h1 + k2 * h2 + k3 * h3) : Zp g := e ▸ zp_add (zp_add (zp_mul k1 a1) (zp_mul k2 a2)) (zp_mul k3 a3)
theorem zp_lin4 {h1 h2 h3 h4 g : Int} (k1 k2 k3 k4 : Int) (a1 : Zp h1) (a2 : Zp h2) (a3 : Zp h3) (a4 : Zp h4) (e : g = k1 * h1 + k2 * h2 + k3 * h3 + k4 * h4) : Zp g := e ▸ zp_add (zp_add (zp_add (zp_mul k1 a1) (zp_mul k2 a2)) (zp_mul k3 a3)) (zp_mul k4 a4)
theorem zp_or {a b : Int} (h : Zp (a * b)) : Zp a ∨ Zp b := (mul_zero_iff a b).1 h
theorem zp_cancel {a b : Int} (h : Zp (a * b)) (ha : ¬ Zp a) : Zp b := (zp_or h).resolve_left ha
theorem zp_ne_mul {a b : Int} (ha : ¬ Zp a) (hb : ¬ Zp b) : ¬ Zp (a * b) := fun h => (zp_or h).elim ha hb
theorem zp_one : ¬ Zp 1 := by unfold Zp; decide
theorem zp_two : ¬ Zp 2 := by unfold Zp; decide
theorem zp_sub {a b : Int} : Zp (a - b) ↔ a % prm = b % prm := ⟨sub_zero_c, fun h => by unfold Zp; rw [Int.sub_emod, h, Int.sub_self]; rfl⟩
def iv (a : Int) : Int := a ^ 57896044618658097711785492504343953926634992332820282019728792003956564819947
theorem iv_mul {a : Int} (h : ¬ Zp a) : Zp (a * iv a - 1) := zp_sub.2 (inv_mul h)
def NonSq (c : Int) : Prop := ∀ r, ¬ Zp (r * r - c)
theorem NonSq.of_ratio {c u v : Int} (hc : NonSq c) (h : Zp (u * u - c * (v * v))) : Zp v := by
 apply Classical.byContradiction
 intro hv
 refine hc (u * iv v) ?_
 have hi := iv_mul hv
 generalize iv v = i at *
 exact zp_lin2 (i * i) (c * (v * i + 1)) h hi (by grind)
theorem ed_den {c x1 y1 x2 y2 : Int} (hc : NonSq c) (h1 : Zp (x1 * x1 + y1 * y1 - 1 - c * x1 * x1 * y1 * y1)) (h2 : Zp (x2 * x2 + y2 * y2 - 1 - c * x2 * x2 * y2 * y2)) (ep : Int) (he : ep * ep = 1) : ¬ Zp (c * x1 * x2 * y1 * y2 - ep) := by
 intro h
 have g : ∀ s : Int, s * s = 1 → Zp (x1 * y1 * (x2 + s * y2)) := fun s hs => by
  refine hc.of_ratio (u := x1 + s * ep * y1) ?_
  exact zp_lin3 (-(c * x1 * x2 * y1 * y2 - ep + 2 * ep) - 2 * s * x1 * y1) 1 (-(c * x1 * x1 * y1 * y1)) h h1 h2 (by grind)
 have n1 : ¬ Zp (x1 * y1) := fun q => by
  have : Zp ep := zp_lin2 (c * x2 * y2) (-1) q h (by grind)
  exact zp_one (zp_lin1 ep this he.symm)
 have n2 : ¬ Zp x2 := fun q => by
  have : Zp ep := zp_lin2 (c * x1 * y1 * y2) (-1) q h (by grind)
  exact zp_one (zp_lin1 ep this he.symm)
 have a1 := zp_cancel (g 1 (by decide)) n1
 have a2 := zp_cancel (g (-1) (by decide)) n1
 have : Zp (2 * x2) := zp_lin2 1 1 a1 a2 (by grind)
 exact n2 (zp_cancel this zp_two)
theorem ed_plus {c x1 y1 x2 y2 : Int} (hc : NonSq c) (h1 : Zp (x1 * x1 + y1 * y1 - 1 - c * x1 * x1 * y1 * y1)) (h2 : Zp (x2 * x2 + y2 * y2 - 1 - c * x2 * x2 * y2 * y2)) : ¬ Zp (1 + (c * x1 * x2 * y1 * y2)) := fun h => ed_den hc h1 h2 (-1) (by decide) (zp_lin1 1 h (by grind))
theorem ed_minus {c x1 y1 x2 y2 : Int} (hc : NonSq c) (h1 : Zp (x1 * x1 + y1 * y1 - 1 - c * x1 * x1 * y1 * y1)) (h2 : Zp (x2 * x2 + y2 * y2 - 1 - c * x2 * x2 * y2 * y2)) : ¬ Zp (1 - (c * x1 * x2 * y1 * y2)) := fun h => ed_den hc h1 h2 1 (by decide) (zp_lin1 (-1) h (by grind))
theorem ed_closed {c x1 y1 x2 y2 x y : Int} (hc : NonSq c) (h1 : Zp (x1 * x1 + y1 * y1 - 1 - c * x1 * x1 * y1 * y1)) (h2 : Zp (x2 * x2 + y2 * y2 - 1 - c * x2 * x2 * y2 * y2)) (hx : Zp (x * (1 + (c * x1 * x2 * y1 * y2)) - (x1 * y2 + y1 * x2))) (hy : Zp (y * (1 - (c * x1 * x2 * y1 * y2)) - (y1 * y2 - x1 * x2))) : Zp (x * x + y * y - 1 - c * x * x * y * y) := by
 have k : Zp ((x1 * y2 + y1 * x2) * (x1 * y2 + y1 * x2) * ((1 - (c * x1 * x2 * y1 * y2)) * (1 - (c * x1 * x2 * y1 * y2))) + (y1 * y2 - x1 * x2) * (y1 * y2 - x1 * x2) * ((1 + (c * x1 * x2 * y1 * y2)) * (1 + (c * x1 * x2 * y1 * y2))) - (1 - (c * x1 * x2 * y1 * y2) * (c * x1 * x2 * y1 * y2)) * (1 - (c * x1 * x2 * y1 * y2) * (c * x1 * x2 * y1 * y2)) - c * ((x1 * y2 + y1 * x2) * (x1 * y2 + y1 * x2)) * ((y1 * y2 - x1 * x2) * (y1 * y2 - x1 * x2))) :=
  zp_lin2 (x2 * x2 * x2 * x2 + y2 * y2 * y2 * y2 - 2 * x2 * x2 * y2 * y2 * y2 * y2 - 2 * x2 * x2 * x2 * x2 * y2 * y2 + 4 * x2 * x2 * y2 * y2 - c * c * x2 * x2 * x2 * x2 * y2 * y2 * y2 * y2 - 2 * c * x2 * x2 * y2 * y2 + 2 * c * x2 * x2 * x2 * x2 * y2 * y2 * y2 * y2 + c * c * x1 * x1 * x2 * x2 * x2 * x2 * y2 * y2 * y2 * y2 + c * c * x2 * x2 * x2 * x2 * y1 * y1 * y2 * y2 * y2 * y2 - c * x1 * x1 * x2 * x2 * y2 * y2 * y2 * y2 - c * x1 * x1 * x2 * x2 * x2 * x2 * y2 * y2 - c * x2 * x2 * y1 * y1 * y2 * y2 * y2 * y2 - c * x2 * x2 * x2 * x2 * y1 * y1 * y2 * y2 + c * c * c * x1 * x1 * x2 * x2 * x2 * x2 * y1 * y1 * y2 * y2 * y2 * y2) (1 + x2 * x2 + y2 * y2 - x1 * x1 * x2 * x2 - x1 * x1 * y2 * y2 - x2 * x2 * y1 * y1 - y1 * y1 * y2 * y2 - 2 * x2 * x2 * y2 * y2 + c * x2 * x2 * y2 * y2 + 2 * x1 * x1 * x2 * x2 * y2 * y2 + 2 * x2 * x2 * y1 * y1 * y2 * y2 + c * x1 * x1 * x1 * x1 * x2 * x2 * y2 * y2 + c * x2 * x2 * y1 * y1 * y1 * y1 * y2 * y2 - 2 * c * x1 * x1 * x2 * x2 * y2 * y2 - 2 * c * x2 * x2 * y1 * y1 * y2 * y2) h1 h2 (by grind)
 have np := ed_plus hc h1 h2
 have nm := ed_minus hc h1 h2
 generalize (x1 * y2 + y1 * x2) = X at *
 generalize (y1 * y2 - x1 * x2) = Y at *
 generalize (c * x1 * x2 * y1 * y2) = t at *
 refine zp_cancel (a := (1 + t) * (1 + t) * ((1 - t) * (1 - t))) ?_ (zp_ne_mul (zp_ne_mul np np) (zp_ne_mul nm nm))
 have hX : Zp ((x * (1 + t)) * (x * (1 + t)) - X * X) := zp_lin1 (x * (1 + t) + X) hx (by grind)
 have hY : Zp ((y * (1 - t)) * (y * (1 - t)) - Y * Y) := zp_lin1 (y * (1 - t) + Y) hy (by grind)
 exact zp_lin3 ((1 - t) * (1 - t) - c * ((y * (1 - t)) * (y * (1 - t)))) ((1 + t) * (1 + t) - c * (X * X)) 1 hX hY k (by grind)
theorem ed_assoc_x {c x1 y1 x2 y2 x3 y3 : Int} (h1 : Zp (x1 * x1 + y1 * y1 - 1 - c * x1 * x1 * y1 * y1)) (h2 : Zp (x2 * x2 + y2 * y2 - 1 - c * x2 * x2 * y2 * y2)) (h3 : Zp (x3 * x3 + y3 * y3 - 1 - c * x3 * x3 * y3 * y3)) :
 Zp (((x1 * y2 + y1 * x2) * y3 * (1 - (c * x1 * x2 * y1 * y2)) + (y1 * y2 - x1 * x2) * x3 * (1 + (c * x1 * x2 * y1 * y2))) * ((1 - (c * x2 * x3 * y2 * y3) * (c * x2 * x3 * y2 * y3)) + c * x1 * y1 * (x2 * y3 + y2 * x3) * (y2 * y3 - x2 * x3)) - (x1 * (y2 * y3 - x2 * x3) * (1 + (c * x2 * x3 * y2 * y3)) + y1 * (x2 * y3 + y2 * x3) * (1 - (c * x2 * x3 * y2 * y3))) * ((1 - (c * x1 * x2 * y1 * y2) * (c * x1 * x2 * y1 * y2)) + c * (x1 * y2 + y1 * x2) * (y1 * y2 - x1 * x2) * x3 * y3)) :=
 zp_lin3 (c * x1 * x3 * x2 * x2 * x2 * y2 * y2 + c * x1 * x2 * x2 * y2 * y2 * y2 * y3 * y3 * y3 + c * y1 * x2 * x2 * x3 * x3 * x3 * y2 * y2 * y2 + c * y1 * x2 * x2 * x2 * y2 * y2 * y3 * y3 * y3 - c * x1 * y3 * x2 * x2 * y2 * y2 * y2 - c * x1 * x2 * x2 * x2 * x3 * x3 * x3 * y2 * y2 - c * x3 * y1 * x2 * x2 * y2 * y2 * y2 - c * y1 * y3 * x2 * x2 * x2 * y2 * y2 + c * x1 * x2 * x3 * y2 * y2 * y2 * y2 * y3 * y3 + x1 * y3 * c * c * x2 * x2 * x2 * x2 * x3 * x3 * y2 * y2 * y2 + x3 * y1 * c * c * x2 * x2 * x2 * x2 * y2 * y2 * y2 * y3 * y3 + y1 * y3 * c * c * x2 * x2 * x2 * x3 * x3 * y2 * y2 * y2 * y2 - c * x1 * y2 * y3 * x2 * x2 * x2 * x2 * x3 * x3 - c * x2 * y1 * y3 * x3 * x3 * y2 * y2 * y2 * y2 - c * x3 * y1 * y2 * x2 * x2 * x2 * x2 * y3 * y3 - x1 * x3 * c * c * x2 * x2 * x2 * y2 * y2 * y2 * y2 * y3 * y3) (x1 * x2 * x3 * x3 * x3 + x1 * y2 * y3 + x2 * x3 * x1 * x1 * x1 + x2 * y1 * y3 + x2 * y1 * y1 * y1 * y3 * y3 * y3 + x3 * y1 * y2 + y2 * x1 * x1 * x1 * y3 * y3 * y3 + y2 * x3 * x3 * x3 * y1 * y1 * y1 - x1 * x2 * x3 - x1 * y2 * y3 * y3 * y3 - x2 * y1 * y3 * y3 * y3 - x2 * y3 * y1 * y1 * y1 - x2 * x1 * x1 * x1 * x3 * x3 * x3 - x3 * y2 * y1 * y1 * y1 - y1 * y2 * x3 * x3 * x3 - y2 * y3 * x1 * x1 * x1 + x1 * x2 * x3 * y1 * y1 + x1 * x2 * x3 * y3 * y3 + x1 * y2 * y1 * y1 * y3 * y3 * y3 + x2 * y1 * x1 * x1 * y3 * y3 * y3 + x2 * y3 * x3 * x3 * y1 * y1 * y1 + x3 * y2 * y1 * y1 * y1 * y3 * y3 + y1 * y2 * x1 * x1 * x3 * x3 * x3 + y2 * y3 * x1 * x1 * x1 * x3 * x3 - x1 * x2 * x3 * x3 * x3 * y1 * y1 - x1 * y2 * y3 * x3 * x3 - x1 * y2 * y3 * y1 * y1 - x2 * x3 * x1 * x1 * x1 * y3 * y3 - x2 * y1 * y3 * x1 * x1 - x2 * y1 * y3 * x3 * x3 - x3 * y1 * y2 * x1 * x1 - x3 * y1 * y2 * y3 * y3 + c * x1 * y2 * x3 * x3 * y3 * y3 * y3 + c * x2 * y1 * x3 * x3 * y3 * y3 * y3 + c * x2 * x1 * x1 * x1 * x3 * x3 * x3 * y3 * y3 + c * y1 * y2 * x3 * x3 * x3 * y3 * y3 + x1 * y2 * y3 * x3 * x3 * y1 * y1 + x2 * y1 * y3 * x1 * x1 * x3 * x3 + x3 * y1 * y2 * x1 * x1 * y3 * y3 - c * x1 * x2 * x3 * x3 * x3 * y3 * y3 - c * x2 * x3 * x3 * y1 * y1 * y1 * y3 * y3 * y3 - c * y2 * x1 * x1 * x1 * x3 * x3 * y3 * y3 * y3 - c * y2 * x3 * x3 * x3 * y1 * y1 * y1 * y3 * y3 - x1 * x2 * x3 * y1 * y1 * y3 * y3 + c * x1 * x2 * x3 * y2 * y2 * y3 * y3 + c * x1 * x2 * x3 * x3 * x3 * y1 * y1 * y3 * y3 + c * x2 * y3 * x3 * x3 * y1 * y1 * y1 * y2 * y2 + c * x3 * y2 * x2 * x2 * y1 * y1 * y1 * y3 * y3 + c * y2 * y3 * x1 * x1 * x1 * x2 * x2 * x3 * x3 - c * x1 * y2 * y3 * x2 * x2 * x3 * x3 - c * x1 * y2 * x3 * x3 * y1 * y1 * y3 * y3 * y3 - c * x2 * x3 * x1 * x1 * x1 * y2 * y2 * y3 * y3 - c * x2 * y1 * y3 * x3 * x3 * y2 * y2 - c * x2 * y1 * x1 * x1 * x3 * x3 * y3 * y3 * y3 - c * x3 * y1 * y2 * x2 * x2 * y3 * y3 - c * y1 * y2 * x1 * x1 * x3 * x3 * x3 * y3 * y3 + c * x1 * y2 * y3 * x2 * x2 * x3 * x3 * y1 * y1 + c * x2 * y1 * y3 * x1 * x1 * x3 * x3 * y2 * y2 + c * x3 * y1 * y2 * x1 * x1 * x2 * x2 * y3 * y3 + x1 * x2 * c * c * x3 * x3 * x3 * y1 * y1 * y2 * y2 * y3 * y3 - c * x1 * x2 * x3 * y1 * y1 * y2 * y2 * y3 * y3 - x1 * y2 * c * c * x2 * x2 * x3 * x3 * y1 * y1 * y3 * y3 * y3 - x2 * y1 * c * c * x1 * x1 * x3 * x3 * y2 * y2 * y3 * y3 * y3 - y1 * y2 * c * c * x1 * x1 * x2 * x2 * x3 * x3 * x3 * y3 * y3) (x1 * x2 * x3 + x1 * y3 * y2 * y2 * y2 + x2 * y3 * y1 * y1 * y1 + x3 * y1 * y2 * y2 * y2 + x3 * y2 * y1 * y1 * y1 + x3 * x1 * x1 * x1 * x2 * x2 * x2 + y1 * y3 * x2 * x2 * x2 + y2 * y3 * x1 * x1 * x1 - x1 * x3 * x2 * x2 * x2 - x1 * y2 * y3 - x2 * x3 * x1 * x1 * x1 - x2 * y1 * y3 - x3 * y1 * y2 - x3 * y1 * y1 * y1 * y2 * y2 * y2 - y3 * x1 * x1 * x1 * y2 * y2 * y2 - y3 * x2 * x2 * x2 * y1 * y1 * y1 + x1 * x3 * x2 * x2 * x2 * y1 * y1 + x1 * y2 * y3 * x2 * x2 + x1 * y2 * y3 * y1 * y1 + x2 * x3 * x1 * x1 * x1 * y2 * y2 + x2 * y1 * y3 * x1 * x1 + x2 * y1 * y3 * y2 * y2 + x3 * y1 * y2 * x1 * x1 + x3 * y1 * y2 * x2 * x2 - x1 * x2 * x3 * y1 * y1 - x1 * x2 * x3 * y2 * y2 - x1 * y3 * y1 * y1 * y2 * y2 * y2 - x2 * y3 * y1 * y1 * y1 * y2 * y2 - x3 * y1 * x1 * x1 * y2 * y2 * y2 - x3 * y2 * x2 * x2 * y1 * y1 * y1 - y1 * y3 * x1 * x1 * x2 * x2 * x2 - y2 * y3 * x1 * x1 * x1 * x2 * x2 + x1 * x2 * x3 * y1 * y1 * y2 * y2 - x1 * y2 * y3 * x2 * x2 * y1 * y1 - x2 * y1 * y3 * x1 * x1 * y2 * y2 - x3 * y1 * y2 * x1 * x1 * x2 * x2 + c * x1 * y2 * y3 * x2 * x2 * y1 * y1 + c * x2 * y1 * y3 * x1 * x1 * y2 * y2 + c * x3 * y1 * y2 * x1 * x1 * x2 * x2 - c * x1 * x2 * x3 * y1 * y1 * y2 * y2) h1 h2 h3 (by grind)
theorem ed_assoc_y {c x1 y1 x2 y2 x3 y3 : Int} (h1 : Zp (x1 * x1 + y1 * y1 - 1 - c * x1 * x1 * y1 * y1)) (h2 : Zp (x2 * x2 + y2 * y2 - 1 - c * x2 * x2 * y2 * y2)) (h3 : Zp (x3 * x3 + y3 * y3 - 1 - c * x3 * x3 * y3 * y3)) :
 Zp (((y1 * y2 - x1 * x2) * y3 * (1 + (c * x1 * x2 * y1 * y2)) - (x1 * y2 + y1 * x2) * x3 * (1 - (c * x1 * x2 * y1 * y2))) * ((1 - (c * x2 * x3 * y2 * y3) * (c * x2 * x3 * y2 * y3)) - c * x1 * y1 * (x2 * y3 + y2 * x3) * (y2 * y3 - x2 * x3)) - (y1 * (y2 * y3 - x2 * x3) * (1 + (c * x2 * x3 * y2 * y3)) - x1 * (x2 * y3 + y2 * x3) * (1 - (c * x2 * x3 * y2 * y3))) * ((1 - (c * x1 * x2 * y1 * y2) * (c * x1 * x2 * y1 * y2)) - c * (x1 * y2 + y1 * x2) * (y1 * y2 - x1 * x2) * x3 * y3)) :=
 zp_lin3 (c * x1 * x3 * x2 * x2 * y2 * y2 * y2 + c * x1 * y3 * x2 * x2 * x2 * y2 * y2 + c * x3 * y1 * x2 * x2 * x2 * y2 * y2 + c * y1 * x2 * x2 * y2 * y2 * y2 * y3 * y3 * y3 - c * x1 * x2 * x2 * x3 * x3 * x3 * y2 * y2 * y2 - c * x1 * x2 * x2 * x2 * y2 * y2 * y3 * y3 * y3 - c * y1 * y3 * x2 * x2 * y2 * y2 * y2 - c * y1 * x2 * x2 * x2 * x3 * x3 * x3 * y2 * y2 + c * x1 * x2 * y3 * x3 * x3 * y2 * y2 * y2 * y2 + c * x1 * x3 * y2 * x2 * x2 * x2 * x2 * y3 * y3 + c * x2 * x3 * y1 * y2 * y2 * y2 * y2 * y3 * y3 + y1 * y3 * c * c * x2 * x2 * x2 * x2 * x3 * x3 * y2 * y2 * y2 - c * y1 * y2 * y3 * x2 * x2 * x2 * x2 * x3 * x3 - x1 * x3 * c * c * x2 * x2 * x2 * x2 * y2 * y2 * y2 * y3 * y3 - x1 * y3 * c * c * x2 * x2 * x2 * x3 * x3 * y2 * y2 * y2 * y2 - x3 * y1 * c * c * x2 * x2 * x2 * y2 * y2 * y2 * y2 * y3 * y3) (x1 * x2 * y3 * y3 * y3 + x1 * y2 * x3 * x3 * x3 + x2 * x3 * y1 * y1 * y1 + x2 * y1 * x3 * x3 * x3 + x2 * y3 * x1 * x1 * x1 + x3 * y2 * x1 * x1 * x1 + y1 * y2 * y3 + y2 * y1 * y1 * y1 * y3 * y3 * y3 - x1 * x2 * y3 - x1 * x3 * y2 - x2 * x3 * y1 - x2 * x1 * x1 * x1 * y3 * y3 * y3 - x2 * x3 * x3 * x3 * y1 * y1 * y1 - y1 * y2 * y3 * y3 * y3 - y2 * y3 * y1 * y1 * y1 - y2 * x1 * x1 * x1 * x3 * x3 * x3 + x1 * x2 * y3 * x3 * x3 + x1 * x2 * y3 * y1 * y1 + x1 * x3 * y2 * y1 * y1 + x1 * x3 * y2 * y3 * y3 + x2 * x3 * y1 * x1 * x1 + x2 * x3 * y1 * y3 * y3 + y1 * y2 * x1 * x1 * y3 * y3 * y3 + y2 * y3 * x3 * x3 * y1 * y1 * y1 - x1 * x2 * y1 * y1 * y3 * y3 * y3 - x1 * y2 * x3 * x3 * x3 * y1 * y1 - x2 * x3 * y1 * y1 * y1 * y3 * y3 - x2 * y1 * x1 * x1 * x3 * x3 * x3 - x2 * y3 * x1 * x1 * x1 * x3 * x3 - x3 * y2 * x1 * x1 * x1 * y3 * y3 - y1 * y2 * y3 * x1 * x1 - y1 * y2 * y3 * x3 * x3 + c * x2 * x1 * x1 * x1 * x3 * x3 * y3 * y3 * y3 + c * x2 * x3 * x3 * x3 * y1 * y1 * y1 * y3 * y3 + c * y1 * y2 * x3 * x3 * y3 * y3 * y3 + c * y2 * x1 * x1 * x1 * x3 * x3 * x3 * y3 * y3 + y1 * y2 * y3 * x1 * x1 * x3 * x3 - c * x1 * x2 * x3 * x3 * y3 * y3 * y3 - c * x1 * y2 * x3 * x3 * x3 * y3 * y3 - c * x2 * y1 * x3 * x3 * x3 * y3 * y3 - c * y2 * x3 * x3 * y1 * y1 * y1 * y3 * y3 * y3 - x1 * x2 * y3 * x3 * x3 * y1 * y1 - x1 * x3 * y2 * y1 * y1 * y3 * y3 - x2 * x3 * y1 * x1 * x1 * y3 * y3 + c * x1 * x2 * y3 * x3 * x3 * y2 * y2 + c * x1 * x2 * x3 * x3 * y1 * y1 * y3 * y3 * y3 + c * x1 * x3 * y2 * x2 * x2 * y3 * y3 + c * x1 * y2 * x3 * x3 * x3 * y1 * y1 * y3 * y3 + c * x2 * x3 * y1 * y2 * y2 * y3 * y3 + c * x2 * y1 * x1 * x1 * x3 * x3 * x3 * y3 * y3 + c * y2 * y3 * x2 * x2 * x3 * x3 * y1 * y1 * y1 - c * x2 * x3 * y1 * y1 * y1 * y2 * y2 * y3 * y3 - c * x2 * y3 * x1 * x1 * x1 * x3 * x3 * y2 * y2 - c * x3 * y2 * x1 * x1 * x1 * x2 * x2 * y3 * y3 - c * y1 * y2 * y3 * x2 * x2 * x3 * x3 - c * y1 * y2 * x1 * x1 * x3 * x3 * y3 * y3 * y3 + c * y1 * y2 * y3 * x1 * x1 * x2 * x2 * x3 * x3 + x1 * x2 * c * c * x3 * x3 * y1 * y1 * y2 * y2 * y3 * y3 * y3 + x1 * y2 * c * c * x2 * x2 * x3 * x3 * x3 * y1 * y1 * y3 * y3 + x2 * y1 * c * c * x1 * x1 * x3 * x3 * x3 * y2 * y2 * y3 * y3 - c * x1 * x2 * y3 * x3 * x3 * y1 * y1 * y2 * y2 - c * x1 * x3 * y2 * x2 * x2 * y1 * y1 * y3 * y3 - c * x2 * x3 * y1 * x1 * x1 * y2 * y2 * y3 * y3 - y1 * y2 * c * c * x1 * x1 * x2 * x2 * x3 * x3 * y3 * y3 * y3) (x1 * x2 * y3 + x1 * x3 * y2 + x2 * x3 * y1 + x3 * x1 * x1 * x1 * y2 * y2 * y2 + x3 * x2 * x2 * x2 * y1 * y1 * y1 + y1 * y3 * y2 * y2 * y2 + y2 * y3 * y1 * y1 * y1 + y3 * x1 * x1 * x1 * x2 * x2 * x2 - x1 * x3 * y2 * y2 * y2 - x1 * y3 * x2 * x2 * x2 - x2 * x3 * y1 * y1 * y1 - x2 * y3 * x1 * x1 * x1 - x3 * y1 * x2 * x2 * x2 - x3 * y2 * x1 * x1 * x1 - y1 * y2 * y3 - y3 * y1 * y1 * y1 * y2 * y2 * y2 + x1 * x3 * y1 * y1 * y2 * y2 * y2 + x1 * y3 * x2 * x2 * x2 * y1 * y1 + x2 * x3 * y1 * y1 * y1 * y2 * y2 + x2 * y3 * x1 * x1 * x1 * y2 * y2 + x3 * y1 * x1 * x1 * x2 * x2 * x2 + x3 * y2 * x1 * x1 * x1 * x2 * x2 + y1 * y2 * y3 * x1 * x1 + y1 * y2 * y3 * x2 * x2 - x1 * x2 * y3 * y1 * y1 - x1 * x2 * y3 * y2 * y2 - x1 * x3 * y2 * x2 * x2 - x1 * x3 * y2 * y1 * y1 - x2 * x3 * y1 * x1 * x1 - x2 * x3 * y1 * y2 * y2 - y1 * y3 * x1 * x1 * y2 * y2 * y2 - y2 * y3 * x2 * x2 * y1 * y1 * y1 + x1 * x2 * y3 * y1 * y1 * y2 * y2 + x1 * x3 * y2 * x2 * x2 * y1 * y1 + x2 * x3 * y1 * x1 * x1 * y2 * y2 - y1 * y2 * y3 * x1 * x1 * x2 * x2 + c * y1 * y2 * y3 * x1 * x1 * x2 * x2 - c * x1 * x2 * y3 * y1 * y1 * y2 * y2 - c * x1 * x3 * y2 * x2 * x2 * y1 * y1 - c * x2 * x3 * y1 * x1 * x1 * y2 * y2) h1 h2 h3 (by grind)
end Go.Proofs.YtdcpcdkbhgkmlaaDoor
namespace Go.Proofs.YtdcpcdkbhgkmlaaDoor
set_option maxRecDepth 100000
theorem zp_emod (a : Int) : Zp (a % prm - a) := zp_sub.2 (Int.emod_emod _ _)
structure EP (c : Int) where
 x : Int
 y : Int
 hx : x % prm = x
 hy : y % prm = y
 on : Zp (x * x + y * y - 1 - c * x * x * y * y)
theorem EP.eq {c : Int} {P Q : EP c} (h1 : Zp (P.x - Q.x)) (h2 : Zp (P.y - Q.y)) : P = Q := by
 have e1 : P.x = Q.x := by rw [← P.hx, ← Q.hx]; exact zp_sub.1 h1
 have e2 : P.y = Q.y := by rw [← P.hy, ← Q.hy]; exact zp_sub.1 h2
 cases P; cases Q
 simp at e1 e2
 subst e1 e2
 rfl
theorem quot_spec {X d : Int} (hd : ¬ Zp d) : Zp ((X * iv d) % prm * d - X) := by
 have h1 := zp_emod (X * iv d)
 have h2 := iv_mul hd
 generalize iv d = i at *
 generalize (X * i) % prm = q at *
 exact zp_lin2 d X h1 h2 (by grind)
/-! Associativity, from the parts. -/
theorem as_x {c x1 y1 x2 y2 x3 y3 xa ya xb yb xL xR : Int}
 (ax : Zp (xa * (1 + (c * x1 * x2 * y1 * y2)) - (x1 * y2 + y1 * x2))) (ay : Zp (ya * (1 - (c * x1 * x2 * y1 * y2)) - (y1 * y2 - x1 * x2)))
 (bx : Zp (xb * (1 + (c * x2 * x3 * y2 * y3)) - (x2 * y3 + y2 * x3))) (by' : Zp (yb * (1 - (c * x2 * x3 * y2 * y3)) - (y2 * y3 - x2 * x3)))
 (lx : Zp (xL * (1 + (c * xa * x3 * ya * y3)) - (xa * y3 + ya * x3))) (rx : Zp (xR * (1 + (c * x1 * xb * y1 * yb)) - (x1 * yb + y1 * xb)))
 (d1 : ¬ Zp (1 + (c * x1 * x2 * y1 * y2))) (d2 : ¬ Zp (1 - (c * x1 * x2 * y1 * y2))) (d3 : ¬ Zp (1 + (c * x2 * x3 * y2 * y3))) (d4 : ¬ Zp (1 - (c * x2 * x3 * y2 * y3)))
 (f1 : ¬ Zp (1 + (c * xa * x3 * ya * y3))) (f3 : ¬ Zp (1 + (c * x1 * xb * y1 * yb)))
 (kx : Zp (((x1 * y2 + y1 * x2) * y3 * (1 - (c * x1 * x2 * y1 * y2)) + (y1 * y2 - x1 * x2) * x3 * (1 + (c * x1 * x2 * y1 * y2))) * ((1 - (c * x2 * x3 * y2 * y3) * (c * x2 * x3 * y2 * y3)) + c * x1 * y1 * (x2 * y3 + y2 * x3) * (y2 * y3 - x2 * x3)) - (x1 * (y2 * y3 - x2 * x3) * (1 + (c * x2 * x3 * y2 * y3)) + y1 * (x2 * y3 + y2 * x3) * (1 - (c * x2 * x3 * y2 * y3))) * ((1 - (c * x1 * x2 * y1 * y2) * (c * x1 * x2 * y1 * y2)) + c * (x1 * y2 + y1 * x2) * (y1 * y2 - x1 * x2) * x3 * y3))) :
 Zp (xL - xR) := by
 generalize c * x1 * x2 * y1 * y2 = t at *
 generalize c * x2 * x3 * y2 * y3 = u at *
 generalize x1 * y2 + y1 * x2 = X at *
 generalize y1 * y2 - x1 * x2 = Y at *
 generalize x2 * y3 + y2 * x3 = V at *
 generalize y2 * y3 - x2 * x3 = W at *
 have aXY : Zp (xa * ya * ((1 + t) * (1 - t)) - X * Y) := zp_lin2 (ya * (1 - t)) X ax ay (by grind)
 have bXY : Zp (xb * yb * ((1 + u) * (1 - u)) - V * W) := zp_lin2 (yb * (1 - u)) V bx by' (by grind)
 -- left: xL * DL = NL
 have hL : Zp (xL * ((1 - t * t) + c * X * Y * x3 * y3) - (X * y3 * (1 - t) + Y * x3 * (1 + t))) :=
  zp_lin4 ((1 + t) * (1 - t)) (-(xL * c * x3 * y3)) (y3 * (1 - t)) (x3 * (1 + t)) lx aXY ax ay (by grind)
 have hR : Zp (xR * ((1 - u * u) + c * x1 * y1 * V * W) - (x1 * W * (1 + u) + y1 * V * (1 - u))) :=
  zp_lin4 ((1 + u) * (1 - u)) (-(xR * c * x1 * y1)) (y1 * (1 - u)) (x1 * (1 + u)) rx bXY bx by' (by grind)
 have nL : ¬ Zp ((1 - t * t) + c * X * Y * x3 * y3) := fun h => zp_ne_mul (zp_ne_mul d1 d2) f1 (zp_lin2 1 (c * x3 * y3) h aXY (by grind))
 have nR : ¬ Zp ((1 - u * u) + c * x1 * y1 * V * W) := fun h => zp_ne_mul (zp_ne_mul d3 d4) f3 (zp_lin2 1 (c * x1 * y1) h bXY (by grind))
 generalize (1 - t * t) + c * X * Y * x3 * y3 = DL at *
 generalize (1 - u * u) + c * x1 * y1 * V * W = DR at *
 generalize X * y3 * (1 - t) + Y * x3 * (1 + t) = NL at *
 generalize x1 * W * (1 + u) + y1 * V * (1 - u) = NR at *
 exact zp_cancel (zp_lin3 DR (-DL) 1 hL hR kx (by grind)) (zp_ne_mul nL nR)
theorem as_y {c x1 y1 x2 y2 x3 y3 xa ya xb yb yL yR : Int}
 (ax : Zp (xa * (1 + (c * x1 * x2 * y1 * y2)) - (x1 * y2 + y1 * x2))) (ay : Zp (ya * (1 - (c * x1 * x2 * y1 * y2)) - (y1 * y2 - x1 * x2)))
 (bx : Zp (xb * (1 + (c * x2 * x3 * y2 * y3)) - (x2 * y3 + y2 * x3))) (by' : Zp (yb * (1 - (c * x2 * x3 * y2 * y3)) - (y2 * y3 - x2 * x3)))
 (ly : Zp (yL * (1 - (c * xa * x3 * ya * y3)) - (ya * y3 - xa * x3))) (ry : Zp (yR * (1 - (c * x1 * xb * y1 * yb)) - (y1 * yb - x1 * xb)))
 (d1 : ¬ Zp (1 + (c * x1 * x2 * y1 * y2))) (d2 : ¬ Zp (1 - (c * x1 * x2 * y1 * y2))) (d3 : ¬ Zp (1 + (c * x2 * x3 * y2 * y3))) (d4 : ¬ Zp (1 - (c * x2 * x3 * y2 * y3)))
 (f2 : ¬ Zp (1 - (c * xa * x3 * ya * y3))) (f4 : ¬ Zp (1 - (c * x1 * xb * y1 * yb)))
 (ky : Zp (((y1 * y2 - x1 * x2) * y3 * (1 + (c * x1 * x2 * y1 * y2)) - (x1 * y2 + y1 * x2) * x3 * (1 - (c * x1 * x2 * y1 * y2))) * ((1 - (c * x2 * x3 * y2 * y3) * (c * x2 * x3 * y2 * y3)) - c * x1 * y1 * (x2 * y3 + y2 * x3) * (y2 * y3 - x2 * x3)) - (y1 * (y2 * y3 - x2 * x3) * (1 + (c * x2 * x3 * y2 * y3)) - x1 * (x2 * y3 + y2 * x3) * (1 - (c * x2 * x3 * y2 * y3))) * ((1 - (c * x1 * x2 * y1 * y2) * (c * x1 * x2 * y1 * y2)) - c * (x1 * y2 + y1 * x2) * (y1 * y2 - x1 * x2) * x3 * y3))) :
 Zp (yL - yR) := by
 generalize c * x1 * x2 * y1 * y2 = t at *
 generalize c * x2 * x3 * y2 * y3 = u at *
 generalize x1 * y2 + y1 * x2 = X at *
 generalize y1 * y2 - x1 * x2 = Y at *
 generalize x2 * y3 + y2 * x3 = V at *
 generalize y2 * y3 - x2 * x3 = W at *
 have aXY : Zp (xa * ya * ((1 + t) * (1 - t)) - X * Y) := zp_lin2 (ya * (1 - t)) X ax ay (by grind)
 have bXY : Zp (xb * yb * ((1 + u) * (1 - u)) - V * W) := zp_lin2 (yb * (1 - u)) V bx by' (by grind)
 have hL : Zp (yL * ((1 - t * t) - c * X * Y * x3 * y3) - (Y * y3 * (1 + t) - X * x3 * (1 - t))) :=
  zp_lin4 ((1 + t) * (1 - t)) (yL * c * x3 * y3) (-(x3 * (1 - t))) (y3 * (1 + t)) ly aXY ax ay (by grind)
 have hR : Zp (yR * ((1 - u * u) - c * x1 * y1 * V * W) - (y1 * W * (1 + u) - x1 * V * (1 - u))) :=
  zp_lin4 ((1 + u) * (1 - u)) (yR * c * x1 * y1) (-(x1 * (1 - u))) (y1 * (1 + u)) ry bXY bx by' (by grind)
 have nL : ¬ Zp ((1 - t * t) - c * X * Y * x3 * y3) := fun h => zp_ne_mul (zp_ne_mul d1 d2) f2 (zp_lin2 1 (-(c * x3 * y3)) h aXY (by grind))
 have nR : ¬ Zp ((1 - u * u) - c * x1 * y1 * V * W) := fun h => zp_ne_mul (zp_ne_mul d3 d4) f4 (zp_lin2 1 (-(c * x1 * y1)) h bXY (by grind))
 generalize (1 - t * t) - c * X * Y * x3 * y3 = DL at *
 generalize (1 - u * u) - c * x1 * y1 * V * W = DR at *
 generalize Y * y3 * (1 + t) - X * x3 * (1 - t) = NL at *
 generalize y1 * W * (1 + u) - x1 * V * (1 - u) = NR at *
 exact zp_cancel (zp_lin3 DR (-DL) 1 hL hR ky (by grind)) (zp_ne_mul nL nR)
section
variable {c : Int} (hc : NonSq c)
def EP.add (P Q : EP c) : EP c where
 x := ((P.x * Q.y + P.y * Q.x) * iv (1 + (c * P.x * Q.x * P.y * Q.y))) % prm
 y := ((P.y * Q.y - P.x * Q.x) * iv (1 - (c * P.x * Q.x * P.y * Q.y))) % prm
 hx := Int.emod_emod _ _
 hy := Int.emod_emod _ _
 on := ed_closed hc P.on Q.on (quot_spec (ed_plus hc P.on Q.on)) (quot_spec (ed_minus hc P.on Q.on))
theorem EP.add_x (P Q : EP c) : Zp ((EP.add hc P Q).x * (1 + (c * P.x * Q.x * P.y * Q.y)) - (P.x * Q.y + P.y * Q.x)) := quot_spec (ed_plus hc P.on Q.on)
theorem EP.add_y (P Q : EP c) : Zp ((EP.add hc P Q).y * (1 - (c * P.x * Q.x * P.y * Q.y)) - (P.y * Q.y - P.x * Q.x)) := quot_spec (ed_minus hc P.on Q.on)
theorem EP.add_is {P Q R : EP c} (h1 : Zp (R.x * (1 + (c * P.x * Q.x * P.y * Q.y)) - (P.x * Q.y + P.y * Q.x))) (h2 : Zp (R.y * (1 - (c * P.x * Q.x * P.y * Q.y)) - (P.y * Q.y - P.x * Q.x))) : EP.add hc P Q = R := by
 have a1 := EP.add_x hc P Q
 have a2 := EP.add_y hc P Q
 refine EP.eq (zp_cancel (zp_lin2 1 (-1) a1 h1 ?_) (ed_plus hc P.on Q.on)) (zp_cancel (zp_lin2 1 (-1) a2 h2 ?_) (ed_minus hc P.on Q.on)) <;> grind
theorem EP.add_comm (P Q : EP c) : EP.add hc P Q = EP.add hc Q P :=
 EP.add_is hc (zp_lin1 1 (EP.add_x hc Q P) (by grind)) (zp_lin1 1 (EP.add_y hc Q P) (by grind))
def EP.zero : EP c := ⟨0, 1, by decide, by decide, zp_lin1 0 zp_zero (by grind)⟩
theorem EP.add_zero (P : EP c) : EP.add hc P EP.zero = P :=
 EP.add_is hc (zp_lin1 0 zp_zero (by simp only [EP.zero]; grind)) (zp_lin1 0 zp_zero (by simp only [EP.zero]; grind))
theorem EP.add_assoc (P Q R : EP c) : EP.add hc (EP.add hc P Q) R = EP.add hc P (EP.add hc Q R) := by
 have ax := EP.add_x hc P Q
 have ay := EP.add_y hc P Q
 have bx := EP.add_x hc Q R
 have by' := EP.add_y hc Q R
 have lx := EP.add_x hc (EP.add hc P Q) R
 have ly := EP.add_y hc (EP.add hc P Q) R
 have rx := EP.add_x hc P (EP.add hc Q R)
 have ry := EP.add_y hc P (EP.add hc Q R)
 have d1 := ed_plus hc P.on Q.on
 have d2 := ed_minus hc P.on Q.on
 have d3 := ed_plus hc Q.on R.on
 have d4 := ed_minus hc Q.on R.on
 have f1 := ed_plus hc (EP.add hc P Q).on R.on
 have f2 := ed_minus hc (EP.add hc P Q).on R.on
 have f3 := ed_plus hc P.on (EP.add hc Q R).on
 have f4 := ed_minus hc P.on (EP.add hc Q R).on
 have kx := ed_assoc_x P.on Q.on R.on
 have ky := ed_assoc_y P.on Q.on R.on
 apply EP.eq
 ·generalize (EP.add hc (EP.add hc P Q) R).x = xL at *
  generalize (EP.add hc P (EP.add hc Q R)).x = xR at *
  generalize (EP.add hc P Q).x = xa at *
  generalize (EP.add hc P Q).y = ya at *
  generalize (EP.add hc Q R).x = xb at *
  generalize (EP.add hc Q R).y = yb at *
  exact as_x ax ay bx by' lx rx d1 d2 d3 d4 f1 f3 kx
 ·generalize (EP.add hc (EP.add hc P Q) R).y = yL at *
  generalize (EP.add hc P (EP.add hc Q R)).y = yR at *
  generalize (EP.add hc P Q).x = xa at *
  generalize (EP.add hc P Q).y = ya at *
  generalize (EP.add hc Q R).x = xb at *
  generalize (EP.add hc Q R).y = yb at *
  exact as_y ax ay bx by' ly ry d1 d2 d3 d4 f2 f4 ky
def EP.mul : Nat → EP c → EP c
 | 0, _ => EP.zero
 | n + 1, P => EP.add hc (EP.mul n P) P
theorem EP.mul_add (m n : Nat) (P : EP c) : EP.mul hc (m + n) P = EP.add hc (EP.mul hc m P) (EP.mul hc n P) := by
 induction n with
 | zero => exact (EP.add_zero hc _).symm
 | succ n ih => rw [← Nat.add_assoc, EP.mul, EP.mul, ih, EP.add_assoc]
theorem EP.mul_mul (m n : Nat) (P : EP c) : EP.mul hc m (EP.mul hc n P) = EP.mul hc (m * n) P := by
 induction m with
 | zero => rw [Nat.zero_mul]; rfl
 | succ m ih => rw [EP.mul, ih, Nat.succ_mul, EP.mul_add]
theorem EP.mul_one (P : EP c) : EP.mul hc 1 P = P := by
 rw [EP.mul, EP.mul, EP.add_comm, EP.add_zero]
theorem EP.mul_zero_pt (m : Nat) : EP.mul hc m (EP.zero : EP c) = EP.zero := by
 induction m with
 | zero => rfl
 | succ m ih => rw [EP.mul, ih, EP.add_zero]
end
end Go.Proofs.YtdcpcdkbhgkmlaaDoor
namespace Go.Proofs.YtdcpcdkbhgkmlaaDoor
set_option maxRecDepth 100000
structure Rg where
 a : Int
 b : Int
 c : Int
 d : Int
def stp (x : Int) (s : Rg) : Rg :=
 let e := (s.a + s.b) % prm
 let f := (s.a - s.b) % prm
 let g := (s.c + s.d) % prm
 let h := (s.c - s.d) % prm
 let y := e * e % prm
 let z := f * f % prm
 let r := (y - z) % prm
 let m := h * e % prm
 let n := g * f % prm
 ⟨y * z % prm, r * ((y + 121665 * r % prm) % prm) % prm, ((m + n) % prm) * ((m + n) % prm) % prm, x * (((m - n) % prm) * ((m - n) % prm) % prm) % prm⟩
def trn (on : Bool) (s : Rg) : Rg := if on then ⟨s.c, s.d, s.a, s.b⟩ else s
def rnd (x : Int) (on : Bool) (s : Rg) : Rg := trn on (stp x (trn on s))
def bt (S : Int) (t : Nat) : Bool := decide (S / 2 ^ t % 2 = 1)
end Go.Proofs.YtdcpcdkbhgkmlaaDoor
namespace Go.Proofs.YtdcpcdkbhgkmlaaDoor
set_option maxRecDepth 100000
def Rep (s : Int) {c : Int} (P : EP c) (a b : Int) : Prop := ¬ (Zp a ∧ Zp b) ∧ Zp (a * (1 - P.y) - s * b * (1 + P.y))
theorem Rep.congr {s c : Int} {P : EP c} {a b a' b' : Int} (h : Rep s P a b) (ha : Zp (a' - a)) (hb : Zp (b' - b)) : Rep s P a' b' := by
 obtain ⟨hn, hr⟩ := h
 refine ⟨fun ⟨q1, q2⟩ => hn ⟨zp_lin2 1 (-1) q1 ha (by grind), zp_lin2 1 (-1) q2 hb (by grind)⟩, ?_⟩
 generalize P.y = y at *
 exact zp_lin3 1 (1 - y) (-(s * (1 + y))) hr ha hb (by grind)
end Go.Proofs.YtdcpcdkbhgkmlaaDoor
namespace Go.Proofs.YtdcpcdkbhgkmlaaDoor
set_option maxRecDepth 100000
def Val {c : Int} (s : Int) (P : EP c) (r : Int) : Prop := (0 ≤ r ∧ r < prm) ∧ (Zp (1 - P.y) → r = 0) ∧ (¬ Zp (1 - P.y) → Zp (r * (1 - P.y) - s * (1 + P.y)))
theorem Val.inj {s c : Int} {P : EP c} {r q : Int} (h : Val s P r) (g : Val s P q) : r = q := by
 by_cases e : Zp (1 - P.y)
 ·rw [h.2.1 e, g.2.1 e]
 ·have h1 := h.2.2 e
  have h2 := g.2.2 e
  have : Zp (r - q) := zp_cancel (a := 1 - P.y) (zp_lin2 1 (-1) h1 h2 (by grind)) e
  have := zp_sub.1 this
  rwa [Int.emod_eq_of_lt h.1.1 h.1.2, Int.emod_eq_of_lt g.1.1 g.1.2] at this
end Go.Proofs.YtdcpcdkbhgkmlaaDoor
namespace Go.Proofs.YtdcpcdkbhgkmlaaDoor
set_option maxRecDepth 100000
def sA : Int := 9094040566125962849133224048217411091405536248825867518642941381412595940312
def ec1 : Int := 20800338683988658368647408995589388737092878452977063003340006470870624536394
theorem sA_sq : Zp (sA * sA - 486664) := by unfold Zp; decide +kernel
theorem ec1_eq : Zp (121666 * ec1 - 121665) := by unfold Zp; decide +kernel
theorem half_486660 : (486660 : Int) ^ 28948022309329048855892746252171976963317496166410141009864396001978282409974 % prm = -1 % prm := by
 rw [pow_nat (m := 486660) (by decide)]
 have : pwf 256 57896044618658097711785492504343953926634992332820282019728792003956564819949 486660 28948022309329048855892746252171976963317496166410141009864396001978282409974 = 57896044618658097711785492504343953926634992332820282019728792003956564819948 := by decide +kernel
 rw [pwf_eq _ _ _ _ (by decide)] at this
 rw [this]; decide
theorem rok_486660 : rok 486660 = false := by
 cases h : rok 486660
 ·rfl
 ·rcases (rok_half 486660).1 h with q | q
  ·exact absurd q (by decide)
  ·rw [half_486660] at q; exact absurd q (by decide)
theorem nonsq_of {c : Int} (h : rok c = false) : NonSq c := fun r hr => by
 have e : rok (r * r) = rok c := rok_c (zp_sub.1 hr)
 rw [rok_sq, h] at e
 cases e
theorem nsq_A : NonSq 486660 := nonsq_of rok_486660
theorem nsq_1 : NonSq ec1 := fun r hr => by
 have h1 := sA_sq
 have h2 := ec1_eq
 generalize sA = q at *
 generalize ec1 = c at *
 exact nsq_A (r * q) (zp_lin3 (q * q) c 4 hr h1 h2 (by grind))
end Go.Proofs.YtdcpcdkbhgkmlaaDoor
namespace Go.Proofs.YtdcpcdkbhgkmlaaDoor
set_option maxRecDepth 100000
theorem q2 : Pr 2 := trial 2 0 (by decide) (by decide +kernel) (by decide)
section
variable {c : Int} (hc : NonSq c)
theorem EP.mul_mod {P : EP c} {m n : Nat} (hm : EP.mul hc m P = EP.zero) (hn : EP.mul hc n P = EP.zero) : EP.mul hc (n % m) P = EP.zero := by
 have e : n = n / m * m + n % m := by rw [Nat.mul_comm]; exact (Nat.div_add_mod n m).symm
 rw [e, EP.mul_add, ← EP.mul_mul, hm, EP.mul_zero_pt, EP.add_comm, EP.add_zero] at hn
 exact hn
end
end Go.Proofs.YtdcpcdkbhgkmlaaDoor
namespace Go.Proofs.YtdcpcdkbhgkmlaaDoor
set_option maxRecDepth 100000
/-! Numbers modulo the order, in four words. -/
def L19 : Int := 7237005577332262213973186563042994240857116359379907606001950938285454250989
def wd (n : Int) : Array Value := #[.int .u64 (n % 18446744073709551616), .int .u64 (n / 18446744073709551616 % 18446744073709551616), .int .u64 (n / 340282366920938463463374607431768211456 % 18446744073709551616), .int .u64 (n / 6277101735386680763835789423207666416102355444464034512896 % 18446744073709551616)]
def w4 (a b c d : Int) : Int := a + 18446744073709551616 * b + 340282366920938463463374607431768211456 * c + 6277101735386680763835789423207666416102355444464034512896 * d
theorem wd_size (n : Int) : (wd n).size = 4 := rfl
theorem wd_one (n : Int) : (wd n).all (·.oneCell') = true := by kernel_rfl
theorem wd_w4 {a b c d : Int} (ha : 0 ≤ a ∧ a < 18446744073709551616) (hb : 0 ≤ b ∧ b < 18446744073709551616) (hc : 0 ≤ c ∧ c < 18446744073709551616) (hd : 0 ≤ d ∧ d < 18446744073709551616) : wd (w4 a b c d) = #[.int .u64 a, .int .u64 b, .int .u64 c, .int .u64 d] := by
 unfold wd
 rw [show w4 a b c d % 18446744073709551616 = a by unfold w4; omega, show w4 a b c d / 18446744073709551616 % 18446744073709551616 = b by unfold w4; omega, show w4 a b c d / 340282366920938463463374607431768211456 % 18446744073709551616 = c by unfold w4; omega, show w4 a b c d / 6277101735386680763835789423207666416102355444464034512896 % 18446744073709551616 = d by unfold w4; omega]
theorem w4_of {n : Int} (h0 : 0 ≤ n) (h1 : n < 115792089237316195423570985008687907853269984665640564039457584007913129639936) : ∃ a b c d, n = w4 a b c d ∧ (0 ≤ a ∧ a < 18446744073709551616) ∧ (0 ≤ b ∧ b < 18446744073709551616) ∧ (0 ≤ c ∧ c < 18446744073709551616) ∧ (0 ≤ d ∧ d < 18446744073709551616) :=
 ⟨n % 18446744073709551616, n / 18446744073709551616 % 18446744073709551616, n / 340282366920938463463374607431768211456 % 18446744073709551616, n / 6277101735386680763835789423207666416102355444464034512896 % 18446744073709551616, by unfold w4; omega, by omega, by omega, by omega, by omega⟩
theorem plus_w {a0 a1 a2 a3 b0 b1 b2 b3 s0 s1 s2 s3 c1 c2 c3 c4 : Int} (h0 : s0 + 18446744073709551616 * c1 = a0 + b0) (h1 : s1 + 18446744073709551616 * c2 = a1 + b1 + c1) (h2 : s2 + 18446744073709551616 * c3 = a2 + b2 + c2) (h3 : s3 + 18446744073709551616 * c4 = a3 + b3 + c3)
 (q0 : 0 ≤ s0 ∧ s0 < 18446744073709551616) (q1 : 0 ≤ s1 ∧ s1 < 18446744073709551616) (q2 : 0 ≤ s2 ∧ s2 < 18446744073709551616) (q3 : 0 ≤ s3 ∧ s3 < 18446744073709551616) :
 w4 s0 s1 s2 s3 = (w4 a0 a1 a2 a3 + w4 b0 b1 b2 b3) % 115792089237316195423570985008687907853269984665640564039457584007913129639936 ∧ c4 = (w4 a0 a1 a2 a3 + w4 b0 b1 b2 b3) / 115792089237316195423570985008687907853269984665640564039457584007913129639936 := by
 have e : w4 a0 a1 a2 a3 + w4 b0 b1 b2 b3 = w4 s0 s1 s2 s3 + 115792089237316195423570985008687907853269984665640564039457584007913129639936 * c4 := by unfold w4; omega
 have b : 0 ≤ w4 s0 s1 s2 s3 ∧ w4 s0 s1 s2 s3 < 115792089237316195423570985008687907853269984665640564039457584007913129639936 := by unfold w4; omega
 rw [e]
 omega
theorem minus_w {a0 a1 a2 a3 b0 b1 b2 b3 s0 s1 s2 s3 c1 c2 c3 c4 : Int} (h0 : s0 - 18446744073709551616 * c1 = a0 - b0) (h1 : s1 - 18446744073709551616 * c2 = a1 - b1 - c1) (h2 : s2 - 18446744073709551616 * c3 = a2 - b2 - c2) (h3 : s3 - 18446744073709551616 * c4 = a3 - b3 - c3)
 (q0 : 0 ≤ s0 ∧ s0 < 18446744073709551616) (q1 : 0 ≤ s1 ∧ s1 < 18446744073709551616) (q2 : 0 ≤ s2 ∧ s2 < 18446744073709551616) (q3 : 0 ≤ s3 ∧ s3 < 18446744073709551616) :
 w4 s0 s1 s2 s3 = (w4 a0 a1 a2 a3 - w4 b0 b1 b2 b3) % 115792089237316195423570985008687907853269984665640564039457584007913129639936 ∧ c4 = -((w4 a0 a1 a2 a3 - w4 b0 b1 b2 b3) / 115792089237316195423570985008687907853269984665640564039457584007913129639936) := by
 have e : w4 a0 a1 a2 a3 - w4 b0 b1 b2 b3 = w4 s0 s1 s2 s3 - 115792089237316195423570985008687907853269984665640564039457584007913129639936 * c4 := by unfold w4; omega
 have b : 0 ≤ w4 s0 s1 s2 s3 ∧ w4 s0 s1 s2 s3 < 115792089237316195423570985008687907853269984665640564039457584007913129639936 := by unfold w4; omega
 rw [e]
 omega
theorem times_w {a0 a1 a2 a3 m s0 s1 s2 s3 c1 c2 c3 c4 : Int} (h0 : s0 + 18446744073709551616 * c1 = a0 * m) (h1 : s1 + 18446744073709551616 * c2 = a1 * m + c1) (h2 : s2 + 18446744073709551616 * c3 = a2 * m + c2) (h3 : s3 + 18446744073709551616 * c4 = a3 * m + c3)
 (q0 : 0 ≤ s0 ∧ s0 < 18446744073709551616) (q1 : 0 ≤ s1 ∧ s1 < 18446744073709551616) (q2 : 0 ≤ s2 ∧ s2 < 18446744073709551616) (q3 : 0 ≤ s3 ∧ s3 < 18446744073709551616) :
 w4 s0 s1 s2 s3 = w4 a0 a1 a2 a3 * m % 115792089237316195423570985008687907853269984665640564039457584007913129639936 ∧ c4 = w4 a0 a1 a2 a3 * m / 115792089237316195423570985008687907853269984665640564039457584007913129639936 := by
 have e : w4 a0 a1 a2 a3 * m = w4 s0 s1 s2 s3 + 115792089237316195423570985008687907853269984665640564039457584007913129639936 * c4 := by
  unfold w4
  have : (a0 + 18446744073709551616 * a1 + 340282366920938463463374607431768211456 * a2 + 6277101735386680763835789423207666416102355444464034512896 * a3) * m = a0 * m + 18446744073709551616 * (a1 * m) + 340282366920938463463374607431768211456 * (a2 * m) + 6277101735386680763835789423207666416102355444464034512896 * (a3 * m) := by grind
  rw [this]
  generalize a0 * m = p0 at *
  generalize a1 * m = p1 at *
  generalize a2 * m = p2 at *
  generalize a3 * m = p3 at *
  omega
 have b : 0 ≤ w4 s0 s1 s2 s3 ∧ w4 s0 s1 s2 s3 < 115792089237316195423570985008687907853269984665640564039457584007913129639936 := by unfold w4; omega
 rw [e]
 omega
theorem next_w {r a m : Int} (hr : 0 ≤ r ∧ r < L19) (_ha : 0 ≤ a ∧ a < L19) (_hm : 0 ≤ m ∧ m < 256) {V q : Int} (hV : V = 256 * r + m * a) (hq : q = V / 7237005577332262213973186563042994240829374041602535252466099000494570602496) (hb : 0 ≤ m * a ∧ m * a ≤ 255 * (L19 - 1)) :
 (0 ≤ q ∧ q < 1024) ∧ V / 115792089237316195423570985008687907853269984665640564039457584007913129639936 = q * L19 / 115792089237316195423570985008687907853269984665640564039457584007913129639936 ∧ ((0 ≤ V - q * L19 ∧ V - q * L19 = V % L19) ∨ (V - q * L19 < 0 ∧ V - q * L19 + L19 = V % L19)) := by
 unfold L19 at *
 subst hV
 generalize m * a = p at *
 subst hq
 omega
end Go.Proofs.YtdcpcdkbhgkmlaaDoor
namespace Go.Proofs.YtdcpcdkbhgkmlaaDoor
set_option maxRecDepth 100000
open Go Go.RowKit Go.Sort
def ovw : Array Value → Nat → List Value → Array Value
 | cs, _, [] => cs
 | cs, o, v :: r => ovw (cs.setIfInBounds o v) (o + 1) r
theorem world_eq {w v : World} (h : w.heap = v.heap) (h1 : w.tape = v.tape) (h2 : w.drawn = v.drawn) (h3 : w.os = v.os) (h4 : w.output = v.output) : w = v := by
 cases w; cases v; simp_all
theorem setRow_same {w : World} {g : Nat} {cs : Array Value} {t : TypeId} {fr : Nat × Nat} (h : w.heap[g]? = some (.cells cs t fr)) : w.setRow g cs = w := by
 refine world_eq ?_ rfl rfl rfl rfl
 apply Array.ext_getElem?
 intro k
 by_cases hk : k = g
 ·subst hk; rw [setRow_heap w k cs cs t fr h, h]
 ·rw [setRow_other w g k cs hk]
theorem setRow_setRow {w : World} {g : Nat} {cs : Array Value} {t : TypeId} {fr : Nat × Nat} (h : w.heap[g]? = some (.cells cs t fr)) (a b : Array Value) : (w.setRow g a).setRow g b = w.setRow g b := by
 refine world_eq ?_ rfl rfl rfl rfl
 apply Array.ext_getElem?
 intro k
 by_cases hk : k = g
 ·subst hk; rw [setRow_heap _ k a b t fr (setRow_heap w k cs a t fr h), setRow_heap w k cs b t fr h]
 ·rw [setRow_other _ g k b hk, setRow_other w g k a hk, setRow_other w g k b hk]
theorem setCells_eq {g : Nat} {t : TypeId} {fr : Nat × Nat} : ∀ (vs : List Value) (o : Nat) (w : World) (cs : Array Value), w.heap[g]? = some (.cells cs t fr) → w.setCells g o vs = w.setRow g (ovw cs o vs)
 | [], _, w, cs, h => (setRow_same h).symm
 | v :: r, o, w, cs, h => by
  have h1 : w.setCell ⟨g, o, none⟩ v = w.setRow g (cs.setIfInBounds o v) := setCell_eq_setRow w g o cs t fr v h
  rw [World.setCells, h1, setCells_eq r (o + 1) _ (cs.setIfInBounds o v) (setRow_heap w g cs _ t fr h), setRow_setRow h]
  rfl
theorem there_row {w : World} {g : Nat} {cs : Array Value} {t : TypeId} (h : w.heap[g]? = some (.cells cs t (0, 0))) {o n : Nat} (hn : o + n ≤ cs.size) : w.there g o n := by
 intro j hj
 refine ⟨?_, ?_⟩
 ·rw [cell_of_row w g (o + j) cs t (0, 0) h, Array.getElem?_eq_getElem (by omega)]; rfl
 ·simp [World.frozen?, h]
theorem wpList_load_part {P : Program} {ops : Array Oper} {rest : List Oper} {o : Oper} {a : Act} {w : World} {Q : Exit → Act → World → Prop} (hw : Region.wanted o (yielded ops a.tmps) = true) (ty : TypeId) (x : Operand) (ho : o.op = .load ty x)
 (g off : Nat) (hx : a.eval x = .pointer (some ⟨g, off, none⟩)) (t : TypeId) (cs : Array Value) (fr : Nat × Nat) (part : Array Value) (d : TypeDesc) (hg : w.heap[g]? = some (.cells cs t fr)) (hp : cs.extract off (off + part.size) = part)
 (hu : P.underlying ty = some d) (hd : d.isRow = true) (hi : (P.info? ty).map (·.size) = some part.size)
 (h : wpList P ops Q rest (a.put o.dst (.agg part)) w) : wpList P ops Q (o :: rest) a w := by
 refine BigFrame.wpList_want hw fun _ hK => ?_
 have hr := World.rangeAt_of_block hg off part.size
 rw [hp] at hr
 exact wp_load_mid ty x ho g off hx part.toList d hr hu hd (by simpa using hi) (hK _ _ (by simpa using h))
theorem wpQuiet_build {P : Program} {C : World → Prop} {ops : Array Oper} {Q : Act → Prop} {a : Act} {o : Oper} {rest : List Oper} (hw : Region.wanted o (yielded ops a.tmps) = true) (t : TypeId) (parts : Array (Nat × Operand)) (ho : o.op = .build t parts)
 (vals : List (Nat × Value)) (hv : parts.toList.map (fun (i, x) => (i, a.eval x)) = vals) (cells : Array Value) (hb : P.built t vals = some cells)
 (h : wpQuiet P ops C Q rest (a.put o.dst (.agg cells))) : wpQuiet P ops C Q (o :: rest) a := by
 rw [← Array.toList_map] at hv
 subst hv
 refine BigFrame.wpQuiet_want hw fun K hK => ⟨.agg cells, fun w hw => ?_, hK _ h⟩
 unfold Oper.quietAt execOp
 simp only [ho, Sem.run_bind, run_build w t _ cells hb, Result.andThen_ok]
 exact ⟨rfl, rfl⟩
theorem wpList_build_as {P : Program} {ops : Array Oper} {rest : List Oper} {o : Oper} {a : Act} {w : World} {Q : Exit → Act → World → Prop} (hg : o.guard = none) (t : TypeId) (parts : Array (Nat × Operand)) (ho : o.op = .build t parts)
 (vals : List (Nat × Value)) (hv : parts.toList.map (fun (i, x) => (i, a.eval x)) = vals) (cells : Array Value) (hb : P.built t vals = some cells)
 (h : wpList P ops Q rest (a.put o.dst (.agg cells)) w) : wpList P ops Q (o :: rest) a w := by
 rw [← Array.toList_map] at hv
 subst hv
 refine wpList_build hg t parts ho (by rw [hb]; rfl) ?_
 rw [hb]
 exact h
def r4 (a b c d : Array Value) : Array Value := (a.toList ++ (b.toList ++ (c.toList ++ d.toList))).toArray
theorem r4_size (a b c d : Array Value) : (r4 a b c d).size = a.size + (b.size + (c.size + d.size)) := by simp [r4]
theorem r4_one {a b c d : Array Value} (ha : a.all (·.oneCell') = true) (hb : b.all (·.oneCell') = true) (hc : c.all (·.oneCell') = true) (hd : d.all (·.oneCell') = true) : (r4 a b c d).all (·.oneCell') = true := by
 simp only [Array.all_eq_true_iff_forall_mem] at *
 intro v hv
 simp only [r4, List.mem_toArray, List.mem_append, Array.mem_toList_iff] at hv
 rcases hv with h | h | h | h
 ·exact ha v h
 ·exact hb v h
 ·exact hc v h
 ·exact hd v h
end Go.Proofs.YtdcpcdkbhgkmlaaDoor
namespace Go.Proofs.YtdcpcdkbhgkmlaaDoor
set_option maxRecDepth 100000
open Go.RowKit Go.Sort
attribute [local go_sem] setCell_drewN alloc_drewN
theorem ex1e {f : FuncId} {args : Array Value} {w : World} {v : Value} {Bp : World → Prop} (h : Calls Tryd.prog f args w fun e w' => e = .returned v ∧ Bp w') : Calls Tryd.prog f args w fun e w' => ∃ v', e = .returned v' ∧ v' = v ∧ Bp w' := h.mono fun _ _ ⟨a, b⟩ => ⟨v, a, rfl, b⟩
theorem all_rowe (cs : Array Value) : cs.extract 0 (0 + cs.size) = cs := by simp
section
variable {P : Program} {ops : Array Oper} {Q : Exit → Act → World → Prop} {md : Region.Mode} {S : World → Prop}
theorem eH_one {k : Nat} {o : Oper} {fuel : Nat} {listed : Array Bool} {a : Act} {w : World} (hr : Region.ready md ops listed = [k]) (hi : ops[k]? = some o) (hw : Region.wanted o (yielded ops a.tmps) = true)
 (h : ∀ K : Act → World → Prop, (∀ a' w', S w' → wpAnyH P md ops Q S fuel (listed.setIfInBounds k true) a' w' → K a' w') → o.wp P a w K Q) : wpAnyH P md ops Q S (fuel + 1) listed a w := by
 refine wpAnyH_all hr (by simp) (fun i hi' => ?_)
 obtain rfl : i = k := by simpa using hi'
 unfold wpOp
 simp only [hi, hw, if_true]
 exact .inl (h _ (fun a' w' hS hn => ⟨hS, hn⟩))
theorem eH_two {j k : Nat} {oj ok : Oper} {fuel : Nat} {listed : Array Bool} {a : Act} {w : World} (hr : Region.ready md ops listed = [j, k]) (hj : ops[j]? = some oj) (hk : ops[k]? = some ok) (wj : Region.wanted oj (yielded ops a.tmps) = true) (wk : Region.wanted ok (yielded ops a.tmps) = true)
 (h1 : ∀ K : Act → World → Prop, (∀ a' w', S w' → wpAnyH P md ops Q S fuel (listed.setIfInBounds j true) a' w' → K a' w') → oj.wp P a w K Q)
 (h2 : ∀ K : Act → World → Prop, (∀ a' w', S w' → wpAnyH P md ops Q S fuel (listed.setIfInBounds k true) a' w' → K a' w') → ok.wp P a w K Q) : wpAnyH P md ops Q S (fuel + 1) listed a w := by
 refine wpAnyH_all hr (by simp) (fun i hi' => ?_)
 obtain rfl | rfl : i = j ∨ i = k := by simpa using hi'
 ·unfold wpOp
  simp only [hj, wj, if_true]
  exact .inl (h1 _ (fun a' w' hS hn => ⟨hS, hn⟩))
 ·unfold wpOp
  simp only [hk, wk, if_true]
  exact .inl (h2 _ (fun a' w' hS hn => ⟨hS, hn⟩))
theorem e_load_part {o : Oper} {a : Act} {w : World} (ty : TypeId) (x : Operand) (ho : o.op = .load ty x) (g off : Nat) (hx : a.eval x = .pointer (some ⟨g, off, none⟩)) (t : TypeId) (cs : Array Value) (fr : Nat × Nat) (part : Array Value) (d : TypeDesc) (hg : w.heap[g]? = some (.cells cs t fr)) (hp : cs.extract off (off + part.size) = part)
 (hu : P.underlying ty = some d) (hd : d.isRow = true) (hi : (P.info? ty).map (·.size) = some part.size) : (execOp a.eval o).run P w = .ok (.value (.agg part)) w := by
 have hr := World.rangeAt_of_block hg off part.size
 rw [hp] at hr
 have hl := run_loadVar_mid (P := P) w g off ty part.toList d hr hu hd (by simpa using hi)
 unfold execOp
 simp only [ho, hx, Instr.loadAt, Instr.sureAddr, Sem.run_bind, Sem.run_pure, Result.andThen_ok, hl]
end
section
variable {P : Program} {ops : Array Oper} {Q : Exit → Act → World → Prop} {md : Region.Mode} {S : World → Prop}
end
end Go.Proofs.YtdcpcdkbhgkmlaaDoor
namespace Go.Proofs.YtdcpcdkbhgkmlaaDoor
set_option maxRecDepth 100000
/-! The curve of layer 19: -x^2 + y^2 = 1 + d x^2 y^2 with d = - ec1, as an Edwards curve whose x is ii times as much. -/
def ii : Int := 19681161376707505956807079304988542015446066515923890162744021073123829784752
theorem ii_sq : Zp (ii * ii + 1) := by unfold Zp; decide +kernel
abbrev E1 := EP ec1
def tx (P : E1) : Int := -(ii * P.x) % prm
theorem tx_ii (P : E1) : Zp (tx P + ii * P.x) := zp_lin1 1 (zp_emod (-(ii * P.x))) (by unfold tx; grind)
theorem x_tx (P : E1) : Zp (P.x - ii * tx P) := by
 have h1 := tx_ii P
 have h2 := ii_sq
 generalize tx P = t at *
 generalize ii = i at *
 exact zp_lin2 (-i) P.x h1 h2 (by grind)
def pl (P Q : E1) : E1 := EP.add nsq_1 P Q
def Sp (P : E1) (X Y Z T : Int) : Prop := ¬ Zp Z ∧ Zp (X - Z * tx P) ∧ Zp (Y - Z * P.y) ∧ Zp (T - Z * (tx P * P.y))
theorem E1.eq {P Q : E1} (h1 : Zp (tx P - tx Q)) (h2 : Zp (P.y - Q.y)) : P = Q := by
 refine EP.eq ?_ h2
 have a := x_tx P
 have b := x_tx Q
 generalize tx P = t at *; generalize tx Q = u at *; generalize ii = i at *
 exact zp_lin3 1 (-1) i a b h1 (by grind)
end Go.Proofs.YtdcpcdkbhgkmlaaDoor
namespace Go.Proofs.YtdcpcdkbhgkmlaaDoor
set_option maxRecDepth 100000
def qy (y : Int) : Int := (y * y - 1) * iv (1 - ec1 * (y * y))
def has (y : Int) (odd : Bool) : Bool := rok (qy y) && !(decide (rval (qy y) % prm = 0) && odd)
open Classical in
def ml (n : Nat) (P : E1) : E1 := EP.mul nsq_1 n P
theorem ml_one (P : E1) : ml 1 P = P := EP.mul_one nsq_1 P
theorem ml_add (m n : Nat) (P : E1) : ml (m + n) P = pl (ml m P) (ml n P) := EP.mul_add nsq_1 m n P
theorem ml_two (n : Nat) (P : E1) : pl (ml n P) (ml n P) = ml (2 * n) P := by rw [Nat.two_mul, ml_add]
end Go.Proofs.YtdcpcdkbhgkmlaaDoor
namespace Go.Proofs.YtdcpcdkbhgkmlaaDoor
set_option maxRecDepth 100000
open Go.RowKit Go.Sort
attribute [local go_sem] setCell_drewN alloc_drewN
theorem Tryd.infoU8 : ∃ i, Tryd.prog.info? 5 = some i := by
 cases h : Tryd.prog.info? 5 with
 | some i => exact ⟨i, rfl⟩
 | none => exact absurd (show (Tryd.prog.info? 5).isSome = true by kernel_rfl) (by rw [h]; decide)
theorem Tryd.cellsU8 : Tryd.prog.cellsOf 5 = 1 := by kernel_rfl
theorem keys_equal (x0 x1 x2 x3 x4 x5 x6 x7 x8 x9 x10 x11 x12 x13 x14 x15 x16 x17 x18 x19 x20 x21 x22 x23 x24 x25 x26 x27 x28 x29 x30 x31 y0 y1 y2 y3 y4 y5 y6 y7 y8 y9 y10 y11 y12 y13 y14 y15 y16 y17 y18 y19 y20 y21 y22 y23 y24 y25 y26 y27 y28 y29 y30 y31 : Int) (W : World) : (Op.equalIn 10000 23 (.agg #[.int .u8 x0, .int .u8 x1, .int .u8 x2, .int .u8 x3, .int .u8 x4, .int .u8 x5, .int .u8 x6, .int .u8 x7, .int .u8 x8, .int .u8 x9, .int .u8 x10, .int .u8 x11, .int .u8 x12, .int .u8 x13, .int .u8 x14, .int .u8 x15, .int .u8 x16, .int .u8 x17, .int .u8 x18, .int .u8 x19, .int .u8 x20, .int .u8 x21, .int .u8 x22, .int .u8 x23, .int .u8 x24, .int .u8 x25, .int .u8 x26, .int .u8 x27, .int .u8 x28, .int .u8 x29, .int .u8 x30, .int .u8 x31]) (.agg #[.int .u8 y0, .int .u8 y1, .int .u8 y2, .int .u8 y3, .int .u8 y4, .int .u8 y5, .int .u8 y6, .int .u8 y7, .int .u8 y8, .int .u8 y9, .int .u8 y10, .int .u8 y11, .int .u8 y12, .int .u8 y13, .int .u8 y14, .int .u8 y15, .int .u8 y16, .int .u8 y17, .int .u8 y18, .int .u8 y19, .int .u8 y20, .int .u8 y21, .int .u8 y22, .int .u8 y23, .int .u8 y24, .int .u8 y25, .int .u8 y26, .int .u8 y27, .int .u8 y28, .int .u8 y29, .int .u8 y30, .int .u8 y31])).run Tryd.prog W = .ok (decide ([x0, x1, x2, x3, x4, x5, x6, x7, x8, x9, x10, x11, x12, x13, x14, x15, x16, x17, x18, x19, x20, x21, x22, x23, x24, x25, x26, x27, x28, x29, x30, x31] = [y0, y1, y2, y3, y4, y5, y6, y7, y8, y9, y10, y11, y12, y13, y14, y15, y16, y17, y18, y19, y20, y21, y22, y23, y24, y25, y26, y27, y28, y29, y30, y31])) W := by
 obtain ⟨i0, hi⟩ := Tryd.infoU8
 exact run_equal_ints W Tryd.underlying23 Tryd.underlying5 hi Tryd.cellsU8 [x0, x1, x2, x3, x4, x5, x6, x7, x8, x9, x10, x11, x12, x13, x14, x15, x16, x17, x18, x19, x20, x21, x22, x23, x24, x25, x26, x27, x28, x29, x30, x31] [y0, y1, y2, y3, y4, y5, y6, y7, y8, y9, y10, y11, y12, y13, y14, y15, y16, y17, y18, y19, y20, y21, y22, y23, y24, y25, y26, y27, y28, y29, y30, y31] rfl rfl
end Go.Proofs.YtdcpcdkbhgkmlaaDoor
namespace Go.Proofs.YtdcpcdkbhgkmlaaDoor
set_option maxRecDepth 100000
open Go.RowKit Go.Sort
attribute [local go_sem] setCell_drewN alloc_drewN
end Go.Proofs.YtdcpcdkbhgkmlaaDoor
namespace Go.Proofs.YtdcpcdkbhgkmlaaDoor
set_option maxRecDepth 100000
open Go.RowKit Go.Sort
attribute [local go_sem] setCell_drewN alloc_drewN
set_option maxHeartbeats 1000000 in
theorem mul64_nat (x y : Nat) (hx : x < 18446744073709551616) (hy : y < 18446744073709551616) (w : World) :
 Calls Tryd.prog 102 #[.int .u64 x, .int .u64 y] w fun e w' => e = .returned (.tuple #[.int .u64 ((x * y / 18446744073709551616 : Nat) : Int), .int .u64 ((x * y % 18446744073709551616 : Nat) : Int)]) ∧ w' = w := by
 obtain ⟨bd, bt, bw, hhi⟩ := Lib.mul64_hi x y hx hy
 have ba := Lib.half_mul_le (a := x / 4294967296) (b := y / 4294967296) (by omega) (by omega)
 have bb := Lib.half_mul_le (a := x / 4294967296) (b := y % 4294967296) (by omega) (by omega)
 have bc := Lib.half_mul_le (a := x % 4294967296) (b := y / 4294967296) (by omega) (by omega)
 have ba' : x / 4294967296 * (y / 4294967296) < 18446744073709551616 := by omega
 have bb' : x / 4294967296 * (y % 4294967296) < 18446744073709551616 := by omega
 have bc' : x % 4294967296 * (y / 4294967296) < 18446744073709551616 := by omega
 have bh1 : x / 4294967296 * (y / 4294967296) + (x / 4294967296 * (y % 4294967296) + x % 4294967296 * (y % 4294967296) / 4294967296) / 4294967296 < 18446744073709551616 := by omega
 have bh : x / 4294967296 * (y / 4294967296) + (x / 4294967296 * (y % 4294967296) + x % 4294967296 * (y % 4294967296) / 4294967296) / 4294967296 + ((x / 4294967296 * (y % 4294967296) + x % 4294967296 * (y % 4294967296) / 4294967296) % 4294967296 + x % 4294967296 * (y / 4294967296)) / 4294967296 < 18446744073709551616 := by omega
 go_enter Tryd.func102, Tryd.ntmps102
 go_wp2
 simp only [Mul64.maskN x hx, Mul64.maskN y hy, Mul64.divN, Mul64.mulN, Mul64.addN, Mul64.wrapN _ bd, Mul64.wrapN _ bb', Mul64.wrapN _ bt, Mul64.maskN _ bt, Mul64.wrapN _ bc', Mul64.wrapN _ bw, Mul64.wrapN _ ba', Mul64.wrapN _ bh1, Mul64.wrapN _ bh, Mul64.wrapM (x * y)]
 rw [hhi]
 go_ret2
 exact ⟨rfl, rfl⟩
theorem mul64_any (x y : Int) (hx0 : 0 ≤ x) (hx : x < 18446744073709551616) (hy0 : 0 ≤ y) (hy : y < 18446744073709551616) (w : World) :
 Calls Tryd.prog 102 #[.int .u64 x, .int .u64 y] w fun e w' => e = .returned (.tuple #[.int .u64 (x * y / 18446744073709551616), .int .u64 (x * y % 18446744073709551616)]) ∧ w' = w := by
 obtain ⟨a, rfl⟩ := Int.eq_ofNat_of_zero_le hx0
 obtain ⟨b, rfl⟩ := Int.eq_ofNat_of_zero_le hy0
 have h := mul64_nat a b (by omega) (by omega) w
 simp only [Int.natCast_ediv, Int.natCast_emod, Int.natCast_mul] at h
 exact h
theorem add64_call (x y c : Int) (hx : 0 ≤ x) (hy : 0 ≤ y) (hc0 : 0 ≤ c) (hc : c ≤ 1) (W : World) : (callFunc 103 #[.int .u64 x, .int .u64 y, .int .u64 c]).run Tryd.prog W = .ok (.value (.tuple #[.int .u64 ((x + y + c) % 18446744073709551616), .int .u64 ((x + y + c) / 18446744073709551616)])) W := by
 rw [run_callFunc_extern (e := add64Entry) Tryd.func103 (by kernel_rfl) (by kernel_rfl) (by kernel_rfl) (by kernel_rfl), run_add64 x y c hx hy hc0 hc]
 rfl
end Go.Proofs.YtdcpcdkbhgkmlaaDoor
namespace Go.Proofs.YtdcpcdkbhgkmlaaDoor
set_option maxRecDepth 100000
open Go.RowKit Go.Sort
attribute [local go_sem] setCell_drewN alloc_drewN
end Go.Proofs.YtdcpcdkbhgkmlaaDoor
namespace Go.Proofs.YtdcpcdkbhgkmlaaDoor
set_option maxRecDepth 100000
open Go.RowKit Go.Sort
attribute [local go_sem] setCell_drewN alloc_drewN
end Go.Proofs.YtdcpcdkbhgkmlaaDoor
namespace Go.Proofs.YtdcpcdkbhgkmlaaDoor
set_option maxRecDepth 100000
open Go.RowKit Go.Sort
attribute [local go_sem] setCell_drewN alloc_drewN
end Go.Proofs.YtdcpcdkbhgkmlaaDoor
namespace Go.Proofs.YtdcpcdkbhgkmlaaDoor
set_option maxRecDepth 100000
open Go.RowKit Go.Sort
attribute [local go_sem] setCell_drewN alloc_drewN
end Go.Proofs.YtdcpcdkbhgkmlaaDoor
namespace Go.Proofs.YtdcpcdkbhgkmlaaDoor
set_option maxRecDepth 100000
open Go.RowKit Go.Sort
attribute [local go_sem] setCell_drewN alloc_drewN
structure Row (g : Nat → Int) (D : Array Value) : Prop where
 size : D.size = 16
 cell : ∀ i, i < 16 → D[i]? = some (.int .u64 (g i))
theorem Row.lit {g : Nat → Int} {D : Array Value} (h : Row g D) : D = #[.int .u64 (g 0), .int .u64 (g 1), .int .u64 (g 2), .int .u64 (g 3), .int .u64 (g 4), .int .u64 (g 5), .int .u64 (g 6), .int .u64 (g 7), .int .u64 (g 8), .int .u64 (g 9), .int .u64 (g 10), .int .u64 (g 11), .int .u64 (g 12), .int .u64 (g 13), .int .u64 (g 14), .int .u64 (g 15)] := by
 apply Array.ext_getElem?
 intro i
 by_cases hi : i < 16
 ·rw [h.cell i hi]
  rcases (by omega : i = 0 ∨ i = 1 ∨ i = 2 ∨ i = 3 ∨ i = 4 ∨ i = 5 ∨ i = 6 ∨ i = 7 ∨ i = 8 ∨ i = 9 ∨ i = 10 ∨ i = 11 ∨ i = 12 ∨ i = 13 ∨ i = 14 ∨ i = 15) with rfl | rfl | rfl | rfl | rfl | rfl | rfl | rfl | rfl | rfl | rfl | rfl | rfl | rfl | rfl | rfl <;> rfl
 ·rw [Array.getElem?_eq_none (by rw [h.size]; omega), Array.getElem?_eq_none (by simp; omega)]
theorem Row.zero : Row (fun _ => 0) #[.int .u64 0, .int .u64 0, .int .u64 0, .int .u64 0, .int .u64 0, .int .u64 0, .int .u64 0, .int .u64 0, .int .u64 0, .int .u64 0, .int .u64 0, .int .u64 0, .int .u64 0, .int .u64 0, .int .u64 0, .int .u64 0] := by
 refine ⟨rfl, fun i hi => ?_⟩
 rcases (by omega : i = 0 ∨ i = 1 ∨ i = 2 ∨ i = 3 ∨ i = 4 ∨ i = 5 ∨ i = 6 ∨ i = 7 ∨ i = 8 ∨ i = 9 ∨ i = 10 ∨ i = 11 ∨ i = 12 ∨ i = 13 ∨ i = 14 ∨ i = 15) with rfl | rfl | rfl | rfl | rfl | rfl | rfl | rfl | rfl | rfl | rfl | rfl | rfl | rfl | rfl | rfl <;> rfl
theorem Row.set {g : Nat → Int} {D : Array Value} (h : Row g D) (k : Nat) (v : Int) (hk : k < 16) : Row (upd g k v) (D.setIfInBounds k (.int .u64 (g k + v))) := by
 refine ⟨by simp [h.size], fun i hi => ?_⟩
 rw [Array.getElem?_setIfInBounds]
 by_cases e : k = i
 ·subst e; rw [if_pos rfl, if_pos (by rw [h.size]; exact hk)]; simp [upd]
 ·rw [if_neg e, h.cell i hi]; simp only [upd]; rw [if_neg (fun h => e h.symm)]
end Go.Proofs.YtdcpcdkbhgkmlaaDoor
namespace Go.Proofs.YtdcpcdkbhgkmlaaDoor
set_option maxRecDepth 100000
open Go.RowKit Go.Sort
attribute [local go_sem] setCell_drewN alloc_drewN
end Go.Proofs.YtdcpcdkbhgkmlaaDoor

