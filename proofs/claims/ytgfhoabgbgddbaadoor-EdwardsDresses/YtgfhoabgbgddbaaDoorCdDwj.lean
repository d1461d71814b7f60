import Derived.Test.YtgfhoabgbgddbaaDoorCdDwf
import Derived.Test.YtgfhoabgbgddbaaDoorCdDwi
import Derived.Test.YtgfhoabgbgddbaaDoorProg
import Derived.WalkKit
import Derived.WalkSpells
import Derived.WalkLawsBesides
import Derived.Lib.QuietBelow
import Derived.BigQuiet
import Derived.Test.YtgfhoabgbgddbaaDoorCdKa
import Derived.Test.YtgfhoabgbgddbaaDoorCdAb
import Derived.Test.YtgfhoabgbgddbaaDoorCdGs
namespace Go.Proofs.YtgfhoabgbgddbaaDoor
set_option maxRecDepth 100000
theorem zp_pow {a : Int} (h : Zp a) : ∀ n : Nat, n ≠ 0 → Zp (a ^ n)
 | 0, g => absurd rfl g
 | n + 1, _ => by rw [Int.pow_succ]; exact zp_mul _ h
theorem iv_zero {a : Int} (h : Zp a) : Zp (iv a) := zp_pow h _ (by decide)
theorem ux_val (Q : E1) : Val 1 Q (ux Q) := by
 refine ⟨⟨Int.emod_nonneg _ (by decide), Int.emod_lt_of_pos _ prm_pos⟩, fun h => ?_, fun h => ?_⟩
 ·exact zp_mul (1 + Q.y) (iv_zero h)
 ·have e := zp_emod ((1 + Q.y) * iv (1 - Q.y))
  have h2 := iv_mul h
  unfold ux
  generalize iv (1 - Q.y) = z at *
  generalize (1 + Q.y) * z % prm = u at *
  exact zp_lin2 (1 - Q.y) (1 + Q.y) e h2 (by grind)
theorem dr_q {X : Int} (h : ¬ Zp (X + 1)) : Zp (qy ((X - 1) * iv (X + 1)) * (X * X + 486662 * X + 1) + 486664 * X) := by
 have h1 := qy_spec ((X - 1) * iv (X + 1))
 have hz := iv_mul h
 have hc := ec1_eq
 generalize qy ((X - 1) * iv (X + 1)) = q at *
 generalize iv (X + 1) = z at *
 generalize ec1 = c at *
 exact zp_lin3 (121666 * ((X + 1) * (X + 1))) ((121666 * c * q + 121666) * ((X - 1) * (X - 1)) * ((X + 1) * z + 1)) (q * ((X - 1) * (X - 1))) h1 hz hc (by grind)
theorem dr_w : Zp (ii * sA * (ii * sA) + 486664) := by
 have a := ii_sq
 have b := sA_sq
 generalize ii = i at *
 generalize sA = r at *
 exact zp_lin2 (r * r) (-1) a b (by grind)
theorem ii_ne : ¬ Zp ii := by unfold Zp; decide +kernel
theorem n486664 : ¬ Zp 486664 := by unfold Zp; decide
theorem m_ne {X : Int} (nX : ¬ Zp X) : ¬ Zp (X * X + 486662 * X + 1) := fun h => fX_ne nX (by unfold fX; exact zp_mul X h)
theorem dr_rok {X : Int} (nX : ¬ Zp X) (h : ¬ Zp (X + 1)) : rok (qy ((X - 1) * iv (X + 1))) = rok (fX X) := by
 have hq := dr_q h
 have hw := dr_w
 have nw : ¬ Zp (ii * sA) := zp_ne_mul ii_ne sA_ne
 have nm := m_ne nX
 generalize qy ((X - 1) * iv (X + 1)) = q at *
 generalize ii * sA = w at *
 have ef : fX X = X * (X * X + 486662 * X + 1) := rfl
 rw [ef]
 generalize X * X + 486662 * X + 1 = m at *
 have h2 : Zp (q * (m * m) - w * w * (X * m)) := zp_lin2 m (-(X * m)) hq hw (by grind)
 have iw := iv_mul nw
 have im := iv_mul nm
 generalize iv w = wi at *
 generalize iv m = mi at *
 apply Bool.eq_iff_iff.2
 constructor
 ·intro hr
  have hs := zp_sub.2 (rval_sq hr)
  generalize rval q = r at *
  refine rok_of_sq (r := r * m * wi) ?_
  exact zp_lin3 (m * m * (wi * wi)) (wi * wi) (X * m * (w * wi + 1)) hs h2 iw (by grind)
 ·intro hr
  have hs := zp_sub.2 (rval_sq hr)
  generalize rval (X * m) = r at *
  refine rok_of_sq (r := w * r * mi) ?_
  exact zp_lin3 (w * w * (mi * mi)) (-(mi * mi)) (q * (m * mi + 1)) hs h2 im (by grind)
theorem dr_has {X : Int} (nX : ¬ Zp X) (h : ¬ Zp (X + 1)) (odd : Bool) : has ((X - 1) * iv (X + 1)) odd = rok (fX X) := by
 have hq := dr_q h
 have e := dr_rok nX h
 unfold has
 rw [e]
 cases hr : rok (fX X) with
 | false => rfl
 | true =>
  have hs := zp_sub.2 (rval_sq (e.trans hr))
  have hz : ¬ rval (qy ((X - 1) * iv (X + 1))) % prm = 0 := fun g => by
   have g' : Zp (rval (qy ((X - 1) * iv (X + 1)))) := g
   generalize rval (qy ((X - 1) * iv (X + 1))) = r at *
   generalize qy ((X - 1) * iv (X + 1)) = q at *
   generalize X * X + 486662 * X + 1 = m at *
   exact nX (zp_cancel (a := 486664) (zp_lin3 1 m (-(r * m)) hq hs g' (by grind)) n486664)
  rw [decide_eq_false hz]
  rfl
theorem dr_zero {X : Int} (h0 : Zp X) (odd : Bool) : has ((X - 1) * iv (X + 1)) odd = !odd := by
 have h : ¬ Zp (X + 1) := zp_cg (b := 1) (zp_lin1 1 h0 (by grind)) zp_one
 have hq := dr_q h
 have hz : Zp (qy ((X - 1) * iv (X + 1))) := by
  generalize qy ((X - 1) * iv (X + 1)) = q at *
  exact zp_lin2 1 (-(q * X + 486662 * q + 486664)) hq h0 (by grind)
 have hr : rok (qy ((X - 1) * iv (X + 1))) = true := rok_of_sq (r := 0) (zp_lin1 (-1) hz (by grind))
 have hs := zp_sub.2 (rval_sq hr)
 have hv : rval (qy ((X - 1) * iv (X + 1))) % prm = 0 := by
  have g : Zp (rval (qy ((X - 1) * iv (X + 1))) * rval (qy ((X - 1) * iv (X + 1)))) := by
   generalize rval (qy ((X - 1) * iv (X + 1))) = r at *
   exact zp_lin2 1 1 hs hz (by grind)
  exact (zp_or g).elim id id
 unfold has
 rw [hr, decide_eq_true hv]
 rfl
theorem dr_minus {X : Int} (h : Zp (X + 1)) : rok (fX X) = false := by
 rw [← Bool.not_eq_true]
 intro hr
 have hs := zp_sub.2 (rval_sq hr)
 generalize rval (fX X) = r at *
 refine nsq_A r ?_
 have e : fX X = X * (X * X + 486662 * X + 1) := rfl
 rw [e] at hs
 exact zp_lin2 1 (X * X + 486661 * X - 486660) hs h (by grind)
theorem cvn_fX' (X : Int) : cvn X % prm = fX X % prm := by
 have e : fX X = X * (X * X + 486662 * X + 1) := by unfold fX; grind
 rw [e]
 unfold cvn
 simp only [Int.emod_emod, Int.add_emod, Int.mul_emod]
theorem fX_cong {X Y : Int} (h : Zp (X - Y)) : Zp (fX X - fX Y) := by
 unfold fX
 exact zp_lin1 (X * X + X * Y + Y * Y + 486662 * (X + Y) + 1) h (by grind)
theorem num_zp (N : Int) : Zp (num N - N % 57896044618658097711785492504343953926634992332820282019728792003956564819968) := zp_emod _
theorem num_ne {N : Int} (h : num N ≠ 0) : ¬ Zp (N % 57896044618658097711785492504343953926634992332820282019728792003956564819968) := fun g => h g
theorem rok_num (N : Int) : rok (cvn (num N)) = rok (fX (N % 57896044618658097711785492504343953926634992332820282019728792003956564819968)) := rok_c ((cvn_fX' _).trans (zp_sub.1 (fX_cong (num_zp N))))
theorem dr_err {N : Int} (h : num N = 0) (odd : Bool) : (odd = true → le' N odd = 190 ∧ lp N odd = ze) ∧ (odd = false → le' N odd = 0) := by
 have h0 : Zp (N % 57896044618658097711785492504343953926634992332820282019728792003956564819968) := h
 have hh := dr_zero h0 odd
 have hz : ¬ (N % 57896044618658097711785492504343953926634992332820282019728792003956564819968 + 1) % prm = 0 := zp_cg (b := 1) (zp_lin1 1 h0 (by grind)) zp_one
 constructor
 ·rintro rfl; exact lift_no (.inr hh)
 ·rintro rfl; exact (lift_yes hz hh).1
theorem dr_off {N : Int} (h : num N ≠ 0) (odd : Bool) (hr : rok (cvn (num N)) = false) : le' N odd = 190 ∧ lp N odd = ze := by
 rw [rok_num] at hr
 by_cases hz : (N % 57896044618658097711785492504343953926634992332820282019728792003956564819968 + 1) % prm = 0
 ·exact lift_no (.inl hz)
 ·exact lift_no (.inr (by rw [dr_has (num_ne h) hz]; exact hr))
theorem dr_on {N : Int} (h : num N ≠ 0) (odd : Bool) (hr : rok (cvn (num N)) = true) : le' N odd = 0 ∧ ux (lp N odd) = num N ∧ tx (lp N odd) % 2 = od odd ∧ ∀ K : Int, ux (ml (clp K).toNat (lp N odd)) = scl K N := by
 rw [rok_num] at hr
 have hz : ¬ Zp (N % 57896044618658097711785492504343953926634992332820282019728792003956564819968 + 1) := fun g => by rw [dr_minus g] at hr; cases hr
 have hh : has ((N % 57896044618658097711785492504343953926634992332820282019728792003956564819968 - 1) * iv (N % 57896044618658097711785492504343953926634992332820282019728792003956564819968 + 1)) odd = true := by rw [dr_has (num_ne h) hz]; exact hr
 obtain ⟨e1, e2, e3⟩ := lift_yes hz hh
 obtain ⟨P, hy, hx, hp⟩ := has_some hh
 have eP := (lp_is (N := N) (odd := odd) (P := P) ⟨hz, hy, hp⟩).1
 have nX : ¬ Zp (num N) := fun g => h (by have b : 0 ≤ num N ∧ num N < prm := ⟨Int.emod_nonneg _ (by decide), Int.emod_lt_of_pos _ (by decide)⟩; exact zp_small b.1 b.2 g)
 have i1 := iv_mul hz
 have nz := iv_ne hz
 have hu := num_zp N
 have ey := zp_emod ((N % 57896044618658097711785492504343953926634992332820282019728792003956564819968 - 1) * iv (N % 57896044618658097711785492504343953926634992332820282019728792003956564819968 + 1))
 rw [← e2] at ey
 generalize N % 57896044618658097711785492504343953926634992332820282019728792003956564819968 = U at *
 generalize iv (U + 1) = z at *
 have h1 : Zp (1 - (lp N odd).y - 2 * z) := zp_lin2 (-1) (-1) ey i1 (by grind)
 have n0 : ¬ Zp (1 - (lp N odd).y) := zp_cg h1 (zp_ne_mul zp_two nz)
 have hX : Zp (num N * (1 - (lp N odd).y) - 1 * (1 + (lp N odd).y)) := by
  generalize num N = X at *
  generalize (lp N odd).y = y at *
  exact zp_lin3 (1 - y) (-U) (-1) hu ey (zp_lin2 1 (U - 1) ey i1 rfl) (by grind)
 have hb : 0 ≤ num N ∧ num N < prm := ⟨Int.emod_nonneg _ (by decide), Int.emod_lt_of_pos _ (by decide)⟩
 refine ⟨e1, Val.inj (ux_val _) ⟨hb, fun g => (n0 g).elim, fun _ => hX⟩, by rw [eP]; exact hp, fun K => ?_⟩
 obtain ⟨n, e, hn, _⟩ := clp_nat K
 have v := scn_val nsq_1 (Or.inl ⟨rfl, ec1_eq⟩) hX nX n0 n hn
 rw [e, Int.toNat_natCast]
 have : scl K N = scn (n : Int) (num N) := by unfold scl; rw [e]
 rw [this]
 exact Val.inj (ux_val _) v
end Go.Proofs.YtgfhoabgbgddbaaDoor
namespace Go.Proofs.YtgfhoabgbgddbaaDoor
set_option maxRecDepth 100000
open Go.RowKit Go.Sort
attribute [local go_sem] setCell_drewN alloc_drewN
theorem all32 {k0 k1 k2 k3 k4 k5 k6 k7 k8 k9 k10 k11 k12 k13 k14 k15 k16 k17 k18 k19 k20 k21 k22 k23 k24 k25 k26 k27 k28 k29 k30 k31 : Int} (h0 : 0 ≤ k0 ∧ k0 < 256) (h1 : 0 ≤ k1 ∧ k1 < 256) (h2 : 0 ≤ k2 ∧ k2 < 256) (h3 : 0 ≤ k3 ∧ k3 < 256) (h4 : 0 ≤ k4 ∧ k4 < 256) (h5 : 0 ≤ k5 ∧ k5 < 256) (h6 : 0 ≤ k6 ∧ k6 < 256) (h7 : 0 ≤ k7 ∧ k7 < 256) (h8 : 0 ≤ k8 ∧ k8 < 256) (h9 : 0 ≤ k9 ∧ k9 < 256) (h10 : 0 ≤ k10 ∧ k10 < 256) (h11 : 0 ≤ k11 ∧ k11 < 256) (h12 : 0 ≤ k12 ∧ k12 < 256) (h13 : 0 ≤ k13 ∧ k13 < 256) (h14 : 0 ≤ k14 ∧ k14 < 256) (h15 : 0 ≤ k15 ∧ k15 < 256) (h16 : 0 ≤ k16 ∧ k16 < 256) (h17 : 0 ≤ k17 ∧ k17 < 256) (h18 : 0 ≤ k18 ∧ k18 < 256) (h19 : 0 ≤ k19 ∧ k19 < 256) (h20 : 0 ≤ k20 ∧ k20 < 256) (h21 : 0 ≤ k21 ∧ k21 < 256) (h22 : 0 ≤ k22 ∧ k22 < 256) (h23 : 0 ≤ k23 ∧ k23 < 256) (h24 : 0 ≤ k24 ∧ k24 < 256) (h25 : 0 ≤ k25 ∧ k25 < 256) (h26 : 0 ≤ k26 ∧ k26 < 256) (h27 : 0 ≤ k27 ∧ k27 < 256) (h28 : 0 ≤ k28 ∧ k28 < 256) (h29 : 0 ≤ k29 ∧ k29 < 256) (h30 : 0 ≤ k30 ∧ k30 < 256) (h31 : 0 ≤ k31 ∧ k31 < 256) : ∀ d ∈ [k0, k1, k2, k3, k4, k5, k6, k7, k8, k9, k10, k11, k12, k13, k14, k15, k16, k17, k18, k19, k20, k21, k22, k23, k24, k25, k26, k27, k28, k29, k30, k31], 0 ≤ d ∧ d < 256 := by
 simp only [List.forall_mem_cons]
 exact ⟨h0, h1, h2, h3, h4, h5, h6, h7, h8, h9, h10, h11, h12, h13, h14, h15, h16, h17, h18, h19, h20, h21, h22, h23, h24, h25, h26, h27, h28, h29, h30, h31, fun _ h => by cases h⟩
theorem key_kb {r : Array Value} {N : Int} (h : KeyOf r N) : r = kb N := by
 obtain ⟨k0, k1, k2, k3, k4, k5, k6, k7, k8, k9, k10, k11, k12, k13, k14, k15, k16, k17, k18, k19, k20, k21, k22, k23, k24, k25, k26, k27, k28, k29, k30, k31, rfl, ⟨h0, h1, h2, h3, h4, h5, h6, h7, h8, h9, h10, h11, h12, h13, h14, h15, h16, h17, h18, h19, h20, h21, h22, h23, h24, h25, h26, h27, h28, h29, h30, h31⟩, rfl⟩ := h
 have hb := all32 h0 h1 h2 h3 h4 h5 h6 h7 h8 h9 h10 h11 h12 h13 h14 h15 h16 h17 h18 h19 h20 h21 h22 h23 h24 h25 h26 h27 h28 h29 h30 h31
 have e0 : byt (kv k0 k1 k2 k3 k4 k5 k6 k7 k8 k9 k10 k11 k12 k13 k14 k15 k16 k17 k18 k19 k20 k21 k22 k23 k24 k25 k26 k27 k28 k29 k30 k31) 0 = k0 := byt_valB _ hb 0 (by simp)
 have e1 : byt (kv k0 k1 k2 k3 k4 k5 k6 k7 k8 k9 k10 k11 k12 k13 k14 k15 k16 k17 k18 k19 k20 k21 k22 k23 k24 k25 k26 k27 k28 k29 k30 k31) 1 = k1 := byt_valB _ hb 1 (by simp)
 have e2 : byt (kv k0 k1 k2 k3 k4 k5 k6 k7 k8 k9 k10 k11 k12 k13 k14 k15 k16 k17 k18 k19 k20 k21 k22 k23 k24 k25 k26 k27 k28 k29 k30 k31) 2 = k2 := byt_valB _ hb 2 (by simp)
 have e3 : byt (kv k0 k1 k2 k3 k4 k5 k6 k7 k8 k9 k10 k11 k12 k13 k14 k15 k16 k17 k18 k19 k20 k21 k22 k23 k24 k25 k26 k27 k28 k29 k30 k31) 3 = k3 := byt_valB _ hb 3 (by simp)
 have e4 : byt (kv k0 k1 k2 k3 k4 k5 k6 k7 k8 k9 k10 k11 k12 k13 k14 k15 k16 k17 k18 k19 k20 k21 k22 k23 k24 k25 k26 k27 k28 k29 k30 k31) 4 = k4 := byt_valB _ hb 4 (by simp)
 have e5 : byt (kv k0 k1 k2 k3 k4 k5 k6 k7 k8 k9 k10 k11 k12 k13 k14 k15 k16 k17 k18 k19 k20 k21 k22 k23 k24 k25 k26 k27 k28 k29 k30 k31) 5 = k5 := byt_valB _ hb 5 (by simp)
 have e6 : byt (kv k0 k1 k2 k3 k4 k5 k6 k7 k8 k9 k10 k11 k12 k13 k14 k15 k16 k17 k18 k19 k20 k21 k22 k23 k24 k25 k26 k27 k28 k29 k30 k31) 6 = k6 := byt_valB _ hb 6 (by simp)
 have e7 : byt (kv k0 k1 k2 k3 k4 k5 k6 k7 k8 k9 k10 k11 k12 k13 k14 k15 k16 k17 k18 k19 k20 k21 k22 k23 k24 k25 k26 k27 k28 k29 k30 k31) 7 = k7 := byt_valB _ hb 7 (by simp)
 have e8 : byt (kv k0 k1 k2 k3 k4 k5 k6 k7 k8 k9 k10 k11 k12 k13 k14 k15 k16 k17 k18 k19 k20 k21 k22 k23 k24 k25 k26 k27 k28 k29 k30 k31) 8 = k8 := byt_valB _ hb 8 (by simp)
 have e9 : byt (kv k0 k1 k2 k3 k4 k5 k6 k7 k8 k9 k10 k11 k12 k13 k14 k15 k16 k17 k18 k19 k20 k21 k22 k23 k24 k25 k26 k27 k28 k29 k30 k31) 9 = k9 := byt_valB _ hb 9 (by simp)
 have e10 : byt (kv k0 k1 k2 k3 k4 k5 k6 k7 k8 k9 k10 k11 k12 k13 k14 k15 k16 k17 k18 k19 k20 k21 k22 k23 k24 k25 k26 k27 k28 k29 k30 k31) 10 = k10 := byt_valB _ hb 10 (by simp)
 have e11 : byt (kv k0 k1 k2 k3 k4 k5 k6 k7 k8 k9 k10 k11 k12 k13 k14 k15 k16 k17 k18 k19 k20 k21 k22 k23 k24 k25 k26 k27 k28 k29 k30 k31) 11 = k11 := byt_valB _ hb 11 (by simp)
 have e12 : byt (kv k0 k1 k2 k3 k4 k5 k6 k7 k8 k9 k10 k11 k12 k13 k14 k15 k16 k17 k18 k19 k20 k21 k22 k23 k24 k25 k26 k27 k28 k29 k30 k31) 12 = k12 := byt_valB _ hb 12 (by simp)
 have e13 : byt (kv k0 k1 k2 k3 k4 k5 k6 k7 k8 k9 k10 k11 k12 k13 k14 k15 k16 k17 k18 k19 k20 k21 k22 k23 k24 k25 k26 k27 k28 k29 k30 k31) 13 = k13 := byt_valB _ hb 13 (by simp)
 have e14 : byt (kv k0 k1 k2 k3 k4 k5 k6 k7 k8 k9 k10 k11 k12 k13 k14 k15 k16 k17 k18 k19 k20 k21 k22 k23 k24 k25 k26 k27 k28 k29 k30 k31) 14 = k14 := byt_valB _ hb 14 (by simp)
 have e15 : byt (kv k0 k1 k2 k3 k4 k5 k6 k7 k8 k9 k10 k11 k12 k13 k14 k15 k16 k17 k18 k19 k20 k21 k22 k23 k24 k25 k26 k27 k28 k29 k30 k31) 15 = k15 := byt_valB _ hb 15 (by simp)
 have e16 : byt (kv k0 k1 k2 k3 k4 k5 k6 k7 k8 k9 k10 k11 k12 k13 k14 k15 k16 k17 k18 k19 k20 k21 k22 k23 k24 k25 k26 k27 k28 k29 k30 k31) 16 = k16 := byt_valB _ hb 16 (by simp)
 have e17 : byt (kv k0 k1 k2 k3 k4 k5 k6 k7 k8 k9 k10 k11 k12 k13 k14 k15 k16 k17 k18 k19 k20 k21 k22 k23 k24 k25 k26 k27 k28 k29 k30 k31) 17 = k17 := byt_valB _ hb 17 (by simp)
 have e18 : byt (kv k0 k1 k2 k3 k4 k5 k6 k7 k8 k9 k10 k11 k12 k13 k14 k15 k16 k17 k18 k19 k20 k21 k22 k23 k24 k25 k26 k27 k28 k29 k30 k31) 18 = k18 := byt_valB _ hb 18 (by simp)
 have e19 : byt (kv k0 k1 k2 k3 k4 k5 k6 k7 k8 k9 k10 k11 k12 k13 k14 k15 k16 k17 k18 k19 k20 k21 k22 k23 k24 k25 k26 k27 k28 k29 k30 k31) 19 = k19 := byt_valB _ hb 19 (by simp)
 have e20 : byt (kv k0 k1 k2 k3 k4 k5 k6 k7 k8 k9 k10 k11 k12 k13 k14 k15 k16 k17 k18 k19 k20 k21 k22 k23 k24 k25 k26 k27 k28 k29 k30 k31) 20 = k20 := byt_valB _ hb 20 (by simp)
 have e21 : byt (kv k0 k1 k2 k3 k4 k5 k6 k7 k8 k9 k10 k11 k12 k13 k14 k15 k16 k17 k18 k19 k20 k21 k22 k23 k24 k25 k26 k27 k28 k29 k30 k31) 21 = k21 := byt_valB _ hb 21 (by simp)
 have e22 : byt (kv k0 k1 k2 k3 k4 k5 k6 k7 k8 k9 k10 k11 k12 k13 k14 k15 k16 k17 k18 k19 k20 k21 k22 k23 k24 k25 k26 k27 k28 k29 k30 k31) 22 = k22 := byt_valB _ hb 22 (by simp)
 have e23 : byt (kv k0 k1 k2 k3 k4 k5 k6 k7 k8 k9 k10 k11 k12 k13 k14 k15 k16 k17 k18 k19 k20 k21 k22 k23 k24 k25 k26 k27 k28 k29 k30 k31) 23 = k23 := byt_valB _ hb 23 (by simp)
 have e24 : byt (kv k0 k1 k2 k3 k4 k5 k6 k7 k8 k9 k10 k11 k12 k13 k14 k15 k16 k17 k18 k19 k20 k21 k22 k23 k24 k25 k26 k27 k28 k29 k30 k31) 24 = k24 := byt_valB _ hb 24 (by simp)
 have e25 : byt (kv k0 k1 k2 k3 k4 k5 k6 k7 k8 k9 k10 k11 k12 k13 k14 k15 k16 k17 k18 k19 k20 k21 k22 k23 k24 k25 k26 k27 k28 k29 k30 k31) 25 = k25 := byt_valB _ hb 25 (by simp)
 have e26 : byt (kv k0 k1 k2 k3 k4 k5 k6 k7 k8 k9 k10 k11 k12 k13 k14 k15 k16 k17 k18 k19 k20 k21 k22 k23 k24 k25 k26 k27 k28 k29 k30 k31) 26 = k26 := byt_valB _ hb 26 (by simp)
 have e27 : byt (kv k0 k1 k2 k3 k4 k5 k6 k7 k8 k9 k10 k11 k12 k13 k14 k15 k16 k17 k18 k19 k20 k21 k22 k23 k24 k25 k26 k27 k28 k29 k30 k31) 27 = k27 := byt_valB _ hb 27 (by simp)
 have e28 : byt (kv k0 k1 k2 k3 k4 k5 k6 k7 k8 k9 k10 k11 k12 k13 k14 k15 k16 k17 k18 k19 k20 k21 k22 k23 k24 k25 k26 k27 k28 k29 k30 k31) 28 = k28 := byt_valB _ hb 28 (by simp)
 have e29 : byt (kv k0 k1 k2 k3 k4 k5 k6 k7 k8 k9 k10 k11 k12 k13 k14 k15 k16 k17 k18 k19 k20 k21 k22 k23 k24 k25 k26 k27 k28 k29 k30 k31) 29 = k29 := byt_valB _ hb 29 (by simp)
 have e30 : byt (kv k0 k1 k2 k3 k4 k5 k6 k7 k8 k9 k10 k11 k12 k13 k14 k15 k16 k17 k18 k19 k20 k21 k22 k23 k24 k25 k26 k27 k28 k29 k30 k31) 30 = k30 := byt_valB _ hb 30 (by simp)
 have e31 : byt (kv k0 k1 k2 k3 k4 k5 k6 k7 k8 k9 k10 k11 k12 k13 k14 k15 k16 k17 k18 k19 k20 k21 k22 k23 k24 k25 k26 k27 k28 k29 k30 k31) 31 = k31 := byt_valB _ hb 31 (by simp)
 simp only [kb, e0, e1, e2, e3, e4, e5, e6, e7, e8, e9, e10, e11, e12, e13, e14, e15, e16, e17, e18, e19, e20, e21, e22, e23, e24, e25, e26, e27, e28, e29, e30, e31]
theorem kb_at (N : Int) : ∀ j : Nat, j < 32 → (kb N)[j]? = some (.int .u8 (byt N j))
 | 0, _ => rfl
 | 1, _ => rfl
 | 2, _ => rfl
 | 3, _ => rfl
 | 4, _ => rfl
 | 5, _ => rfl
 | 6, _ => rfl
 | 7, _ => rfl
 | 8, _ => rfl
 | 9, _ => rfl
 | 10, _ => rfl
 | 11, _ => rfl
 | 12, _ => rfl
 | 13, _ => rfl
 | 14, _ => rfl
 | 15, _ => rfl
 | 16, _ => rfl
 | 17, _ => rfl
 | 18, _ => rfl
 | 19, _ => rfl
 | 20, _ => rfl
 | 21, _ => rfl
 | 22, _ => rfl
 | 23, _ => rfl
 | 24, _ => rfl
 | 25, _ => rfl
 | 26, _ => rfl
 | 27, _ => rfl
 | 28, _ => rfl
 | 29, _ => rfl
 | 30, _ => rfl
 | 31, _ => rfl
 | _ + 32, h => absurd h (by omega)
theorem clp_kv (k0 k1 k2 k3 k4 k5 k6 k7 k8 k9 k10 k11 k12 k13 k14 k15 k16 k17 k18 k19 k20 k21 k22 k23 k24 k25 k26 k27 k28 k29 k30 k31 : Int) (h0 : 0 ≤ k0 ∧ k0 < 256) (h1 : 0 ≤ k1 ∧ k1 < 256) (h2 : 0 ≤ k2 ∧ k2 < 256) (h3 : 0 ≤ k3 ∧ k3 < 256) (h4 : 0 ≤ k4 ∧ k4 < 256) (h5 : 0 ≤ k5 ∧ k5 < 256) (h6 : 0 ≤ k6 ∧ k6 < 256) (h7 : 0 ≤ k7 ∧ k7 < 256) (h8 : 0 ≤ k8 ∧ k8 < 256) (h9 : 0 ≤ k9 ∧ k9 < 256) (h10 : 0 ≤ k10 ∧ k10 < 256) (h11 : 0 ≤ k11 ∧ k11 < 256) (h12 : 0 ≤ k12 ∧ k12 < 256) (h13 : 0 ≤ k13 ∧ k13 < 256) (h14 : 0 ≤ k14 ∧ k14 < 256) (h15 : 0 ≤ k15 ∧ k15 < 256) (h16 : 0 ≤ k16 ∧ k16 < 256) (h17 : 0 ≤ k17 ∧ k17 < 256) (h18 : 0 ≤ k18 ∧ k18 < 256) (h19 : 0 ≤ k19 ∧ k19 < 256) (h20 : 0 ≤ k20 ∧ k20 < 256) (h21 : 0 ≤ k21 ∧ k21 < 256) (h22 : 0 ≤ k22 ∧ k22 < 256) (h23 : 0 ≤ k23 ∧ k23 < 256) (h24 : 0 ≤ k24 ∧ k24 < 256) (h25 : 0 ≤ k25 ∧ k25 < 256) (h26 : 0 ≤ k26 ∧ k26 < 256) (h27 : 0 ≤ k27 ∧ k27 < 256) (h28 : 0 ≤ k28 ∧ k28 < 256) (h29 : 0 ≤ k29 ∧ k29 < 256) (h30 : 0 ≤ k30 ∧ k30 < 256) : kv (k0 / 8 * 8) k1 k2 k3 k4 k5 k6 k7 k8 k9 k10 k11 k12 k13 k14 k15 k16 k17 k18 k19 k20 k21 k22 k23 k24 k25 k26 k27 k28 k29 k30 (k31 % 64 + 64) = clp (kv k0 k1 k2 k3 k4 k5 k6 k7 k8 k9 k10 k11 k12 k13 k14 k15 k16 k17 k18 k19 k20 k21 k22 k23 k24 k25 k26 k27 k28 k29 k30 k31) := by
 have e : ∃ L, 0 ≤ L ∧ L < 1766847064778384329583297500742918515827483896875618958121606201292619776 ∧ kv k0 k1 k2 k3 k4 k5 k6 k7 k8 k9 k10 k11 k12 k13 k14 k15 k16 k17 k18 k19 k20 k21 k22 k23 k24 k25 k26 k27 k28 k29 k30 k31 = k0 + 256 * L + 452312848583266388373324160190187140051835877600158453279131187530910662656 * k31 ∧ kv (k0 / 8 * 8) k1 k2 k3 k4 k5 k6 k7 k8 k9 k10 k11 k12 k13 k14 k15 k16 k17 k18 k19 k20 k21 k22 k23 k24 k25 k26 k27 k28 k29 k30 (k31 % 64 + 64) = k0 / 8 * 8 + 256 * L + 452312848583266388373324160190187140051835877600158453279131187530910662656 * (k31 % 64 + 64) := by
  refine ⟨valB [k1, k2, k3, k4, k5, k6, k7, k8, k9, k10, k11, k12, k13, k14, k15, k16, k17, k18, k19, k20, k21, k22, k23, k24, k25, k26, k27, k28, k29, k30], ?_, ?_, ?_, ?_⟩
  ·simp only [valB]; omega
  ·simp only [valB]; omega
  ·simp only [kv, valB]; omega
  ·simp only [kv, valB]; omega
 obtain ⟨L, l0, l1, e0, e1⟩ := e
 rw [e0, e1]
 unfold clp
 clear e0 e1
 omega
theorem and248 (x : Int) (h : 0 ≤ x ∧ x < 256) : bits .and .u8 x 248 = x / 8 * 8 := by
 obtain ⟨n, rfl⟩ := Int.eq_ofNat_of_zero_le h.1
 have : ∀ n : Nat, n < 256 → bits .and .u8 (n : Int) 248 = (n : Int) / 8 * 8 := by decide +kernel
 exact this n (by omega)
theorem clamp31 (x : Int) (h : 0 ≤ x ∧ x < 256) : bits .or .u8 (bits .and .u8 x 127) 64 = x % 64 + 64 := by
 obtain ⟨n, rfl⟩ := Int.eq_ofNat_of_zero_le h.1
 have : ∀ n : Nat, n < 256 → bits .or .u8 (bits .and .u8 (n : Int) 127) 64 = (n : Int) % 64 + 64 := by decide +kernel
 exact this n (by omega)
theorem clp_cells {r : Array Value} {N : Int} (h : KeyOf r N) : (r.setIfInBounds 0 (.int .u8 (byt N 0 / 8 * 8))).setIfInBounds 31 (.int .u8 (byt N 31 % 64 + 64)) = kb (clp N) := by
 obtain ⟨k0, k1, k2, k3, k4, k5, k6, k7, k8, k9, k10, k11, k12, k13, k14, k15, k16, k17, k18, k19, k20, k21, k22, k23, k24, k25, k26, k27, k28, k29, k30, k31, rfl, ⟨h0, h1, h2, h3, h4, h5, h6, h7, h8, h9, h10, h11, h12, h13, h14, h15, h16, h17, h18, h19, h20, h21, h22, h23, h24, h25, h26, h27, h28, h29, h30, h31⟩, rfl⟩ := h
 have hb := all32 h0 h1 h2 h3 h4 h5 h6 h7 h8 h9 h10 h11 h12 h13 h14 h15 h16 h17 h18 h19 h20 h21 h22 h23 h24 h25 h26 h27 h28 h29 h30 h31
 have e0 : byt (kv k0 k1 k2 k3 k4 k5 k6 k7 k8 k9 k10 k11 k12 k13 k14 k15 k16 k17 k18 k19 k20 k21 k22 k23 k24 k25 k26 k27 k28 k29 k30 k31) 0 = k0 := byt_valB _ hb 0 (by simp)
 have e31 : byt (kv k0 k1 k2 k3 k4 k5 k6 k7 k8 k9 k10 k11 k12 k13 k14 k15 k16 k17 k18 k19 k20 k21 k22 k23 k24 k25 k26 k27 k28 k29 k30 k31) 31 = k31 := byt_valB _ hb 31 (by simp)
 rw [e0, e31]
 have hk : KeyOf (#[.int .u8 (k0 / 8 * 8), .int .u8 k1, .int .u8 k2, .int .u8 k3, .int .u8 k4, .int .u8 k5, .int .u8 k6, .int .u8 k7, .int .u8 k8, .int .u8 k9, .int .u8 k10, .int .u8 k11, .int .u8 k12, .int .u8 k13, .int .u8 k14, .int .u8 k15, .int .u8 k16, .int .u8 k17, .int .u8 k18, .int .u8 k19, .int .u8 k20, .int .u8 k21, .int .u8 k22, .int .u8 k23, .int .u8 k24, .int .u8 k25, .int .u8 k26, .int .u8 k27, .int .u8 k28, .int .u8 k29, .int .u8 k30, .int .u8 (k31 % 64 + 64)]) (clp (kv k0 k1 k2 k3 k4 k5 k6 k7 k8 k9 k10 k11 k12 k13 k14 k15 k16 k17 k18 k19 k20 k21 k22 k23 k24 k25 k26 k27 k28 k29 k30 k31)) := ⟨_, _, _, _, _, _, _, _, _, _, _, _, _, _, _, _, _, _, _, _, _, _, _, _, _, _, _, _, _, _, _, _, rfl, ⟨by omega, h1, h2, h3, h4, h5, h6, h7, h8, h9, h10, h11, h12, h13, h14, h15, h16, h17, h18, h19, h20, h21, h22, h23, h24, h25, h26, h27, h28, h29, h30, by omega⟩, clp_kv k0 k1 k2 k3 k4 k5 k6 k7 k8 k9 k10 k11 k12 k13 k14 k15 k16 k17 k18 k19 k20 k21 k22 k23 k24 k25 k26 k27 k28 k29 k30 k31 h0 h1 h2 h3 h4 h5 h6 h7 h8 h9 h10 h11 h12 h13 h14 h15 h16 h17 h18 h19 h20 h21 h22 h23 h24 h25 h26 h27 h28 h29 h30⟩
 exact key_kb hk
end Go.Proofs.YtgfhoabgbgddbaaDoor
namespace Go.Proofs.YtgfhoabgbgddbaaDoor
set_option maxRecDepth 100000
open Go.RowKit Go.Sort
attribute [local go_sem] setCell_drewN alloc_drewN
theorem key_zero : KeyOf #[.int .u8 0, .int .u8 0, .int .u8 0, .int .u8 0, .int .u8 0, .int .u8 0, .int .u8 0, .int .u8 0, .int .u8 0, .int .u8 0, .int .u8 0, .int .u8 0, .int .u8 0, .int .u8 0, .int .u8 0, .int .u8 0, .int .u8 0, .int .u8 0, .int .u8 0, .int .u8 0, .int .u8 0, .int .u8 0, .int .u8 0, .int .u8 0, .int .u8 0, .int .u8 0, .int .u8 0, .int .u8 0, .int .u8 0, .int .u8 0, .int .u8 0, .int .u8 0] 0 := ⟨0, 0, 0, 0, 0, 0, 0, 0, 0, 0, 0, 0, 0, 0, 0, 0, 0, 0, 0, 0, 0, 0, 0, 0, 0, 0, 0, 0, 0, 0, 0, 0, rfl, by decide, rfl⟩
theorem scl_bd (K U : Int) : 0 ≤ scl K U ∧ scl K U < 115792089237316195423570985008687907853269984665640564039457584007913129639936 := ⟨(scn_bd _ _).1, Int.lt_trans (scn_bd _ _).2 (by decide)⟩
set_option maxHeartbeats 4000000 in
set_option maxRecDepth 10000 in
theorem a_clamp {r : Array Value} {N : Int} (h : KeyOf r N) : Gives 60 #[.agg r] (.agg (kb (clp N))) := by
 have q0 : r[0]? = some (.int .u8 (byt N 0)) := by rw [key_kb h]; rfl
 have q31 : r[31]? = some (.int .u8 (byt N 31)) := by rw [key_kb h]; rfl
 have hs := h.size
 have hE := clp_cells h
 have b0 := byt_bd N 0
 have b31 := byt_bd N 31
 have hk : KeyOf (kb (clp N)) (clp N) := kb_key _ (clp_bd N).1 (Int.lt_trans (clp_bd N).2 (by decide))
 have hi := h.info
 have ho := h.one
 clear h
 have e0 := and248 (byt N 0) b0
 have e31 := clamp31 (byt N 31) b31
 generalize byt N 0 = k0 at *
 generalize byt N 31 = k31 at *
 generalize kb (clp N) = r' at *
 generalize clp N = N' at *
 intro w
 have r0 := hp2_0 w (.cells r 23) (.cells #[.int .u8 0, .int .u8 0, .int .u8 0, .int .u8 0, .int .u8 0, .int .u8 0, .int .u8 0, .int .u8 0, .int .u8 0, .int .u8 0, .int .u8 0, .int .u8 0, .int .u8 0, .int .u8 0, .int .u8 0, .int .u8 0, .int .u8 0, .int .u8 0, .int .u8 0, .int .u8 0, .int .u8 0, .int .u8 0, .int .u8 0, .int .u8 0, .int .u8 0, .int .u8 0, .int .u8 0, .int .u8 0, .int .u8 0, .int .u8 0, .int .u8 0, .int .u8 0] 23)
 have r1 := hp2_1 w (.cells r 23) (.cells #[.int .u8 0, .int .u8 0, .int .u8 0, .int .u8 0, .int .u8 0, .int .u8 0, .int .u8 0, .int .u8 0, .int .u8 0, .int .u8 0, .int .u8 0, .int .u8 0, .int .u8 0, .int .u8 0, .int .u8 0, .int .u8 0, .int .u8 0, .int .u8 0, .int .u8 0, .int .u8 0, .int .u8 0, .int .u8 0, .int .u8 0, .int .u8 0, .int .u8 0, .int .u8 0, .int .u8 0, .int .u8 0, .int .u8 0, .int .u8 0, .int .u8 0, .int .u8 0] 23)
 have hw : Below w.heap.size w ((w.alloc (.cells r 23)).alloc (.cells #[.int .u8 0, .int .u8 0, .int .u8 0, .int .u8 0, .int .u8 0, .int .u8 0, .int .u8 0, .int .u8 0, .int .u8 0, .int .u8 0, .int .u8 0, .int .u8 0, .int .u8 0, .int .u8 0, .int .u8 0, .int .u8 0, .int .u8 0, .int .u8 0, .int .u8 0, .int .u8 0, .int .u8 0, .int .u8 0, .int .u8 0, .int .u8 0, .int .u8 0, .int .u8 0, .int .u8 0, .int .u8 0, .int .u8 0, .int .u8 0, .int .u8 0, .int .u8 0] 23)) := ((Below.refl _ _).alloc (Nat.le_refl _) _).alloc (by simp) _
 go_enter Tryd.func60, Tryd.ntmps60
 iterate 9 go_step
 generalize ((w.alloc (.cells r 23)).alloc (.cells #[.int .u8 0, .int .u8 0, .int .u8 0, .int .u8 0, .int .u8 0, .int .u8 0, .int .u8 0, .int .u8 0, .int .u8 0, .int .u8 0, .int .u8 0, .int .u8 0, .int .u8 0, .int .u8 0, .int .u8 0, .int .u8 0, .int .u8 0, .int .u8 0, .int .u8 0, .int .u8 0, .int .u8 0, .int .u8 0, .int .u8 0, .int .u8 0, .int .u8 0, .int .u8 0, .int .u8 0, .int .u8 0, .int .u8 0, .int .u8 0, .int .u8 0, .int .u8 0] 23)) = w0 at *
 have c0 : w0.cell? ⟨w.heap.size, 0, none⟩ = some (.int .u8 k0) := (cell_of_row _ _ _ _ _ _ r0).trans q0
 have c31 : w0.cell? ⟨w.heap.size, 31, none⟩ = some (.int .u8 k31) := (cell_of_row _ _ _ _ _ _ r0).trans q31
 have f0 : w0.frozen? ⟨w.heap.size, 0, none⟩ = false := by simp [World.frozen?, r0]
 have f31 : w0.frozen? ⟨w.heap.size, 31, none⟩ = false := by simp [World.frozen?, r0]
 have R0 : ((w0.setCell ⟨w.heap.size, 0, none⟩ (.int .u8 (k0 / 8 * 8))).setCell ⟨w.heap.size, 31, none⟩ (.int .u8 (k31 % 64 + 64))).heap[w.heap.size]? = some (.cells r' 23 (0, 0)) := by rw [← hE]; exact heap_setCell_same _ _ _ _ _ _ (heap_setCell_same _ _ _ _ _ _ r0)
 have R1 : ((w0.setCell ⟨w.heap.size, 0, none⟩ (.int .u8 (k0 / 8 * 8))).setCell ⟨w.heap.size, 31, none⟩ (.int .u8 (k31 % 64 + 64))).heap[w.heap.size + 1]? = some (.cells #[.int .u8 0, .int .u8 0, .int .u8 0, .int .u8 0, .int .u8 0, .int .u8 0, .int .u8 0, .int .u8 0, .int .u8 0, .int .u8 0, .int .u8 0, .int .u8 0, .int .u8 0, .int .u8 0, .int .u8 0, .int .u8 0, .int .u8 0, .int .u8 0, .int .u8 0, .int .u8 0, .int .u8 0, .int .u8 0, .int .u8 0, .int .u8 0, .int .u8 0, .int .u8 0, .int .u8 0, .int .u8 0, .int .u8 0, .int .u8 0, .int .u8 0, .int .u8 0] 23 (0, 0)) := (heap_setCell_other _ _ _ _ (by simp)).trans ((heap_setCell_other _ _ _ _ (by simp)).trans r1)
 have hw2 : Below w.heap.size w ((w0.setCell ⟨w.heap.size, 0, none⟩ (.int .u8 (k0 / 8 * 8))).setCell ⟨w.heap.size, 31, none⟩ (.int .u8 (k31 % 64 + 64))) := (hw.setCell (Nat.le_refl _) _).setCell (Nat.le_refl _) _
 go_wp2_with (first | (refine wpList_load_want rfl 23 _ rfl (w.heap.size) rfl 23 r' (0, 0) _ R0 Tryd.underlying23 rfl hk.info ?_) | (refine wpList_store_row rfl 23 _ _ rfl (w.heap.size + 1) r' rfl rfl 23 _ R1 hk.info hk.size.symm hk.one ?_) | fail)
 exact bodyPost_ret (v := .agg r') (results_cell_row Tryd.results60 _ _ (w.heap.size + 1) _ r' _ _ rfl (setRow_heap _ _ _ _ _ _ R1) Tryd.underlying23 rfl hk.info) rfl ⟨rfl, below_setRow hw2 (by omega) _⟩
end Go.Proofs.YtgfhoabgbgddbaaDoor
namespace Go.Proofs.YtgfhoabgbgddbaaDoor
set_option maxRecDepth 100000
open Go.RowKit Go.Sort
attribute [local go_sem] setCell_drewN alloc_drewN
theorem div_bd (z : Int) (j : Nat) (h : 0 ≤ z ∧ z < 256) : 0 ≤ z / 2 ^ j ∧ z / 2 ^ j < 256 := by
 have h1 := Int.ediv_nonneg h.1 (Int.le_of_lt (Int.pow_pos (n := 2) (m := j) (by decide)))
 have h2 := Int.ediv_le_self (2 ^ j) h.1
 omega
theorem and_one (x : Int) (h : 0 ≤ x ∧ x < 256) : bits .and .u8 x 1 = x % 2 := by
 obtain ⟨n, rfl⟩ := Int.eq_ofNat_of_zero_le h.1
 have : ∀ n : Nat, n < 256 → bits .and .u8 (n : Int) 1 = (n : Int) % 2 := by decide +kernel
 exact this n (by omega)
theorem bit_int (z : Int) (j : Nat) (h : 0 ≤ z ∧ z < 256) : (bits .and .u8 (z / 2 ^ j) 1 == 1) = decide (z / 2 ^ j % 2 = 1) := by
 rw [and_one _ (div_bd z j h)]
 by_cases e : z / 2 ^ j % 2 = 1
 ·rw [decide_eq_true e, beq_iff_eq]; exact e
 ·rw [decide_eq_false e, beq_eq_false_iff_ne]; exact e
set_option maxHeartbeats 4000000 in
theorem bit_any (S : Int) (g t : Nat) (ht : t < 256) (W : World) (hg : W.heap[g]? = some (.cells (kb S) 23 (0, 0))) :
 Calls Tryd.prog 106 #[.int .i64 t, .pointer (some ⟨g, 0, none⟩)] W fun e w' => e = .returned (.bool (bt S t)) ∧ Below W.heap.size W w' := by
 have hc : W.cell? ⟨g, t / 8, none⟩ = some (.int .u8 (byt S (t / 8))) := (cell_of_row _ _ _ _ _ _ hg).trans (kb_at S (t / 8) (by omega))
 have hb := byt_bd S (t / 8)
 rw [bt_byt]
 generalize byt S (t / 8) = z at *
 go_enter Tryd.func106, Tryd.ntmps106
 go_wp2
 go_ret
 exact ⟨ret_bool (bit_int z (t % 8) hb), Below.refl _ _⟩
end Go.Proofs.YtgfhoabgbgddbaaDoor

