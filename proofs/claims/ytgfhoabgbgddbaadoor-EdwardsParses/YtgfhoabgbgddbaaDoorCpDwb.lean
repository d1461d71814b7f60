import Derived.Test.YtgfhoabgbgddbaaDoorCpGs
import Derived.Test.YtgfhoabgbgddbaaDoorCpKa
import Derived.Deep.MidRow
import Derived.Test.YtgfhoabgbgddbaaDoorProg
import Derived.WalkKit
import Derived.WalkSpells
import Derived.WalkLawsBesides
import Derived.Lib.QuietBelow
import Derived.BigQuiet
import Derived.Test.YtgfhoabgbgddbaaDoorCpGb
import Derived.Test.YtgfhoabgbgddbaaDoorCpGj
namespace Go.Proofs.YtgfhoabgbgddbaaDoor
set_option maxRecDepth 100000
theorem mkE_on {X Y : Int} (h : Zp (Y * Y - X * X - 1 + ec1 * X * X * Y * Y)) : Zp ((ii * X % prm) * (ii * X % prm) + (Y % prm) * (Y % prm) - 1 - ec1 * (ii * X % prm) * (ii * X % prm) * (Y % prm) * (Y % prm)) := by
 have h1 := zp_emod (ii * X)
 have h2 := zp_emod Y
 have h3 := ii_sq
 generalize ii * X % prm = x at *
 generalize Y % prm = y at *
 generalize ii = i at *
 generalize ec1 = c at *
 exact zp_lin4 1 ((1 - c * y * y) * (x + i * X)) ((1 - c * y * y) * (X * X)) ((1 + c * X * X) * (y + Y)) h h1 h3 h2 (by grind)
def mkE (X Y : Int) (h : Zp (Y * Y - X * X - 1 + ec1 * X * X * Y * Y)) : E1 := ⟨ii * X % prm, Y % prm, Int.emod_emod _ _, Int.emod_emod _ _, mkE_on h⟩
theorem mkE_tx {X Y : Int} (h : Zp (Y * Y - X * X - 1 + ec1 * X * X * Y * Y)) : tx (mkE X Y h) = X % prm := by
 have h1 := zp_emod (ii * X)
 have h3 := ii_sq
 show -(ii * (ii * X % prm)) % prm = X % prm
 rw [← zp_sub]
 generalize ii * X % prm = x at *
 generalize ii = i at *
 exact zp_lin2 (-i) (-X) h1 h3 (by grind)
theorem den_y (y : Int) : ¬ Zp (1 - ec1 * (y * y)) := fun h => by
 have hy : ¬ Zp y := fun g => zp_one (zp_lin2 1 (ec1 * y) h g (by grind))
 have h2 := iv_mul hy
 have n := nsq_1 (iv y)
 generalize iv y = z at *
 generalize ec1 = c at *
 exact n (zp_lin2 (z * z) (c * (y * z + 1)) h h2 (by grind))
def qy (y : Int) : Int := (y * y - 1) * iv (1 - ec1 * (y * y))
theorem qy_spec (y : Int) : Zp (qy y * (1 - ec1 * (y * y)) - (y * y - 1)) := by
 have h := iv_mul (den_y y)
 unfold qy
 generalize iv (1 - ec1 * (y * y)) = z at *
 generalize ec1 = c at *
 exact zp_lin1 (y * y - 1) h (by grind)
theorem qy_cong {y z : Int} (h : Zp (y - z)) : Zp (qy y - qy z) := by
 have hs : Zp (y * y - z * z) := zp_lin1 (y + z) h (by grind)
 have hi : Zp (iv (1 - ec1 * (y * y)) - iv (1 - ec1 * (z * z))) := iv_cong (by generalize ec1 = c; exact zp_lin1 (-c) hs (by grind))
 unfold qy
 generalize iv (1 - ec1 * (y * y)) = a at *
 generalize iv (1 - ec1 * (z * z)) = b at *
 exact zp_lin2 a (z * z - 1) hs hi (by grind)
theorem qy_is {y a u : Int} (hu : ¬ Zp u) (h1 : Zp (a - u * (y * y - 1))) (b : Int) (h2 : Zp (b - u * (1 - ec1 * (y * y)))) : Zp (a * iv b - qy y) := by
 have h3 := iv_mul hu
 have h4 : Zp (iv b - iv u * iv (1 - ec1 * (y * y))) := by rw [← iv_prod]; exact iv_cong h2
 unfold qy
 generalize iv (1 - ec1 * (y * y)) = z at *
 generalize iv b = w at *
 generalize iv u = v at *
 exact zp_lin3 w ((y * y - 1) * z) (u * (y * y - 1)) h1 h3 h4 (by grind)
theorem tx_qy (P : E1) : Zp (tx P * tx P - qy P.y) := by
 have h1 := tw_on P
 have h2 := qy_spec P.y
 have hd := den_y P.y
 generalize qy P.y = q at *
 generalize tx P = t at *
 generalize P.y = y at *
 generalize ec1 = c at *
 exact zp_cancel (a := 1 - c * (y * y)) (zp_lin2 (-1) (-1) h1 h2 (by grind)) hd
theorem rok_of_sq {a r : Int} (h : Zp (r * r - a)) : rok a = true := by rw [← rok_c (zp_sub.1 h)]; exact rok_sq r
theorem sq_cases {a b : Int} (h : Zp (a * a - b * b)) : Zp (a - b) ∨ Zp (a + b) := zp_or (zp_lin1 1 h (by grind))
theorem zp_two_of {a : Int} (h0 : 0 ≤ a) (h1 : a < prm + prm) (h : Zp a) : a = 0 ∨ a = prm := by
 by_cases g : a < prm
 ·exact Or.inl (zp_small h0 g h)
 ·have hp : Zp prm := by unfold Zp; decide
  have := zp_small (a := a - prm) (by omega) (by omega) (zp_lin2 1 (-1) h hp (by grind))
  exact Or.inr (by omega)
theorem neg_par {r : Int} (h : ¬ r % prm = 0) (he : r % prm % 2 = 0) : -r % prm % 2 = 1 := by
 have b0 : 0 ≤ r % prm := Int.emod_nonneg _ (by decide)
 have b1 : r % prm < prm := Int.emod_lt_of_pos _ prm_pos
 have hp : Zp prm := by unfold Zp; decide
 have e : -r % prm = prm - r % prm := mod_of (by have := zp_emod r; generalize r % prm = m at *; exact zp_lin2 1 (-1) this hp (by grind)) (by omega) (by omega)
 rw [e]
 generalize r % prm = m at *
 rw [prm_is] at *
 omega
theorem par_eq {t r : Int} (h : Zp (t * t - r * r)) (ht : 0 ≤ t ∧ t < prm) (hr : 0 ≤ r ∧ r < prm) (hp : t % 2 = r % 2) : t = r := by
 rw [prm_is] at ht hr
 rcases sq_cases h with g | g
 ·have := mod_of (a := t) (b := r) g (by omega) (by rw [prm_is]; omega)
  rw [Int.emod_eq_of_lt ht.1 (by rw [prm_is]; omega)] at this
  exact this
 ·rcases zp_two_of (by omega) (by rw [prm_is]; omega) g with e | e
  ·omega
  ·rw [prm_is] at e; omega
def has (y : Int) (odd : Bool) : Bool := rok (qy y) && !(decide (rval (qy y) % prm = 0) && odd)
def xo (y : Int) (odd : Bool) : Int := if odd = true then -(rval (qy y)) else rval (qy y)
def od (b : Bool) : Int := if b = true then 1 else 0
theorem has_some {y : Int} {odd : Bool} (h : has y odd = true) : ∃ P : E1, P.y = y % prm ∧ tx P = xo y odd % prm ∧ tx P % 2 = od odd := by
 unfold has at h
 rw [Bool.and_eq_true] at h
 obtain ⟨h1, h2⟩ := h
 have hs : Zp (rval (qy y) * rval (qy y) - qy y) := zp_sub.2 (rval_sq h1)
 have he := rval_even (qy y)
 have hq := qy_spec y
 have hx : Zp (xo y odd * xo y odd - qy y) := by unfold xo; cases odd <;> simp only [if_true, if_false, Bool.false_eq_true] <;> generalize rval (qy y) = r at * <;> exact zp_lin1 1 hs (by grind)
 have hon : Zp (y * y - xo y odd * xo y odd - 1 + ec1 * xo y odd * xo y odd * y * y) := by
  generalize xo y odd = x at *
  generalize qy y = q at *
  generalize ec1 = c at *
  exact zp_lin2 (-1) (-(1 - c * (y * y))) hq hx (by grind)
 refine ⟨mkE _ y hon, rfl, mkE_tx hon, ?_⟩
 rw [mkE_tx]
 cases odd with
 | false =>
  simp only [xo, od, if_false, Bool.false_eq_true]
  exact he
 | true =>
  simp only [xo, od, if_true]
  have hz : ¬ rval (qy y) % prm = 0 := by intro g; rw [decide_eq_true g] at h2; simp at h2
  exact neg_par hz he
theorem has_none {y : Int} {odd : Bool} (h : has y odd = false) (P : E1) (hP : P.y = y % prm) : tx P % 2 ≠ od odd := by
 have h1 := tx_qy P
 have h2 : Zp (qy P.y - qy y) := qy_cong (by rw [hP]; exact zp_emod y)
 have hr : rok (qy y) = true := rok_of_sq (r := tx P) (by generalize tx P = t at *; exact zp_lin2 1 1 h1 h2 (by grind))
 unfold has at h
 rw [hr, Bool.true_and] at h
 have h3 : (decide (rval (qy y) % prm = 0) && odd) = true := by revert h; cases (decide (rval (qy y) % prm = 0) && odd) <;> simp
 rw [Bool.and_eq_true] at h3
 have hz := of_decide_eq_true h3.1
 have hs : Zp (rval (qy y) * rval (qy y) - qy y) := zp_sub.2 (rval_sq hr)
 have ht : Zp (tx P) := by
  have g : Zp (tx P * tx P) := by
   generalize tx P = t at *
   generalize rval (qy y) = r at *
   exact zp_lin4 1 1 (-1) r h1 h2 hs (show Zp r from hz) (by grind)
  exact (zp_or g).elim id id
 have := zp_small (tx_bd P).1 (tx_bd P).2 ht
 rw [this, h3.2]
 decide
theorem pb_inj {P Q : E1} (h : pb P = pb Q) : P = Q := by
 have h1 := y_bd P
 have h2 := y_bd Q
 have h3 : 0 ≤ tx P % 2 ∧ tx P % 2 < 2 := ⟨Int.emod_nonneg _ (by decide), Int.emod_lt_of_pos _ (by decide)⟩
 have h4 : 0 ≤ tx Q % 2 ∧ tx Q % 2 < 2 := ⟨Int.emod_nonneg _ (by decide), Int.emod_lt_of_pos _ (by decide)⟩
 have hy : P.y = Q.y := by unfold pb at h; rw [prm_is] at h1 h2; omega
 have hp : tx P % 2 = tx Q % 2 := by unfold pb at h; rw [hy] at h; omega
 refine E1.eq' (par_eq ?_ (tx_bd P) (tx_bd Q) hp) hy
 have a := tx_qy P
 have b := tx_qy Q
 rw [hy] at a
 generalize tx P = t at *
 generalize tx Q = u at *
 exact zp_lin2 1 (-1) a b (by grind)
open Classical in
noncomputable def pp (N : Int) : E1 := if h : ∃ P, pb P = N then Classical.choose h else ze
open Classical in
noncomputable def pe (N : Int) : Int := if ∃ P, pb P = N then 0 else 190
theorem pp_pb (P : E1) : pp (pb P) = P := by
 unfold pp
 have h : ∃ Q, pb Q = pb P := ⟨P, rfl⟩
 rw [dif_pos h]
 exact pb_inj (Classical.choose_spec h)
theorem pe_pb (P : E1) : pe (pb P) = 0 := by unfold pe; rw [if_pos ⟨P, rfl⟩]
theorem pe_no {N : Int} (h : ∀ P, pb P ≠ N) : pe N = 190 ∧ pp N = ze := by
 have g : ¬ ∃ P, pb P = N := fun ⟨P, e⟩ => h P e
 exact ⟨by unfold pe; rw [if_neg g], by unfold pp; rw [dif_neg g]⟩
theorem pp_yes {N : Int} (h0 : 0 ≤ N) (h1 : N < 115792089237316195423570985008687907853269984665640564039457584007913129639936) (hl : N % 57896044618658097711785492504343953926634992332820282019728792003956564819968 < prm) (h : has (N % 57896044618658097711785492504343953926634992332820282019728792003956564819968) (decide (57896044618658097711785492504343953926634992332820282019728792003956564819968 ≤ N)) = true) :
 pe N = 0 ∧ (pp N).y = N % 57896044618658097711785492504343953926634992332820282019728792003956564819968 ∧ tx (pp N) = xo (N % 57896044618658097711785492504343953926634992332820282019728792003956564819968) (decide (57896044618658097711785492504343953926634992332820282019728792003956564819968 ≤ N)) % prm := by
 obtain ⟨P, hy, hx, hp⟩ := has_some h
 have hm : P.y = N % 57896044618658097711785492504343953926634992332820282019728792003956564819968 := by rw [hy, Int.emod_eq_of_lt (by omega) hl]
 have hb : pb P = N := by
  unfold pb
  rw [hm, hp]
  by_cases g : 57896044618658097711785492504343953926634992332820282019728792003956564819968 ≤ N
  ·rw [decide_eq_true g]; simp only [od, if_true]; omega
  ·rw [decide_eq_false g]; simp only [od, Bool.false_eq_true, if_false]; omega
 rw [← hb, pe_pb, pp_pb, hb]
 exact ⟨rfl, hm, hx⟩
theorem pp_no {N : Int} (h0 : 0 ≤ N) (h1 : N < 115792089237316195423570985008687907853269984665640564039457584007913129639936) (h : (decide (N % 57896044618658097711785492504343953926634992332820282019728792003956564819968 < prm) && has (N % 57896044618658097711785492504343953926634992332820282019728792003956564819968) (decide (57896044618658097711785492504343953926634992332820282019728792003956564819968 ≤ N))) = false) : pe N = 190 ∧ pp N = ze := by
 refine pe_no fun P hb => ?_
 have b1 := y_bd P
 have b2 : 0 ≤ tx P % 2 ∧ tx P % 2 < 2 := ⟨Int.emod_nonneg _ (by decide), Int.emod_lt_of_pos _ (by decide)⟩
 have hN : N = P.y + 57896044618658097711785492504343953926634992332820282019728792003956564819968 * (tx P % 2) := hb.symm
 have hl : N % 57896044618658097711785492504343953926634992332820282019728792003956564819968 = P.y := by rw [prm_is] at b1; omega
 rw [hl, decide_eq_true b1.2, Bool.true_and] at h
 refine has_none h P (Int.emod_eq_of_lt b1.1 b1.2).symm ?_
 rw [prm_is] at b1
 by_cases g : 57896044618658097711785492504343953926634992332820282019728792003956564819968 ≤ N
 ·rw [decide_eq_true g]; simp only [od, if_true]; omega
 ·rw [decide_eq_false g]; simp only [od, Bool.false_eq_true, if_false]; omega
end Go.Proofs.YtgfhoabgbgddbaaDoor
namespace Go.Proofs.YtgfhoabgbgddbaaDoor
set_option maxRecDepth 100000
open Go Go.RowKit Go.Sort
def ovw : Array Value → Nat → List Value → Array Value
 | cs, _, [] => cs
 | cs, o, v :: r => ovw (cs.setIfInBounds o v) (o + 1) r
theorem world_eq {w v : World} (h : w.heap = v.heap) (h1 : w.tape = v.tape) (h2 : w.drawn = v.drawn) (h3 : w.os = v.os) (h4 : w.output = v.output) : w = v := by
 cases w; cases v; simp_all
theorem setRow_same {w : World} {g : Nat} {cs : Array Value} {t : TypeId} {fr : Nat × Nat} (h : w.heap[g]? = some (.cells cs t fr)) : w.setRow g cs = w := by
 refine world_eq ?_ rfl rfl rfl rfl
 apply Array.ext_getElem?
 intro k
 by_cases hk : k = g
 ·subst hk; rw [setRow_heap w k cs cs t fr h, h]
 ·rw [setRow_other w g k cs hk]
theorem setRow_setRow {w : World} {g : Nat} {cs : Array Value} {t : TypeId} {fr : Nat × Nat} (h : w.heap[g]? = some (.cells cs t fr)) (a b : Array Value) : (w.setRow g a).setRow g b = w.setRow g b := by
 refine world_eq ?_ rfl rfl rfl rfl
 apply Array.ext_getElem?
 intro k
 by_cases hk : k = g
 ·subst hk; rw [setRow_heap _ k a b t fr (setRow_heap w k cs a t fr h), setRow_heap w k cs b t fr h]
 ·rw [setRow_other _ g k b hk, setRow_other w g k a hk, setRow_other w g k b hk]
theorem setCells_eq {g : Nat} {t : TypeId} {fr : Nat × Nat} : ∀ (vs : List Value) (o : Nat) (w : World) (cs : Array Value), w.heap[g]? = some (.cells cs t fr) → w.setCells g o vs = w.setRow g (ovw cs o vs)
 | [], _, w, cs, h => (setRow_same h).symm
 | v :: r, o, w, cs, h => by
  have h1 : w.setCell ⟨g, o, none⟩ v = w.setRow g (cs.setIfInBounds o v) := setCell_eq_setRow w g o cs t fr v h
  rw [World.setCells, h1, setCells_eq r (o + 1) _ (cs.setIfInBounds o v) (setRow_heap w g cs _ t fr h), setRow_setRow h]
  rfl
theorem there_row {w : World} {g : Nat} {cs : Array Value} {t : TypeId} (h : w.heap[g]? = some (.cells cs t (0, 0))) {o n : Nat} (hn : o + n ≤ cs.size) : w.there g o n := by
 intro j hj
 refine ⟨?_, ?_⟩
 ·rw [cell_of_row w g (o + j) cs t (0, 0) h, Array.getElem?_eq_getElem (by omega)]; rfl
 ·simp [World.frozen?, h]
theorem wpList_load_part {P : Program} {ops : Array Oper} {rest : List Oper} {o : Oper} {a : Act} {w : World} {Q : Exit → Act → World → Prop} (hw : Region.wanted o (yielded ops a.tmps) = true) (ty : TypeId) (x : Operand) (ho : o.op = .load ty x)
 (g off : Nat) (hx : a.eval x = .pointer (some ⟨g, off, none⟩)) (t : TypeId) (cs : Array Value) (fr : Nat × Nat) (part : Array Value) (d : TypeDesc) (hg : w.heap[g]? = some (.cells cs t fr)) (hp : cs.extract off (off + part.size) = part)
 (hu : P.underlying ty = some d) (hd : d.isRow = true) (hi : (P.info? ty).map (·.size) = some part.size)
 (h : wpList P ops Q rest (a.put o.dst (.agg part)) w) : wpList P ops Q (o :: rest) a w := by
 refine BigFrame.wpList_want hw fun _ hK => ?_
 have hr := World.rangeAt_of_block hg off part.size
 rw [hp] at hr
 exact wp_load_mid ty x ho g off hx part.toList d hr hu hd (by simpa using hi) (hK _ _ (by simpa using h))
theorem wpQuiet_load_part {P : Program} {C : World → Prop} {ops : Array Oper} {Q : Act → Prop} {a : Act} {o : Oper} {rest : List Oper} (hw : Region.wanted o (yielded ops a.tmps) = true) (ty : TypeId) (x : Operand) (ho : o.op = .load ty x)
 (g off : Nat) (hx : a.eval x = .pointer (some ⟨g, off, none⟩)) (t : TypeId) (cs : Array Value) (fr : Nat × Nat) (part : Array Value) (d : TypeDesc) (hg : ∀ w, C w → w.heap[g]? = some (.cells cs t fr)) (hp : cs.extract off (off + part.size) = part)
 (hu : P.underlying ty = some d) (hd : d.isRow = true) (hi : (P.info? ty).map (·.size) = some part.size)
 (h : wpQuiet P ops C Q rest (a.put o.dst (.agg part))) : wpQuiet P ops C Q (o :: rest) a := by
 refine BigFrame.wpQuiet_want hw fun K hK => ⟨.agg part, fun w hw => ?_, hK _ h⟩
 have hr := World.rangeAt_of_block (hg w hw) off part.size
 rw [hp] at hr
 have hl := run_loadVar_mid (P := P) w g off ty part.toList d hr hu hd (by simpa using hi)
 unfold Oper.quietAt execOp
 simp only [ho, hx, Instr.loadAt, Instr.sureAddr, Sem.run_bind, Sem.run_pure, Result.andThen_ok, hl]
 exact ⟨by simp, rfl⟩
theorem wpQuiet_build {P : Program} {C : World → Prop} {ops : Array Oper} {Q : Act → Prop} {a : Act} {o : Oper} {rest : List Oper} (hw : Region.wanted o (yielded ops a.tmps) = true) (t : TypeId) (parts : Array (Nat × Operand)) (ho : o.op = .build t parts)
 (vals : List (Nat × Value)) (hv : parts.toList.map (fun (i, x) => (i, a.eval x)) = vals) (cells : Array Value) (hb : P.built t vals = some cells)
 (h : wpQuiet P ops C Q rest (a.put o.dst (.agg cells))) : wpQuiet P ops C Q (o :: rest) a := by
 rw [← Array.toList_map] at hv
 subst hv
 refine BigFrame.wpQuiet_want hw fun K hK => ⟨.agg cells, fun w hw => ?_, hK _ h⟩
 unfold Oper.quietAt execOp
 simp only [ho, Sem.run_bind, run_build w t _ cells hb, Result.andThen_ok]
 exact ⟨rfl, rfl⟩
theorem wpList_build_as {P : Program} {ops : Array Oper} {rest : List Oper} {o : Oper} {a : Act} {w : World} {Q : Exit → Act → World → Prop} (hg : o.guard = none) (t : TypeId) (parts : Array (Nat × Operand)) (ho : o.op = .build t parts)
 (vals : List (Nat × Value)) (hv : parts.toList.map (fun (i, x) => (i, a.eval x)) = vals) (cells : Array Value) (hb : P.built t vals = some cells)
 (h : wpList P ops Q rest (a.put o.dst (.agg cells)) w) : wpList P ops Q (o :: rest) a w := by
 rw [← Array.toList_map] at hv
 subst hv
 refine wpList_build hg t parts ho (by rw [hb]; rfl) ?_
 rw [hb]
 exact h
theorem five {r : Array Value} (h : r.size = 5) : ∃ a b c d e, r = #[a, b, c, d, e] := by
 obtain ⟨l⟩ := r
 match l, h with
 | [a, b, c, d, e], _ => exact ⟨a, b, c, d, e, rfl⟩
theorem sixteen {r : Array Value} (h : r.size = 16) : ∃ a b c d e f g i j k l m n o p q, r = #[a, b, c, d, e, f, g, i, j, k, l, m, n, o, p, q] := by
 obtain ⟨l⟩ := r
 match l, h with
 | [a, b, c, d, e, f, g, i, j, k, l, m, n, o, p, q], _ => exact ⟨a, b, c, d, e, f, g, i, j, k, l, m, n, o, p, q, rfl⟩
def r4 (a b c d : Array Value) : Array Value := (a.toList ++ (b.toList ++ (c.toList ++ d.toList))).toArray
theorem r4_size (a b c d : Array Value) : (r4 a b c d).size = a.size + (b.size + (c.size + d.size)) := by simp [r4]
theorem r4_one {a b c d : Array Value} (ha : a.all (·.oneCell') = true) (hb : b.all (·.oneCell') = true) (hc : c.all (·.oneCell') = true) (hd : d.all (·.oneCell') = true) : (r4 a b c d).all (·.oneCell') = true := by
 simp only [Array.all_eq_true_iff_forall_mem] at *
 intro v hv
 simp only [r4, List.mem_toArray, List.mem_append, Array.mem_toList_iff] at hv
 rcases hv with h | h | h | h
 ·exact ha v h
 ·exact hb v h
 ·exact hc v h
 ·exact hd v h
theorem r4_get0 {a b c d : Array Value} {o : Nat} (h : o = 0) : (r4 a b c d).extract o (o + a.size) = a := by
 subst h
 apply Array.ext'
 simp [r4]
theorem drop_two (a b c : List Value) : (a ++ (b ++ c)).drop (a.length + b.length) = c := by
 rw [← List.append_assoc, ← List.length_append, List.drop_left]
theorem r4_get1 {a b c d : Array Value} {o : Nat} (h : o = a.size) : (r4 a b c d).extract o (o + b.size) = b := by
 subst h
 apply Array.ext'
 simp [r4]
theorem r4_get2 {a b c d : Array Value} {o : Nat} (h : o = a.size + b.size) : (r4 a b c d).extract o (o + c.size) = c := by
 subst h
 apply Array.ext'
 have := drop_two a.toList b.toList (c.toList ++ d.toList)
 simp [r4] at this ⊢
 rw [this]
 simp
theorem r4_get3 {a b c d : Array Value} {o : Nat} (h : o = a.size + b.size + c.size) : (r4 a b c d).extract o (o + d.size) = d := by
 subst h
 apply Array.ext'
 have := drop_two (a.toList ++ b.toList) c.toList d.toList
 simp [r4] at this ⊢
 rw [this]
 exact List.take_of_length_le (by simp)
end Go.Proofs.YtgfhoabgbgddbaaDoor
namespace Go.Proofs.YtgfhoabgbgddbaaDoor
set_option maxRecDepth 100000
open Go.RowKit Go.Sort
attribute [local go_sem] setCell_drewN alloc_drewN
theorem nums_size {a b c d : Array Value} (ha : a.size = 5) (hb : b.size = 5) (hc : c.size = 5) (hd : d.size = 5) : (r4 a b c d).size = 20 := by rw [r4_size, ha, hb, hc, hd]
theorem p_0 {a b c d : Array Value} : (r4 a b c d).extract 0 (0 + a.size) = a := r4_get0 rfl
theorem p5_1 {a b c d : Array Value} (ha : a.size = 5) : (r4 a b c d).extract 5 (5 + b.size) = b := r4_get1 ha.symm
theorem p5_2 {a b c d : Array Value} (ha : a.size = 5) (hb : b.size = 5) : (r4 a b c d).extract 10 (10 + c.size) = c := r4_get2 (by omega)
theorem p5_3 {a b c d : Array Value} (ha : a.size = 5) (hb : b.size = 5) (hc : c.size = 5) : (r4 a b c d).extract 15 (15 + d.size) = d := r4_get3 (by omega)
theorem sp_ty : (Tryd.prog.info? 98).map (·.size) = some 20 := by kernel_rfl
theorem sp_info {a b c d : Array Value} (ha : a.size = 5) (hb : b.size = 5) (hc : c.size = 5) (hd : d.size = 5) : (Tryd.prog.info? 98).map (·.size) = some (r4 a b c d).size := by rw [nums_size ha hb hc hd]; exact sp_ty
theorem sp_built {a b c d : Array Value} (ha : a.size = 5) (hb : b.size = 5) (hc : c.size = 5) (hd : d.size = 5) : Tryd.prog.built 98 [(0, .agg a), (1, .agg b), (2, .agg c), (3, .agg d)] = some (r4 a b c d) := by
 obtain ⟨_, _, _, _, _, rfl⟩ := five ha
 obtain ⟨_, _, _, _, _, rfl⟩ := five hb
 obtain ⟨_, _, _, _, _, rfl⟩ := five hc
 obtain ⟨_, _, _, _, _, rfl⟩ := five hd
 kernel_rfl
theorem ad_ty : (Tryd.prog.info? 112).map (·.size) = some 20 := by kernel_rfl
theorem pt_ty : (Tryd.prog.info? 29).map (·.size) = some 20 := by kernel_rfl
theorem pt_info {a b c d : Array Value} (ha : a.size = 5) (hb : b.size = 5) (hc : c.size = 5) (hd : d.size = 5) : (Tryd.prog.info? 29).map (·.size) = some (r4 a b c d).size := by rw [nums_size ha hb hc hd]; exact pt_ty
theorem pt_built {a b c d : Array Value} (ha : a.size = 5) (hb : b.size = 5) (hc : c.size = 5) (hd : d.size = 5) : Tryd.prog.built 29 [(0, .agg a), (1, .agg b), (2, .agg c), (3, .agg d)] = some (r4 a b c d) := by
 obtain ⟨_, _, _, _, _, rfl⟩ := five ha
 obtain ⟨_, _, _, _, _, rfl⟩ := five hb
 obtain ⟨_, _, _, _, _, rfl⟩ := five hc
 obtain ⟨_, _, _, _, _, rfl⟩ := five hd
 kernel_rfl
def SpO (r : Array Value) (P : E1) : Prop := ∃ xr yr zr tr X Y Z T, r = r4 xr yr zr tr ∧ NumOf xr X ∧ NumOf yr Y ∧ NumOf zr Z ∧ NumOf tr T ∧ Sp P X Y Z T
theorem SpO.size {r : Array Value} {P : E1} (h : SpO r P) : r.size = 20 := by
 obtain ⟨xr, yr, zr, tr, X, Y, Z, T, rfl, hx, hy, hz, ht, _⟩ := h
 exact nums_size hx.size hy.size hz.size ht.size
theorem SpO.info {r : Array Value} {P : E1} (h : SpO r P) : (Tryd.prog.info? 98).map (·.size) = some r.size := by rw [h.size]; exact sp_ty
theorem SpO.one {r : Array Value} {P : E1} (h : SpO r P) : r.all (·.oneCell') = true := by
 obtain ⟨xr, yr, zr, tr, X, Y, Z, T, rfl, hx, hy, hz, ht, _⟩ := h
 exact r4_one hx.one hy.one hz.one ht.one
def AdO (r : Array Value) (P : E1) : Prop := ∃ xr yr zr tr X Y Z T, r = r4 xr yr zr tr ∧ NumOf xr ((Y - X) * 121666) ∧ NumOf yr ((Y + X) * 121666) ∧ NumOf zr (Z * 243332) ∧ NumOf tr (T * 243330) ∧ Sp P X Y Z T
theorem AdO.size {r : Array Value} {P : E1} (h : AdO r P) : r.size = 20 := by
 obtain ⟨xr, yr, zr, tr, X, Y, Z, T, rfl, hx, hy, hz, ht, _⟩ := h
 exact nums_size hx.size hy.size hz.size ht.size
theorem AdO.info {r : Array Value} {P : E1} (h : AdO r P) : (Tryd.prog.info? 112).map (·.size) = some r.size := by rw [h.size]; exact ad_ty
theorem AdO.one {r : Array Value} {P : E1} (h : AdO r P) : r.all (·.oneCell') = true := by
 obtain ⟨xr, yr, zr, tr, X, Y, Z, T, rfl, hx, hy, hz, ht, _⟩ := h
 exact r4_one hx.one hy.one hz.one ht.one
def PtO (r : Array Value) (P : E1) : Prop := ∃ xr yr zr tr X Y Z T, r = r4 xr yr zr tr ∧ NumOf xr X ∧ NumOf yr Y ∧ NumOf zr Z ∧ NumOf tr T ∧ Sp P X (Y + 1) (Z + 1) T
theorem PtO.size {r : Array Value} {P : E1} (h : PtO r P) : r.size = 20 := by
 obtain ⟨xr, yr, zr, tr, X, Y, Z, T, rfl, hx, hy, hz, ht, _⟩ := h
 exact nums_size hx.size hy.size hz.size ht.size
theorem PtO.info {r : Array Value} {P : E1} (h : PtO r P) : (Tryd.prog.info? 29).map (·.size) = some r.size := by rw [h.size]; exact pt_ty
theorem PtO.one {r : Array Value} {P : E1} (h : PtO r P) : r.all (·.oneCell') = true := by
 obtain ⟨xr, yr, zr, tr, X, Y, Z, T, rfl, hx, hy, hz, ht, _⟩ := h
 exact r4_one hx.one hy.one hz.one ht.one
theorem pt_zero : PtO #[.int .u64 0, .int .u64 0, .int .u64 0, .int .u64 0, .int .u64 0, .int .u64 0, .int .u64 0, .int .u64 0, .int .u64 0, .int .u64 0, .int .u64 0, .int .u64 0, .int .u64 0, .int .u64 0, .int .u64 0, .int .u64 0, .int .u64 0, .int .u64 0, .int .u64 0, .int .u64 0] ze := ⟨#[.int .u64 0, .int .u64 0, .int .u64 0, .int .u64 0, .int .u64 0], #[.int .u64 0, .int .u64 0, .int .u64 0, .int .u64 0, .int .u64 0], #[.int .u64 0, .int .u64 0, .int .u64 0, .int .u64 0, .int .u64 0], #[.int .u64 0, .int .u64 0, .int .u64 0, .int .u64 0, .int .u64 0], 0, 0, 0, 0, rfl, num_zero, num_zero, num_zero, num_zero, sp_ze⟩
theorem a_inv {r : Array Value} {x : Int} (h : NumOf r x) : ∃ s, NumOf s (iv x) ∧ Gives 50 #[.agg r] (.agg s) := by unfold iv; exact a_invert h
set_option maxRecDepth 100000 in
set_option maxHeartbeats 8000000 in
theorem w_shared {ra rb rc rd' : Array Value} {A B C D : Int} (ha : NumOf ra A) (hb : NumOf rb B) (hc : NumOf rc C) (hd : NumOf rd' D) :
 ∃ xr yr zr tr, NumOf xr (A * D) ∧ NumOf yr (C * B) ∧ NumOf zr (B * D) ∧ NumOf tr (A * C) ∧ Gives 122 #[.agg ra, .agg rb, .agg rc, .agg rd'] (.agg (r4 xr yr zr tr)) := by
 obtain ⟨x1, h1, c1⟩ := a_mul ha hd
 obtain ⟨x2, h2, c2⟩ := a_mul hc hb
 obtain ⟨x3, h3, c3⟩ := a_mul hb hd
 obtain ⟨x4, h4, c4⟩ := a_mul ha hc
 refine ⟨x1, x2, x3, x4, h1, h2, h3, h4, fun w => ?_⟩
 go_enter Tryd.func122, Tryd.ntmps122
 go_wp2
 have rp0 : (((((w.alloc (.cells ra 27)).alloc (.cells rb 27)).alloc (.cells rc 27)).alloc (.cells rd' 27)).alloc (.cells #[.int .u64 0, .int .u64 0, .int .u64 0, .int .u64 0, .int .u64 0, .int .u64 0, .int .u64 0, .int .u64 0, .int .u64 0, .int .u64 0, .int .u64 0, .int .u64 0, .int .u64 0, .int .u64 0, .int .u64 0, .int .u64 0, .int .u64 0, .int .u64 0, .int .u64 0, .int .u64 0] 98)).heap[w.heap.size]? = some (.cells ra 27 (0, 0)) := hp5_0 w _ _ _ _ _
 have rp1 : (((((w.alloc (.cells ra 27)).alloc (.cells rb 27)).alloc (.cells rc 27)).alloc (.cells rd' 27)).alloc (.cells #[.int .u64 0, .int .u64 0, .int .u64 0, .int .u64 0, .int .u64 0, .int .u64 0, .int .u64 0, .int .u64 0, .int .u64 0, .int .u64 0, .int .u64 0, .int .u64 0, .int .u64 0, .int .u64 0, .int .u64 0, .int .u64 0, .int .u64 0, .int .u64 0, .int .u64 0, .int .u64 0] 98)).heap[w.heap.size + 1]? = some (.cells rb 27 (0, 0)) := hp5_1 w _ _ _ _ _
 have rp2 : (((((w.alloc (.cells ra 27)).alloc (.cells rb 27)).alloc (.cells rc 27)).alloc (.cells rd' 27)).alloc (.cells #[.int .u64 0, .int .u64 0, .int .u64 0, .int .u64 0, .int .u64 0, .int .u64 0, .int .u64 0, .int .u64 0, .int .u64 0, .int .u64 0, .int .u64 0, .int .u64 0, .int .u64 0, .int .u64 0, .int .u64 0, .int .u64 0, .int .u64 0, .int .u64 0, .int .u64 0, .int .u64 0] 98)).heap[w.heap.size + 1 + 1]? = some (.cells rc 27 (0, 0)) := hp5_2 w _ _ _ _ _
 have rp3 : (((((w.alloc (.cells ra 27)).alloc (.cells rb 27)).alloc (.cells rc 27)).alloc (.cells rd' 27)).alloc (.cells #[.int .u64 0, .int .u64 0, .int .u64 0, .int .u64 0, .int .u64 0, .int .u64 0, .int .u64 0, .int .u64 0, .int .u64 0, .int .u64 0, .int .u64 0, .int .u64 0, .int .u64 0, .int .u64 0, .int .u64 0, .int .u64 0, .int .u64 0, .int .u64 0, .int .u64 0, .int .u64 0] 98)).heap[w.heap.size + 1 + 1 + 1]? = some (.cells rd' 27 (0, 0)) := hp5_3 w _ _ _ _ _
 have rp4 : (((((w.alloc (.cells ra 27)).alloc (.cells rb 27)).alloc (.cells rc 27)).alloc (.cells rd' 27)).alloc (.cells #[.int .u64 0, .int .u64 0, .int .u64 0, .int .u64 0, .int .u64 0, .int .u64 0, .int .u64 0, .int .u64 0, .int .u64 0, .int .u64 0, .int .u64 0, .int .u64 0, .int .u64 0, .int .u64 0, .int .u64 0, .int .u64 0, .int .u64 0, .int .u64 0, .int .u64 0, .int .u64 0] 98)).heap[w.heap.size + 1 + 1 + 1 + 1]? = some (.cells #[.int .u64 0, .int .u64 0, .int .u64 0, .int .u64 0, .int .u64 0, .int .u64 0, .int .u64 0, .int .u64 0, .int .u64 0, .int .u64 0, .int .u64 0, .int .u64 0, .int .u64 0, .int .u64 0, .int .u64 0, .int .u64 0, .int .u64 0, .int .u64 0, .int .u64 0, .int .u64 0] 98 (0, 0)) := hp5_4 w _ _ _ _ _
 have hw : Below w.heap.size w (((((w.alloc (.cells ra 27)).alloc (.cells rb 27)).alloc (.cells rc 27)).alloc (.cells rd' 27)).alloc (.cells #[.int .u64 0, .int .u64 0, .int .u64 0, .int .u64 0, .int .u64 0, .int .u64 0, .int .u64 0, .int .u64 0, .int .u64 0, .int .u64 0, .int .u64 0, .int .u64 0, .int .u64 0, .int .u64 0, .int .u64 0, .int .u64 0, .int .u64 0, .int .u64 0, .int .u64 0, .int .u64 0] 98)) := ((((((Below.refl _ _).alloc (Nat.le_refl _) _).alloc (by simp) _).alloc (by simp; omega) _).alloc (by simp; omega) _).alloc (by simp; omega) _)
 generalize (((((w.alloc (.cells ra 27)).alloc (.cells rb 27)).alloc (.cells rc 27)).alloc (.cells rd' 27)).alloc (.cells #[.int .u64 0, .int .u64 0, .int .u64 0, .int .u64 0, .int .u64 0, .int .u64 0, .int .u64 0, .int .u64 0, .int .u64 0, .int .u64 0, .int .u64 0, .int .u64 0, .int .u64 0, .int .u64 0, .int .u64 0, .int .u64 0, .int .u64 0, .int .u64 0, .int .u64 0, .int .u64 0] 98)) = w0 at *
 have Hrp0 := keepr rp0
 have Hrp1 := keepr rp1
 have Hrp2 := keepr rp2
 have Hrp3 := keepr rp3
 have Hrp4 := keepr rp4
 refine wp_region_tail (C := fun w' => ∃ p : Regrown, w' = grow (redrawn w0 p.d) p.os) 13 _ rfl rfl rfl (by kernel_rfl) (by kernel_rfl) (by kernel_rfl) (by kernel_rfl) ⟨⟨w0.drawn + 1, #[]⟩, by rw [grow_empty]; rfl⟩ ?_
 dsimp only [List.set, idle]
 refine wpQuiet_load_row rfl 27 _ rfl (w.heap.size) rfl 27 ra (0, 0) _ Hrp0.out Tryd.underlying27 rfl ha.info ?_
 simp only [Act.put, List.setIfInBounds_toArray, List.set_cons_succ, List.set_cons_zero]
 refine wpQuiet_load_row rfl 27 _ rfl (w.heap.size + 1 + 1 + 1) rfl 27 rd' (0, 0) _ Hrp3.out Tryd.underlying27 rfl hd.info ?_
 simp only [Act.put, List.setIfInBounds_toArray, List.set_cons_succ, List.set_cons_zero]
 go_big_quiet_step (exact c1.re)
 refine wpQuiet_load_row rfl 27 _ rfl (w.heap.size + 1 + 1) rfl 27 rc (0, 0) _ Hrp2.out Tryd.underlying27 rfl hc.info ?_
 simp only [Act.put, List.setIfInBounds_toArray, List.set_cons_succ, List.set_cons_zero]
 refine wpQuiet_load_row rfl 27 _ rfl (w.heap.size + 1) rfl 27 rb (0, 0) _ Hrp1.out Tryd.underlying27 rfl hb.info ?_
 simp only [Act.put, List.setIfInBounds_toArray, List.set_cons_succ, List.set_cons_zero]
 go_big_quiet_step (exact c2.re)
 refine wpQuiet_load_row rfl 27 _ rfl (w.heap.size + 1) rfl 27 rb (0, 0) _ Hrp1.out Tryd.underlying27 rfl hb.info ?_
 simp only [Act.put, List.setIfInBounds_toArray, List.set_cons_succ, List.set_cons_zero]
 refine wpQuiet_load_row rfl 27 _ rfl (w.heap.size + 1 + 1 + 1) rfl 27 rd' (0, 0) _ Hrp3.out Tryd.underlying27 rfl hd.info ?_
 simp only [Act.put, List.setIfInBounds_toArray, List.set_cons_succ, List.set_cons_zero]
 go_big_quiet_step (exact c3.re)
 refine wpQuiet_load_row rfl 27 _ rfl (w.heap.size) rfl 27 ra (0, 0) _ Hrp0.out Tryd.underlying27 rfl ha.info ?_
 simp only [Act.put, List.setIfInBounds_toArray, List.set_cons_succ, List.set_cons_zero]
 refine wpQuiet_load_row rfl 27 _ rfl (w.heap.size + 1 + 1) rfl 27 rc (0, 0) _ Hrp2.out Tryd.underlying27 rfl hc.info ?_
 simp only [Act.put, List.setIfInBounds_toArray, List.set_cons_succ, List.set_cons_zero]
 go_big_quiet_step (exact c4.re)
 refine wpQuiet_build rfl 98 _ rfl [(0, .agg x1), (1, .agg x2), (2, .agg x3), (3, .agg x4)] rfl (r4 x1 x2 x3 x4) (sp_built h1.size h2.size h3.size h4.size) ?_
 simp only [Act.put, List.setIfInBounds_toArray, List.set_cons_succ, List.set_cons_zero]
 refine wpQuiet_idle rfl rfl rfl ?_
 rintro _ ⟨p, rfl⟩
 have hb := below_regrown w0 p.d p.os
 generalize grow (redrawn w0 p.d) p.os = w5 at *
 replace rp0 := keep hb rp0
 replace rp1 := keep hb rp1
 replace rp2 := keep hb rp2
 replace rp3 := keep hb rp3
 replace rp4 := keep hb rp4
 replace hw := Below.after hw hb
 clear hb
 clear Hrp0 Hrp1 Hrp2 Hrp3 Hrp4
 go_wp2_with (first | (refine wpList_store_row rfl 98 _ _ rfl (w.heap.size + 1 + 1 + 1 + 1) (r4 x1 x2 x3 x4) rfl rfl 98 _ rp4 (sp_info h1.size h2.size h3.size h4.size) ((show _ = 20 from rfl).trans (nums_size h1.size h2.size h3.size h4.size).symm) (r4_one h1.one h2.one h3.one h4.one) ?_) | fail)
 exact bodyPost_ret (v := .agg (r4 x1 x2 x3 x4)) (results_cell_row Tryd.results122 _ _ (w.heap.size + 1 + 1 + 1 + 1) _ (r4 x1 x2 x3 x4) _ _ rfl (setRow_heap _ _ _ _ _ _ rp4) Tryd.underlying98 rfl (sp_info h1.size h2.size h3.size h4.size)) rfl ⟨rfl, below_setRow hw (by omega) _⟩
set_option maxRecDepth 100000 in
set_option maxHeartbeats 8000000 in
theorem a_flat {xr yr : Array Value} {X Y : Int} {P : E1} (hx : NumOf xr X) (hy : NumOf yr Y) (gx : Zp (X - tx P)) (gy : Zp (Y - P.y)) : ∃ t, SpO t P ∧ Gives 78 #[.agg xr, .agg yr] (.agg t) := by
 obtain ⟨x1, h1, c1⟩ := a_small 1 (by decide) (by decide)
 obtain ⟨x2, h2, c2⟩ := a_mul hx hy
 refine ⟨_, ⟨xr, yr, x1, x2, _, _, _, _, rfl, hx, hy, h1, h2, sp_flat gx gy⟩, fun w => ?_⟩
 go_enter Tryd.func78, Tryd.ntmps78
 go_wp2
 have rp0 : (((w.alloc (.cells xr 27)).alloc (.cells yr 27)).alloc (.cells #[.int .u64 0, .int .u64 0, .int .u64 0, .int .u64 0, .int .u64 0, .int .u64 0, .int .u64 0, .int .u64 0, .int .u64 0, .int .u64 0, .int .u64 0, .int .u64 0, .int .u64 0, .int .u64 0, .int .u64 0, .int .u64 0, .int .u64 0, .int .u64 0, .int .u64 0, .int .u64 0] 98)).heap[w.heap.size]? = some (.cells xr 27 (0, 0)) := hp3_0 w _ _ _
 have rp1 : (((w.alloc (.cells xr 27)).alloc (.cells yr 27)).alloc (.cells #[.int .u64 0, .int .u64 0, .int .u64 0, .int .u64 0, .int .u64 0, .int .u64 0, .int .u64 0, .int .u64 0, .int .u64 0, .int .u64 0, .int .u64 0, .int .u64 0, .int .u64 0, .int .u64 0, .int .u64 0, .int .u64 0, .int .u64 0, .int .u64 0, .int .u64 0, .int .u64 0] 98)).heap[w.heap.size + 1]? = some (.cells yr 27 (0, 0)) := hp3_1 w _ _ _
 have rp2 : (((w.alloc (.cells xr 27)).alloc (.cells yr 27)).alloc (.cells #[.int .u64 0, .int .u64 0, .int .u64 0, .int .u64 0, .int .u64 0, .int .u64 0, .int .u64 0, .int .u64 0, .int .u64 0, .int .u64 0, .int .u64 0, .int .u64 0, .int .u64 0, .int .u64 0, .int .u64 0, .int .u64 0, .int .u64 0, .int .u64 0, .int .u64 0, .int .u64 0] 98)).heap[w.heap.size + 1 + 1]? = some (.cells #[.int .u64 0, .int .u64 0, .int .u64 0, .int .u64 0, .int .u64 0, .int .u64 0, .int .u64 0, .int .u64 0, .int .u64 0, .int .u64 0, .int .u64 0, .int .u64 0, .int .u64 0, .int .u64 0, .int .u64 0, .int .u64 0, .int .u64 0, .int .u64 0, .int .u64 0, .int .u64 0] 98 (0, 0)) := hp3_2 w _ _ _
 have hw : Below w.heap.size w (((w.alloc (.cells xr 27)).alloc (.cells yr 27)).alloc (.cells #[.int .u64 0, .int .u64 0, .int .u64 0, .int .u64 0, .int .u64 0, .int .u64 0, .int .u64 0, .int .u64 0, .int .u64 0, .int .u64 0, .int .u64 0, .int .u64 0, .int .u64 0, .int .u64 0, .int .u64 0, .int .u64 0, .int .u64 0, .int .u64 0, .int .u64 0, .int .u64 0] 98)) := ((((Below.refl _ _).alloc (Nat.le_refl _) _).alloc (by simp) _).alloc (by simp; omega) _)
 generalize (((w.alloc (.cells xr 27)).alloc (.cells yr 27)).alloc (.cells #[.int .u64 0, .int .u64 0, .int .u64 0, .int .u64 0, .int .u64 0, .int .u64 0, .int .u64 0, .int .u64 0, .int .u64 0, .int .u64 0, .int .u64 0, .int .u64 0, .int .u64 0, .int .u64 0, .int .u64 0, .int .u64 0, .int .u64 0, .int .u64 0, .int .u64 0, .int .u64 0] 98)) = w0 at *
 have Hrp0 := keepr rp0
 have Hrp1 := keepr rp1
 have Hrp2 := keepr rp2
 refine wp_region_tail (C := fun w' => ∃ p : Regrown, w' = grow (redrawn w0 p.d) p.os) 7 _ rfl rfl rfl (by kernel_rfl) (by kernel_rfl) (by kernel_rfl) (by kernel_rfl) ⟨⟨w0.drawn + 1, #[]⟩, by rw [grow_empty]; rfl⟩ ?_
 dsimp only [List.set, idle]
 refine wpQuiet_load_row rfl 27 _ rfl (w.heap.size) rfl 27 xr (0, 0) _ Hrp0.out Tryd.underlying27 rfl hx.info ?_
 simp only [Act.put, List.setIfInBounds_toArray, List.set_cons_succ, List.set_cons_zero]
 refine wpQuiet_load_row rfl 27 _ rfl (w.heap.size + 1) rfl 27 yr (0, 0) _ Hrp1.out Tryd.underlying27 rfl hy.info ?_
 simp only [Act.put, List.setIfInBounds_toArray, List.set_cons_succ, List.set_cons_zero]
 go_big_quiet_step (exact c1.re)
 refine wpQuiet_load_row rfl 27 _ rfl (w.heap.size) rfl 27 xr (0, 0) _ Hrp0.out Tryd.underlying27 rfl hx.info ?_
 simp only [Act.put, List.setIfInBounds_toArray, List.set_cons_succ, List.set_cons_zero]
 refine wpQuiet_load_row rfl 27 _ rfl (w.heap.size + 1) rfl 27 yr (0, 0) _ Hrp1.out Tryd.underlying27 rfl hy.info ?_
 simp only [Act.put, List.setIfInBounds_toArray, List.set_cons_succ, List.set_cons_zero]
 go_big_quiet_step (exact c2.re)
 refine wpQuiet_build rfl 98 _ rfl [(0, .agg xr), (1, .agg yr), (2, .agg x1), (3, .agg x2)] rfl (r4 xr yr x1 x2) (sp_built hx.size hy.size h1.size h2.size) ?_
 simp only [Act.put, List.setIfInBounds_toArray, List.set_cons_succ, List.set_cons_zero]
 refine wpQuiet_idle rfl rfl rfl ?_
 rintro _ ⟨p, rfl⟩
 have hb := below_regrown w0 p.d p.os
 generalize grow (redrawn w0 p.d) p.os = w3 at *
 replace rp0 := keep hb rp0
 replace rp1 := keep hb rp1
 replace rp2 := keep hb rp2
 replace hw := Below.after hw hb
 clear hb
 clear Hrp0 Hrp1 Hrp2
 go_wp2_with (first | (refine wpList_store_row rfl 98 _ _ rfl (w.heap.size + 1 + 1) (r4 xr yr x1 x2) rfl rfl 98 _ rp2 (sp_info hx.size hy.size h1.size h2.size) ((show _ = 20 from rfl).trans (nums_size hx.size hy.size h1.size h2.size).symm) (r4_one hx.one hy.one h1.one h2.one) ?_) | fail)
 exact bodyPost_ret (v := .agg (r4 xr yr x1 x2)) (results_cell_row Tryd.results78 _ _ (w.heap.size + 1 + 1) _ (r4 xr yr x1 x2) _ _ rfl (setRow_heap _ _ _ _ _ _ rp2) Tryd.underlying98 rfl (sp_info hx.size hy.size h1.size h2.size)) rfl ⟨rfl, below_setRow hw (by omega) _⟩
set_option maxRecDepth 100000 in
set_option maxHeartbeats 8000000 in
theorem a_spot {r : Array Value} {P : E1} (h : PtO r P) : ∃ t, SpO t P ∧ Gives 75 #[.agg r] (.agg t) := by
 obtain ⟨xr, yr, zr, tr, X, Y, Z, T, rfl, hx, hy, hz, ht, hP⟩ := h
 obtain ⟨x1, h1, c1⟩ := a_small 1 (by decide) (by decide)
 obtain ⟨x3, h3, c3⟩ := a_add hy h1
 obtain ⟨x4, h4, c4⟩ := a_add hz h1
 refine ⟨_, ⟨xr, x3, x4, tr, _, _, _, _, rfl, hx, h3, h4, ht, hP⟩, fun w => ?_⟩
 have rp0 : ((w.alloc (.cells (r4 xr yr zr tr) 29)).alloc (.cells #[.int .u64 0, .int .u64 0, .int .u64 0, .int .u64 0, .int .u64 0, .int .u64 0, .int .u64 0, .int .u64 0, .int .u64 0, .int .u64 0, .int .u64 0, .int .u64 0, .int .u64 0, .int .u64 0, .int .u64 0, .int .u64 0, .int .u64 0, .int .u64 0, .int .u64 0, .int .u64 0] 98)).heap[w.heap.size]? = some (.cells (r4 xr yr zr tr) 29 (0, 0)) := hp2_0 w _ _
 have rp1 : ((w.alloc (.cells (r4 xr yr zr tr) 29)).alloc (.cells #[.int .u64 0, .int .u64 0, .int .u64 0, .int .u64 0, .int .u64 0, .int .u64 0, .int .u64 0, .int .u64 0, .int .u64 0, .int .u64 0, .int .u64 0, .int .u64 0, .int .u64 0, .int .u64 0, .int .u64 0, .int .u64 0, .int .u64 0, .int .u64 0, .int .u64 0, .int .u64 0] 98)).heap[w.heap.size + 1]? = some (.cells #[.int .u64 0, .int .u64 0, .int .u64 0, .int .u64 0, .int .u64 0, .int .u64 0, .int .u64 0, .int .u64 0, .int .u64 0, .int .u64 0, .int .u64 0, .int .u64 0, .int .u64 0, .int .u64 0, .int .u64 0, .int .u64 0, .int .u64 0, .int .u64 0, .int .u64 0, .int .u64 0] 98 (0, 0)) := hp2_1 w _ _
 have hw : Below w.heap.size w ((w.alloc (.cells (r4 xr yr zr tr) 29)).alloc (.cells #[.int .u64 0, .int .u64 0, .int .u64 0, .int .u64 0, .int .u64 0, .int .u64 0, .int .u64 0, .int .u64 0, .int .u64 0, .int .u64 0, .int .u64 0, .int .u64 0, .int .u64 0, .int .u64 0, .int .u64 0, .int .u64 0, .int .u64 0, .int .u64 0, .int .u64 0, .int .u64 0] 98)) := (((Below.refl _ _).alloc (Nat.le_refl _) _).alloc (by simp) _)
 go_enter Tryd.func75, Tryd.ntmps75
 iterate 9 go_step
 generalize ((w.alloc (.cells (r4 xr yr zr tr) 29)).alloc (.cells #[.int .u64 0, .int .u64 0, .int .u64 0, .int .u64 0, .int .u64 0, .int .u64 0, .int .u64 0, .int .u64 0, .int .u64 0, .int .u64 0, .int .u64 0, .int .u64 0, .int .u64 0, .int .u64 0, .int .u64 0, .int .u64 0, .int .u64 0, .int .u64 0, .int .u64 0, .int .u64 0] 98)) = w0 at *
 go_wp2_with (first | (refine wpList_load_want rfl 29 _ rfl (w.heap.size) rfl 29 (r4 xr yr zr tr) (0, 0) _ rp0 Tryd.underlying29 rfl (pt_info hx.size hy.size hz.size ht.size) ?_) | (refine wpList_load_want rfl 98 _ rfl (w.heap.size + 1) rfl 98 #[.int .u64 0, .int .u64 0, .int .u64 0, .int .u64 0, .int .u64 0, .int .u64 0, .int .u64 0, .int .u64 0, .int .u64 0, .int .u64 0, .int .u64 0, .int .u64 0, .int .u64 0, .int .u64 0, .int .u64 0, .int .u64 0, .int .u64 0, .int .u64 0, .int .u64 0, .int .u64 0] (0, 0) _ rp1 Tryd.underlying98 rfl (by kernel_rfl) ?_) | (refine wpList_load_part rfl 27 _ rfl (w.heap.size) 0 rfl 29 (r4 xr yr zr tr) (0, 0) xr _ rp0 p_0 Tryd.underlying27 rfl hx.info ?_) | (refine wpList_load_part rfl 27 _ rfl (w.heap.size) 5 rfl 29 (r4 xr yr zr tr) (0, 0) yr _ rp0 (p5_1 hx.size) Tryd.underlying27 rfl hy.info ?_) | (refine wpList_load_part rfl 27 _ rfl (w.heap.size) 10 rfl 29 (r4 xr yr zr tr) (0, 0) zr _ rp0 (p5_2 hx.size hy.size) Tryd.underlying27 rfl hz.info ?_) | (refine wpList_load_part rfl 27 _ rfl (w.heap.size) 15 rfl 29 (r4 xr yr zr tr) (0, 0) tr _ rp0 (p5_3 hx.size hy.size hz.size) Tryd.underlying27 rfl ht.info ?_) | fail)
 refine (c1.at _).mono ?_
 rintro e w2 ⟨rfl, hb⟩
 replace rp0 := keep hb rp0
 replace rp1 := keep hb rp1
 replace hw := Below.after hw hb
 clear hb
 go_wp2_with (first | (refine wpList_store_row rfl 27 _ _ rfl (w2.heap.size) x1 rfl rfl 27 #[.int .u64 0, .int .u64 0, .int .u64 0, .int .u64 0, .int .u64 0] (hp1_0 w2 _) h1.info (h1.fits rfl) h1.one ?_; rw [setRow_alloc_new _ _ _ _ _ _ (by simp)]) | fail | fail)
 have rl3 : (w2.alloc (.cells x1 27)).heap[w2.heap.size]? = some (.cells x1 27 (0, 0)) := hp1_0 w2 _
 have hb : Below w2.heap.size w2 (w2.alloc (.cells x1 27)) := ((Below.refl _ _).alloc (Nat.le_refl _) _)
 generalize (w2.alloc (.cells x1 27)) = wo at *
 have ygo_0 := lt_of_row rp0
 have ygo_1 := lt_of_row rp1
 have ygo := hw.size
 replace rp0 := keep hb rp0
 replace rp1 := keep hb rp1
 replace hw := Below.after hw hb
 clear hb
 generalize w2.heap.size = go at *
 clear w2
 try simp only [Act.put]
 have Hrp0 := keepr rp0
 have Hrp1 := keepr rp1
 have Hrl3 := keepr rl3
 refine wp_region_tail (C := fun w' => ∃ p : Regrown, w' = grow (redrawn wo p.d) p.os) 13 _ rfl rfl rfl (by kernel_rfl) (by kernel_rfl) (by kernel_rfl) (by kernel_rfl) ⟨⟨wo.drawn + 1, #[]⟩, by rw [grow_empty]; rfl⟩ ?_
 dsimp only [List.set, idle]
 go_big_quiet_step (fail)
 refine wpQuiet_load_part rfl 27 _ rfl (w.heap.size) 0 rfl 29 (r4 xr yr zr tr) (0, 0) xr _ Hrp0.out p_0 Tryd.underlying27 rfl hx.info ?_
 simp only [Act.put, List.setIfInBounds_toArray, List.set_cons_succ, List.set_cons_zero]
 go_big_quiet_step (fail)
 refine wpQuiet_load_part rfl 27 _ rfl (w.heap.size) 5 rfl 29 (r4 xr yr zr tr) (0, 0) yr _ Hrp0.out (p5_1 hx.size) Tryd.underlying27 rfl hy.info ?_
 simp only [Act.put, List.setIfInBounds_toArray, List.set_cons_succ, List.set_cons_zero]
 refine wpQuiet_load_row rfl 27 _ rfl (go) rfl 27 x1 (0, 0) _ Hrl3.out Tryd.underlying27 rfl h1.info ?_
 simp only [Act.put, List.setIfInBounds_toArray, List.set_cons_succ, List.set_cons_zero]
 go_big_quiet_step (exact c3.re)
 go_big_quiet_step (fail)
 refine wpQuiet_load_part rfl 27 _ rfl (w.heap.size) 10 rfl 29 (r4 xr yr zr tr) (0, 0) zr _ Hrp0.out (p5_2 hx.size hy.size) Tryd.underlying27 rfl hz.info ?_
 simp only [Act.put, List.setIfInBounds_toArray, List.set_cons_succ, List.set_cons_zero]
 refine wpQuiet_load_row rfl 27 _ rfl (go) rfl 27 x1 (0, 0) _ Hrl3.out Tryd.underlying27 rfl h1.info ?_
 simp only [Act.put, List.setIfInBounds_toArray, List.set_cons_succ, List.set_cons_zero]
 go_big_quiet_step (exact c4.re)
 go_big_quiet_step (fail)
 refine wpQuiet_load_part rfl 27 _ rfl (w.heap.size) 15 rfl 29 (r4 xr yr zr tr) (0, 0) tr _ Hrp0.out (p5_3 hx.size hy.size hz.size) Tryd.underlying27 rfl ht.info ?_
 simp only [Act.put, List.setIfInBounds_toArray, List.set_cons_succ, List.set_cons_zero]
 refine wpQuiet_build rfl 98 _ rfl [(0, .agg xr), (1, .agg x3), (2, .agg x4), (3, .agg tr)] rfl (r4 xr x3 x4 tr) (sp_built hx.size h3.size h4.size ht.size) ?_
 simp only [Act.put, List.setIfInBounds_toArray, List.set_cons_succ, List.set_cons_zero]
 refine wpQuiet_idle rfl rfl rfl ?_
 rintro _ ⟨p, rfl⟩
 have hb := below_regrown wo p.d p.os
 generalize grow (redrawn wo p.d) p.os = w5 at *
 replace rp0 := keep hb rp0
 replace rp1 := keep hb rp1
 replace rl3 := keep hb rl3
 replace hw := Below.after hw hb
 clear hb
 clear Hrp0 Hrp1 Hrl3
 go_wp2_with (first | (refine wpList_store_row rfl 98 _ _ rfl (w.heap.size + 1) (r4 xr x3 x4 tr) rfl rfl 98 _ rp1 (sp_info hx.size h3.size h4.size ht.size) ((show _ = 20 from rfl).trans (nums_size hx.size h3.size h4.size ht.size).symm) (r4_one hx.one h3.one h4.one ht.one) ?_) | fail)
 exact bodyPost_ret (v := .agg (r4 xr x3 x4 tr)) (results_cell_row Tryd.results75 _ _ (w.heap.size + 1) _ (r4 xr x3 x4 tr) _ _ rfl (setRow_heap _ _ _ _ _ _ rp1) Tryd.underlying98 rfl (sp_info hx.size h3.size h4.size ht.size)) rfl ⟨rfl, below_setRow hw (by omega) _⟩
set_option maxRecDepth 100000 in
set_option maxHeartbeats 8000000 in
theorem a_point {r : Array Value} {P : E1} (h : SpO r P) : ∃ t, PtO t P ∧ Gives4 79 #[.agg r] (.agg t) := by
 obtain ⟨xr, yr, zr, tr, X, Y, Z, T, rfl, hx, hy, hz, ht, hP⟩ := h
 obtain ⟨x1, h1, c1⟩ := a_small 1 (by decide) (by decide)
 obtain ⟨x3, h3, c3⟩ := a_sub hy h1
 obtain ⟨x4, h4, c4⟩ := a_sub hz h1
 refine ⟨_, ⟨xr, x3, x4, tr, _, _, _, _, rfl, hx, h3, h4, ht, (by rw [Int.sub_add_cancel, Int.sub_add_cancel]; exact hP)⟩, fun w hF => ?_⟩
 have rp0 : ((w.alloc (.cells (r4 xr yr zr tr) 98)).alloc (.cells #[.int .u64 0, .int .u64 0, .int .u64 0, .int .u64 0, .int .u64 0, .int .u64 0, .int .u64 0, .int .u64 0, .int .u64 0, .int .u64 0, .int .u64 0, .int .u64 0, .int .u64 0, .int .u64 0, .int .u64 0, .int .u64 0, .int .u64 0, .int .u64 0, .int .u64 0, .int .u64 0] 29)).heap[w.heap.size]? = some (.cells (r4 xr yr zr tr) 98 (0, 0)) := hp2_0 w _ _
 have rp1 : ((w.alloc (.cells (r4 xr yr zr tr) 98)).alloc (.cells #[.int .u64 0, .int .u64 0, .int .u64 0, .int .u64 0, .int .u64 0, .int .u64 0, .int .u64 0, .int .u64 0, .int .u64 0, .int .u64 0, .int .u64 0, .int .u64 0, .int .u64 0, .int .u64 0, .int .u64 0, .int .u64 0, .int .u64 0, .int .u64 0, .int .u64 0, .int .u64 0] 29)).heap[w.heap.size + 1]? = some (.cells #[.int .u64 0, .int .u64 0, .int .u64 0, .int .u64 0, .int .u64 0, .int .u64 0, .int .u64 0, .int .u64 0, .int .u64 0, .int .u64 0, .int .u64 0, .int .u64 0, .int .u64 0, .int .u64 0, .int .u64 0, .int .u64 0, .int .u64 0, .int .u64 0, .int .u64 0, .int .u64 0] 29 (0, 0)) := hp2_1 w _ _
 have hw : Below w.heap.size w ((w.alloc (.cells (r4 xr yr zr tr) 98)).alloc (.cells #[.int .u64 0, .int .u64 0, .int .u64 0, .int .u64 0, .int .u64 0, .int .u64 0, .int .u64 0, .int .u64 0, .int .u64 0, .int .u64 0, .int .u64 0, .int .u64 0, .int .u64 0, .int .u64 0, .int .u64 0, .int .u64 0, .int .u64 0, .int .u64 0, .int .u64 0, .int .u64 0] 29)) := (((Below.refl _ _).alloc (Nat.le_refl _) _).alloc (by simp) _)
 have hz0 := hF.1
 have f4 : Four ((w.alloc (.cells (r4 xr yr zr tr) 98)).alloc (.cells #[.int .u64 0, .int .u64 0, .int .u64 0, .int .u64 0, .int .u64 0, .int .u64 0, .int .u64 0, .int .u64 0, .int .u64 0, .int .u64 0, .int .u64 0, .int .u64 0, .int .u64 0, .int .u64 0, .int .u64 0, .int .u64 0, .int .u64 0, .int .u64 0, .int .u64 0, .int .u64 0] 29)) := ((hF.alloc _).alloc _)
 go_enter Tryd.func79, Tryd.ntmps79
 iterate 9 go_step
 generalize ((w.alloc (.cells (r4 xr yr zr tr) 98)).alloc (.cells #[.int .u64 0, .int .u64 0, .int .u64 0, .int .u64 0, .int .u64 0, .int .u64 0, .int .u64 0, .int .u64 0, .int .u64 0, .int .u64 0, .int .u64 0, .int .u64 0, .int .u64 0, .int .u64 0, .int .u64 0, .int .u64 0, .int .u64 0, .int .u64 0, .int .u64 0, .int .u64 0] 29)) = w0 at *
 go_wp2_with (first | (refine wpList_load_want rfl 98 _ rfl (w.heap.size) rfl 98 (r4 xr yr zr tr) (0, 0) _ rp0 Tryd.underlying98 rfl (sp_info hx.size hy.size hz.size ht.size) ?_) | (refine wpList_load_want rfl 29 _ rfl (w.heap.size + 1) rfl 29 #[.int .u64 0, .int .u64 0, .int .u64 0, .int .u64 0, .int .u64 0, .int .u64 0, .int .u64 0, .int .u64 0, .int .u64 0, .int .u64 0, .int .u64 0, .int .u64 0, .int .u64 0, .int .u64 0, .int .u64 0, .int .u64 0, .int .u64 0, .int .u64 0, .int .u64 0, .int .u64 0] (0, 0) _ rp1 Tryd.underlying29 rfl (by kernel_rfl) ?_) | (refine wpList_load_part rfl 27 _ rfl (w.heap.size) 0 rfl 98 (r4 xr yr zr tr) (0, 0) xr _ rp0 p_0 Tryd.underlying27 rfl hx.info ?_) | (refine wpList_load_part rfl 27 _ rfl (w.heap.size) 5 rfl 98 (r4 xr yr zr tr) (0, 0) yr _ rp0 (p5_1 hx.size) Tryd.underlying27 rfl hy.info ?_) | (refine wpList_load_part rfl 27 _ rfl (w.heap.size) 10 rfl 98 (r4 xr yr zr tr) (0, 0) zr _ rp0 (p5_2 hx.size hy.size) Tryd.underlying27 rfl hz.info ?_) | (refine wpList_load_part rfl 27 _ rfl (w.heap.size) 15 rfl 98 (r4 xr yr zr tr) (0, 0) tr _ rp0 (p5_3 hx.size hy.size hz.size) Tryd.underlying27 rfl ht.info ?_) | fail)
 refine (c1.at _).mono ?_
 rintro e w2 ⟨rfl, hb⟩
 replace rp0 := keep hb rp0
 replace rp1 := keep hb rp1
 replace hw := Below.after hw hb
 replace f4 := f4.below hb
 clear hb
 go_wp2_with (first | (refine wpList_store_row rfl 27 _ _ rfl (w2.heap.size) x1 rfl rfl 27 #[.int .u64 0, .int .u64 0, .int .u64 0, .int .u64 0, .int .u64 0] (hp1_0 w2 _) h1.info (h1.fits rfl) h1.one ?_; rw [setRow_alloc_new _ _ _ _ _ _ (by simp)]) | fail | fail)
 have rl3 : (w2.alloc (.cells x1 27)).heap[w2.heap.size]? = some (.cells x1 27 (0, 0)) := hp1_0 w2 _
 have hb : Below w2.heap.size w2 (w2.alloc (.cells x1 27)) := ((Below.refl _ _).alloc (Nat.le_refl _) _)
 generalize (w2.alloc (.cells x1 27)) = wo at *
 have ygo_0 := lt_of_row rp0
 have ygo_1 := lt_of_row rp1
 have ygo := hw.size
 have zgo := f4.1
 replace rp0 := keep hb rp0
 replace rp1 := keep hb rp1
 replace hw := Below.after hw hb
 replace f4 := f4.below hb
 clear hb
 generalize w2.heap.size = go at *
 clear w2
 try simp only [Act.put]
 have Hrp0 := keepr rp0
 have Hrp1 := keepr rp1
 have Hrl3 := keepr rl3
 refine wp_region_tail (C := fun w' => ∃ p : Regrown, w' = grow (redrawn wo p.d) p.os) 13 _ rfl rfl rfl (by kernel_rfl) (by kernel_rfl) (by kernel_rfl) (by kernel_rfl) ⟨⟨wo.drawn + 1, #[]⟩, by rw [grow_empty]; rfl⟩ ?_
 dsimp only [List.set, idle]
 go_big_quiet_step (fail)
 refine wpQuiet_load_part rfl 27 _ rfl (w.heap.size) 0 rfl 98 (r4 xr yr zr tr) (0, 0) xr _ Hrp0.out p_0 Tryd.underlying27 rfl hx.info ?_
 simp only [Act.put, List.setIfInBounds_toArray, List.set_cons_succ, List.set_cons_zero]
 go_big_quiet_step (fail)
 refine wpQuiet_load_part rfl 27 _ rfl (w.heap.size) 5 rfl 98 (r4 xr yr zr tr) (0, 0) yr _ Hrp0.out (p5_1 hx.size) Tryd.underlying27 rfl hy.info ?_
 simp only [Act.put, List.setIfInBounds_toArray, List.set_cons_succ, List.set_cons_zero]
 refine wpQuiet_load_row rfl 27 _ rfl (go) rfl 27 x1 (0, 0) _ Hrl3.out Tryd.underlying27 rfl h1.info ?_
 simp only [Act.put, List.setIfInBounds_toArray, List.set_cons_succ, List.set_cons_zero]
 go_big_quiet_step (exact c3.re f4)
 go_big_quiet_step (fail)
 refine wpQuiet_load_part rfl 27 _ rfl (w.heap.size) 10 rfl 98 (r4 xr yr zr tr) (0, 0) zr _ Hrp0.out (p5_2 hx.size hy.size) Tryd.underlying27 rfl hz.info ?_
 simp only [Act.put, List.setIfInBounds_toArray, List.set_cons_succ, List.set_cons_zero]
 refine wpQuiet_load_row rfl 27 _ rfl (go) rfl 27 x1 (0, 0) _ Hrl3.out Tryd.underlying27 rfl h1.info ?_
 simp only [Act.put, List.setIfInBounds_toArray, List.set_cons_succ, List.set_cons_zero]
 go_big_quiet_step (exact c4.re f4)
 go_big_quiet_step (fail)
 refine wpQuiet_load_part rfl 27 _ rfl (w.heap.size) 15 rfl 98 (r4 xr yr zr tr) (0, 0) tr _ Hrp0.out (p5_3 hx.size hy.size hz.size) Tryd.underlying27 rfl ht.info ?_
 simp only [Act.put, List.setIfInBounds_toArray, List.set_cons_succ, List.set_cons_zero]
 refine wpQuiet_build rfl 29 _ rfl [(0, .agg xr), (1, .agg x3), (2, .agg x4), (3, .agg tr)] rfl (r4 xr x3 x4 tr) (pt_built hx.size h3.size h4.size ht.size) ?_
 simp only [Act.put, List.setIfInBounds_toArray, List.set_cons_succ, List.set_cons_zero]
 refine wpQuiet_idle rfl rfl rfl ?_
 rintro _ ⟨p, rfl⟩
 have hb := below_regrown wo p.d p.os
 generalize grow (redrawn wo p.d) p.os = w5 at *
 replace rp0 := keep hb rp0
 replace rp1 := keep hb rp1
 replace rl3 := keep hb rl3
 replace hw := Below.after hw hb
 replace f4 := f4.below hb
 clear hb
 clear Hrp0 Hrp1 Hrl3
 go_wp2_with (first | (refine wpList_store_row rfl 29 _ _ rfl (w.heap.size + 1) (r4 xr x3 x4 tr) rfl rfl 29 _ rp1 (pt_info hx.size h3.size h4.size ht.size) ((show _ = 20 from rfl).trans (nums_size hx.size h3.size h4.size ht.size).symm) (r4_one hx.one h3.one h4.one ht.one) ?_) | fail)
 exact bodyPost_ret (v := .agg (r4 xr x3 x4 tr)) (results_cell_row Tryd.results79 _ _ (w.heap.size + 1) _ (r4 xr x3 x4 tr) _ _ rfl (setRow_heap _ _ _ _ _ _ rp1) Tryd.underlying29 rfl (pt_info hx.size h3.size h4.size ht.size)) rfl ⟨rfl, below_setRow hw (by omega) _⟩
end Go.Proofs.YtgfhoabgbgddbaaDoor

