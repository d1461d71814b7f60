import Derived.Test.YtajaiiidafkijaaDoorMEc
import Derived.Test.YtajaiiidafkijaaDoorProg
import Derived.WalkKit
import Derived.WalkSpells
import Derived.WalkLawsBesides
import Derived.Lib.QuietBelow
import Derived.BigQuiet
import Derived.Test.YtajaiiidafkijaaDoorMKa
import Derived.Test.YtajaiiidafkijaaDoorMDwf
import Derived.Test.YtajaiiidafkijaaDoorMGs
import Derived.Test.YtajaiiidafkijaaDoorMFc
namespace Go.Proofs.YtajaiiidafkijaaDoor
set_option maxRecDepth 100000
def bp : E1 := ⟨48124660576694895147914813076284018110470804336376098912894897995932653867602, 46316835694926478169428394003475163141307993866256225615783033603165251855960, by decide, by decide, by unfold Zp; decide +kernel⟩
theorem bp_tx : tx bp = 15112221349535400772501151409588531511454012693041857206046113283949847762202 := by decide +kernel
theorem bp_ne : bp ≠ ze := fun h => by
 have := congrArg EP.y h
 revert this
 decide
theorem bp_order : ml ell bp = ze := ell_kills nsq_1 (Or.inl ⟨rfl, ec1_eq⟩) (by unfold Zp; decide +kernel) (by unfold Zp; decide +kernel)
def t8 : E1 := ⟨55188659117513257062467267217118295137698188065244968500265048394206261417927, 2707385501144840649318225287225658788936804267575313519463743609750303402022, by decide, by decide, by unfold Zp; decide +kernel⟩
def t4 : E1 := ⟨57896044618658097711785492504343953926634992332820282019728792003956564819948, 0, by decide, by decide, by unfold Zp; decide +kernel⟩
def t2 : E1 := ⟨0, 57896044618658097711785492504343953926634992332820282019728792003956564819948, by decide, by decide, by unfold Zp; decide +kernel⟩
theorem t8_two : pl t8 t8 = t4 := EP.add_is nsq_1 (by unfold Zp; decide +kernel) (by unfold Zp; decide +kernel)
theorem t4_two : pl t4 t4 = t2 := EP.add_is nsq_1 (by unfold Zp; decide +kernel) (by unfold Zp; decide +kernel)
theorem t2_two : pl t2 t2 = ze := EP.add_is nsq_1 (by unfold Zp; decide +kernel) (by unfold Zp; decide +kernel)
theorem ml_t4 : ml 2 t8 = t4 := by rw [show 2 = 2 * 1 from rfl, ← ml_two, ml_one, t8_two]
theorem ml_t2 : ml 4 t8 = t2 := by rw [show 4 = 2 * 2 from rfl, ← ml_two, ml_t4, t4_two]
theorem ml_t1 : ml 8 t8 = ze := by rw [show 8 = 2 * 4 from rfl, ← ml_two, ml_t2, t2_two]
theorem t2_ne : t2 ≠ ze := fun h => by
 have := congrArg EP.y h
 revert this
 decide
theorem gcd8 {i : Nat} (h : i < 8) : i = 0 ∨ ∃ k, 4 = k * Nat.gcd 8 i := by
 match i, h with
 | 0, _ => exact Or.inl rfl
 | 1, _ => exact Or.inr ⟨4, by decide⟩
 | 2, _ => exact Or.inr ⟨2, by decide⟩
 | 3, _ => exact Or.inr ⟨4, by decide⟩
 | 4, _ => exact Or.inr ⟨1, by decide⟩
 | 5, _ => exact Or.inr ⟨4, by decide⟩
 | 6, _ => exact Or.inr ⟨2, by decide⟩
 | 7, _ => exact Or.inr ⟨4, by decide⟩
theorem t8_small {i : Nat} (h : i < 8) (g : ml i t8 = ze) : i = 0 := by
 have hg : ml (Nat.gcd 8 i) t8 = ze := EP.mul_gcd nsq_1 8 i ml_t1 g
 rcases gcd8 h with e | ⟨k, e⟩
 ·exact e
 ·exact (t2_ne (by rw [← ml_t2, e, ← ml_ml, hg, ml_ze])).elim
theorem bp_div {m : Nat} (g : ml m bp = ze) : ell ∣ m := by
 have hg : ml (Nat.gcd ell m) bp = ze := EP.mul_gcd nsq_1 ell m bp_order g
 rcases ell_prime.2 _ (Nat.gcd_dvd_left ell m) with e | e
 ·rw [e, ml_one] at hg; exact (bp_ne hg).elim
 ·have := Nat.gcd_dvd_right ell m; rw [e] at this; exact this
theorem ml_sub {P : E1} {a b : Nat} (h : ml a P = ml b P) (hl : a ≤ b) : ml (b - a) P = ze := by
 have e : b = (b - a) + a := by omega
 rw [e, ml_add] at h
 have : pl ze (ml a P) = pl (ml (b - a) P) (ml a P) := by rw [ze_pl]; exact h
 exact (pl_cancel this).symm
theorem ell_big : 8 < ell := by decide
theorem bp_eight {j k : Nat} (hj : j < ell) (hk : k < ell) (h : ml (8 * j) bp = ml (8 * k) bp) : j = k := by
 have aux : ∀ j k : Nat, k < ell → j ≤ k → ml (8 * j) bp = ml (8 * k) bp → j = k := by
  intro j k hk hl h
  have hd := bp_div (ml_sub h (by omega))
  rw [← Nat.mul_sub] at hd
  rcases ell_prime.euclid hd with g | g
  ·exact (not_dvd_of_lt (by decide) ell_big g).elim
  ·rcases Nat.eq_zero_or_pos (k - j) with e | e
   ·omega
   ·exact (not_dvd_of_lt e (by omega) g).elim
 rcases Nat.le_total j k with hl | hl
 ·exact aux j k hk hl h
 ·exact (aux k j hj hl h.symm).symm
theorem t8_inj {i j : Nat} (hi : i < 8) (hj : j < 8) (h : ml i t8 = ml j t8) : i = j := by
 rcases Nat.le_total i j with hl | hl
 ·have := t8_small (by omega) (ml_sub h hl); omega
 ·have := t8_small (by omega) (ml_sub h.symm hl); omega
/-! So many places, so many points. -/
theorem pigeon : ∀ (m n : Nat) (f : Nat → Nat), (∀ i, i < n → f i < m) → (∀ i j, i < n → j < n → f i = f j → i = j) → n ≤ m
 | 0, n, f, h, _ => by
  rcases Nat.eq_zero_or_pos n with e | e
  ·omega
  ·exact absurd (h 0 e) (by omega)
 | m + 1, n, f, h, hi => by
  by_cases hh : ∃ k, k < n ∧ f k = m
  ·obtain ⟨k, hk, hf⟩ := hh
   have : n - 1 ≤ m := pigeon m (n - 1) (fun i => if i < k then f i else f (i + 1)) (by
    intro i hin
    show (if i < k then f i else f (i + 1)) < m
    split
    ·rename_i g
     have h1 := h i (by omega)
     rcases Nat.lt_or_ge (f i) m with q | q
     ·exact q
     ·have := hi i k (by omega) hk (by omega); omega
    ·rename_i g
     have h1 := h (i + 1) (by omega)
     rcases Nat.lt_or_ge (f (i + 1)) m with q | q
     ·exact q
     ·have := hi (i + 1) k (by omega) hk (by omega); omega) (by
    intro i j hin hjn he
    have he : (if i < k then f i else f (i + 1)) = (if j < k then f j else f (j + 1)) := he
    split at he <;> split at he
    ·exact hi i j (by omega) (by omega) he
    ·have := hi i (j + 1) (by omega) (by omega) he; omega
    ·have := hi (i + 1) j (by omega) (by omega) he; omega
    ·have := hi (i + 1) (j + 1) (by omega) (by omega) he; omega)
   omega
  ·have : n ≤ m := pigeon m n f (by
    intro i hin
    have h1 := h i hin
    rcases Nat.lt_or_ge (f i) m with q | q
    ·exact q
    ·exact (hh ⟨i, hin, by omega⟩).elim) hi
   omega
def code (Q : E1) : Nat := (2 * Q.y + tx Q % 2).toNat
theorem code_lt (Q : E1) : code Q < 115792089237316195423570985008687907853269984665640564039457584007913129639898 := by
 have h1 := y_bd Q
 have h2 : 0 ≤ tx Q % 2 ∧ tx Q % 2 < 2 := ⟨Int.emod_nonneg _ (by decide), Int.emod_lt_of_pos _ (by decide)⟩
 rw [prm_is] at h1
 unfold code
 omega
theorem code_inj {P Q : E1} (h : code P = code Q) : P = Q := by
 have h1 := y_bd P
 have h2 := y_bd Q
 have h3 : 0 ≤ tx P % 2 ∧ tx P % 2 < 2 := ⟨Int.emod_nonneg _ (by decide), Int.emod_lt_of_pos _ (by decide)⟩
 have h4 : 0 ≤ tx Q % 2 ∧ tx Q % 2 < 2 := ⟨Int.emod_nonneg _ (by decide), Int.emod_lt_of_pos _ (by decide)⟩
 unfold code at h
 have e1 : P.y = Q.y := by omega
 have e2 : tx P % 2 = tx Q % 2 := by omega
 exact pb_inj (by unfold pb; rw [e1, e2])
theorem gone_t8 (m i : Nat) : ml (8 * m) (ml i t8) = ze := by rw [ml_ml, Nat.mul_assoc, Nat.mul_comm 8, ← ml_ml, ml_t1, ml_ze]
theorem gone_bp (m j : Nat) : ml (m * ell) (ml j bp) = ze := by rw [ml_ml, Nat.mul_right_comm, ← ml_ml, bp_order, ml_ze]
theorem zero_or_one {b : Nat} (h : b < 2) : b = 0 ∨ b = 1 := by omega
theorem all_gone (P : E1) : ml (8 * ell) P = ze := by
 by_cases hne : ml (8 * ell) P = ze
 ·exact hne
 exfalso
 have key := pigeon 115792089237316195423570985008687907853269984665640564039457584007913129639898 (16 * ell) (fun k => code (pl (pl (ml (k % 8) t8) (ml (k / 8 % ell) bp)) (ml (k / 8 / ell) P))) (fun k _ => code_lt _) (by
  intro k l hk hl he
  have he := code_inj he
  have e0 : 0 < ell := by decide
  have bk : k / 8 / ell < 2 := Nat.div_lt_of_lt_mul (Nat.div_lt_of_lt_mul (by omega))
  have bl : l / 8 / ell < 2 := Nat.div_lt_of_lt_mul (Nat.div_lt_of_lt_mul (by omega))
  have jk : k / 8 % ell < ell := Nat.mod_lt _ e0
  have jl : l / 8 % ell < ell := Nat.mod_lt _ e0
  have ik : k % 8 < 8 := Nat.mod_lt _ (by decide)
  have il : l % 8 < 8 := Nat.mod_lt _ (by decide)
  have dk := Nat.div_add_mod (k / 8) ell
  have dl := Nat.div_add_mod (l / 8) ell
  have d8k := Nat.div_add_mod k 8
  have d8l := Nat.div_add_mod l 8
  have h8 : ∀ b, ml (8 * ell) (ml b P) = ml b (ml (8 * ell) P) := fun b => by rw [ml_ml, ml_ml, Nat.mul_comm]
  generalize k / 8 / ell = b at *
  generalize l / 8 / ell = b' at *
  generalize k / 8 % ell = j at *
  generalize l / 8 % ell = j' at *
  generalize k % 8 = i at *
  generalize l % 8 = i' at *
  have hm := congrArg (ml (8 * ell)) he
  simp only [ml_pl, gone_t8, gone_bp, ze_pl, h8] at hm
  have hb : b = b' := by
   rcases zero_or_one bk with rfl | rfl <;> rcases zero_or_one bl with rfl | rfl
   ·rfl
   ·rw [ml_zero, ml_one] at hm; exact (hne hm.symm).elim
   ·rw [ml_zero, ml_one] at hm; exact (hne hm).elim
   ·rfl
  subst hb
  have hc := pl_cancel he
  have h3 := congrArg (ml 8) hc
  have g8 : ∀ i, ml 8 (ml i t8) = ze := fun i => gone_t8 1 i
  simp only [ml_pl, g8, ze_pl, ml_ml] at h3
  have hj := bp_eight jk jl h3
  subst hj
  have hi := t8_inj ik il (pl_cancel hc)
  subst hi
  rw [← d8k, ← d8l, ← dk, ← dl])
 revert key
 unfold ell
 decide
end Go.Proofs.YtajaiiidafkijaaDoor
namespace Go.Proofs.YtajaiiidafkijaaDoor
set_option maxRecDepth 100000
open Go.RowKit Go.Sort
attribute [local go_sem] setCell_drewN alloc_drewN
def Edw (w : World) : Prop := Both w ∧ (∃ t fr, w.heap[0]? = some (.cells (kb (tx bp)) t fr)) ∧ (∃ t fr, w.heap[1]? = some (.cells (kb bp.y) t fr))
theorem Edw.sz {w : World} (h : Edw w) : 4 < w.heap.size := h.1.sz
theorem Edw.belowN {w w' : World} {m : Nat} (h : Edw w) (hm : 4 < m) (hb : Below m w w') : Edw w' := by
 obtain ⟨h1, ⟨t, fr, h2⟩, ⟨t', fr', h3⟩⟩ := h
 exact ⟨h1.belowN hm hb, ⟨t, fr, (hb.block _ (by omega)).trans h2⟩, ⟨t', fr', (hb.block _ (by omega)).trans h3⟩⟩
theorem Edw.below {w w' : World} (h : Edw w) (hb : Below w.heap.size w w') : Edw w' := h.belowN h.sz hb
theorem Edw.alloc {w : World} (h : Edw w) (o : Obj) : Edw (w.alloc o) := h.below ((Below.refl _ _).alloc (Nat.le_refl _) _)
theorem Edw.setRow {w : World} {g : Nat} (h : Edw w) (hg : 4 < g) (cs : Array Value) : Edw (w.setRow g cs) := h.belowN (Nat.lt_succ_self _) (below_setRow (Below.refl _ _) hg cs)
def GivesE (f : FuncId) (args : Array Value) (v : Value) : Prop := ∀ W, Edw W → Calls Tryd.prog f args W fun e w' => e = .returned v ∧ Below W.heap.size W w'
theorem GivesE.at {f : FuncId} {args : Array Value} {v : Value} (h : GivesE f args v) {W : World} (hW : Edw W) : Calls Tryd.prog f args W fun e w' => e = .returned v ∧ Below W.heap.size W w' := h W hW
theorem GivesE.re {f : FuncId} {args : Array Value} {v : Value} (h : GivesE f args v) {w : World} {d : Nat} {os : Array Obj} (hw : Edw w) : Calls Tryd.prog f args (grow (redrawn w d) os) fun e w'' => e = .returned v ∧ ∃ p : Regrown, w'' = grow (redrawn w p.d) p.os := Calls.regrown_of (h _ (hw.below (below_regrown w d os)))
theorem txbp_key : KeyOf (kb (tx bp)) (tx bp) := kb_key _ (tx_bd bp).1 (by have := (tx_bd bp).2; rw [prm_is] at this; omega)
set_option maxRecDepth 100000 in
set_option maxHeartbeats 8000000 in
theorem a_Base : ∃ t, PtO t bp ∧ GivesE 19 #[] (.agg t) := by
 obtain ⟨xr, hx0, cX⟩ := a_from txbp_key
 have hx : NumOf xr (tx bp) := hx0.congr (by decide +kernel)
 obtain ⟨yr, hy0, cY⟩ := a_from (y_key bp)
 have hy : NumOf yr bp.y := hy0.congr (by decide +kernel)
 clear hx0 hy0
 obtain ⟨s, hs, cS⟩ := a_flat (P := bp) hx hy (by rw [Int.sub_self]; exact zp_zero) (by rw [Int.sub_self]; exact zp_zero)
 obtain ⟨t, ht, cP⟩ := a_point hs
 refine ⟨t, ht, fun w hF => ?_⟩
 go_enter Tryd.func19, Tryd.ntmps19
 go_wp2
 have rp0 : (w.alloc (.cells q20 45)).heap[w.heap.size]? = some (.cells q20 45 (0, 0)) := hp1_0 w _
 have hw : Below w.heap.size w (w.alloc (.cells q20 45)) := ((Below.refl _ _).alloc (Nat.le_refl _) _)
 have hz0 := hF.sz
 have f4 : Edw (w.alloc (.cells q20 45)) := (hF.alloc _)
 generalize (w.alloc (.cells q20 45)) = w0 at *
 obtain ⟨⟨tA, fA, gA⟩, ⟨tB, fB, gB⟩⟩ := f4.2
 have Hrp0 := keepr rp0
 have HgA := keepr gA
 have HgB := keepr gB
 refine wp_region_tail (C := fun w' => ∃ p : Regrown, w' = grow (redrawn w0 p.d) p.os) 6 _ rfl rfl rfl (by kernel_rfl) (by kernel_rfl) (by kernel_rfl) (by kernel_rfl) ⟨⟨w0.drawn + 1, #[]⟩, by rw [grow_empty]; rfl⟩ ?_
 dsimp only [List.set, idle]
 refine wpQuiet_load_row rfl 25 _ rfl (0) rfl tA (kb (tx bp)) fA _ HgA.out Tryd.underlying25 rfl txbp_key.info ?_
 simp only [Act.put, ZPd, ZPe, ZPf]
 go_big_quiet_step (exact cX.re)
 refine wpQuiet_load_row rfl 25 _ rfl (1) rfl tB (kb bp.y) fB _ HgB.out Tryd.underlying25 rfl (y_key bp).info ?_
 simp only [Act.put, ZPd, ZPe, ZPf]
 go_big_quiet_step (exact cY.re)
 go_big_quiet_step (exact cS.re)
 go_big_quiet_step (exact cP.re f4.1.1)
 refine wpQuiet_idle rfl rfl rfl ?_
 rintro _ ⟨p, rfl⟩
 have hb := below_regrown w0 p.d p.os
 generalize grow (redrawn w0 p.d) p.os = w5 at *
 replace rp0 := keep hb rp0
 replace gA := keep hb gA
 replace gB := keep hb gB
 replace hw := Below.after hw hb
 replace f4 := f4.below hb
 clear hb
 clear Hrp0 HgA HgB
 go_wp2_with (first | (refine wpList_store_row rfl 45 _ _ rfl (w.heap.size) t rfl rfl 45 _ rp0 ht.info ((show _ = 20 from rfl).trans ht.size.symm) ht.one ?_) | fail)
 exact bodyPost_ret (v := .agg t) (results_cell_row Tryd.results19 _ _ (w.heap.size) _ t _ _ rfl (setRow_heap _ _ _ _ _ _ rp0) Tryd.underlying45 rfl ht.info) rfl ⟨rfl, below_setRow hw (by omega) _⟩
set_option maxRecDepth 100000 in
set_option maxHeartbeats 8000000 in
theorem a_samep {r s : Array Value} {P Q : E1} (h : PtO r P) (g : PtO s Q) (e : P = Q) : Gives 57 #[.agg r, .agg s] (.bool true) := by
 subst e
 have heq : ∀ W, (Op.equalIn 10000 25 (.agg (kb (pb P))) (.agg (kb (pb P)))).run Tryd.prog W = .ok true W := fun W => by
  rw [kb_equal _ _ (pb_bd P).1 (pb_bd P).2 (pb_bd P).1 (pb_bd P).2]; simp
 have c2 := a_Bytes h
 have c3 := a_Bytes g
 have c4 := a_Equal h g
 rw [eqb_self] at c4
 intro w
 go_enter Tryd.func57, Tryd.ntmps57
 go_wp2
 have rp0 : ((w.alloc (.cells r 45)).alloc (.cells s 45)).heap[w.heap.size]? = some (.cells r 45 (0, 0)) := hp2_0 w _ _
 have rp1 : ((w.alloc (.cells r 45)).alloc (.cells s 45)).heap[w.heap.size + 1]? = some (.cells s 45 (0, 0)) := hp2_1 w _ _
 have hw : Below w.heap.size w ((w.alloc (.cells r 45)).alloc (.cells s 45)) := (((Below.refl _ _).alloc (Nat.le_refl _) _).alloc (by simp) _)
 generalize ((w.alloc (.cells r 45)).alloc (.cells s 45)) = w0 at *
 have Hrp0 := keepr rp0
 have Hrp1 := keepr rp1
 refine wp_region_quiet_below (by kernel_rfl) (by kernel_rfl) ?_
 refine wpQuiet_load_row rfl 45 _ rfl (w.heap.size) rfl 45 r (0, 0) _ Hrp0.out Tryd.underlying45 rfl h.info ?_
 simp only [Act.put, ZPd, ZPe, ZPf]
 go_big_quiet_step (exact c2.re)
 refine wpQuiet_load_row rfl 45 _ rfl (w.heap.size + 1) rfl 45 s (0, 0) _ Hrp1.out Tryd.underlying45 rfl g.info ?_
 simp only [Act.put, ZPd, ZPe, ZPf]
 go_big_quiet_step (exact c3.re)
 go_big_quiet_step (fail)
 go_big_quiet_step (fail)
 refine wpQuiet_load_want rfl 45 _ rfl (w.heap.size) rfl 45 r (0, 0) _ Hrp0.out Tryd.underlying45 rfl h.info ?_
 simp only [Act.put, ZPd, ZPe, ZPf]
 refine wpQuiet_load_want rfl 45 _ rfl (w.heap.size + 1) rfl 45 s (0, 0) _ Hrp1.out Tryd.underlying45 rfl g.info ?_
 simp only [Act.put, ZPd, ZPe, ZPf]
 go_big_quiet_step (exact c4.re)
 go_big_quiet_step (fail)
 go_big_quiet_step (fail)
 refine wpQuiet_nil ?_
 rintro _ ⟨p, rfl⟩
 have hb := below_regrown w0 p.d p.os
 generalize grow (redrawn w0 p.d) p.os = w1 at *
 replace rp0 := keep hb rp0
 replace rp1 := keep hb rp1
 replace hw := Below.after hw hb
 clear hb
 clear Hrp0 Hrp1
 go_wp2
 go_ret
 exact ⟨rfl, hw⟩
def rowb (i : Nat) : Array Value := (List.replicate i (Value.int .u8 102) ++ List.replicate (32 - i) (Value.int .u8 0)).toArray
theorem rowb_next (i : Nat) (h : i < 32) : (rowb i).setIfInBounds i (.int .u8 102) = rowb (i + 1) := by
 rcases (by omega : i = 0 ∨ i = 1 ∨ i = 2 ∨ i = 3 ∨ i = 4 ∨ i = 5 ∨ i = 6 ∨ i = 7 ∨ i = 8 ∨ i = 9 ∨ i = 10 ∨ i = 11 ∨ i = 12 ∨ i = 13 ∨ i = 14 ∨ i = 15 ∨ i = 16 ∨ i = 17 ∨ i = 18 ∨ i = 19 ∨ i = 20 ∨ i = 21 ∨ i = 22 ∨ i = 23 ∨ i = 24 ∨ i = 25 ∨ i = 26 ∨ i = 27 ∨ i = 28 ∨ i = 29 ∨ i = 30 ∨ i = 31) with rfl | rfl | rfl | rfl | rfl | rfl | rfl | rfl | rfl | rfl | rfl | rfl | rfl | rfl | rfl | rfl | rfl | rfl | rfl | rfl | rfl | rfl | rfl | rfl | rfl | rfl | rfl | rfl | rfl | rfl | rfl | rfl <;> rfl
theorem rowb_size (i : Nat) (h : i ≤ 32) : (rowb i).size = 32 := by simp [rowb]; omega
theorem rowb_end : (rowb 32).setIfInBounds 0 (.int .u8 88) = kb (pb bp) := by
 have e : pb bp = 46316835694926478169428394003475163141307993866256225615783033603165251855960 := by decide +kernel
 rw [e]
 rfl
theorem ux_is {y z : Int} (h : Zp ((1 - y) * z - 1)) (h2 : Zp ((1 + y) - 9 * (1 - y))) : (1 + y) * z % prm = 9 := mod_of (zp_lin2 9 z h h2 (by grind)) (by decide) (by decide)
theorem ux_of (P : E1) (hn : ¬ Zp (1 - P.y)) (h : Zp ((1 + P.y) - 9 * (1 - P.y))) : ux P = 9 := ux_is (iv_mul hn) h
theorem ux_bp : ux bp = 9 := ux_of bp (by unfold Zp; decide +kernel) (by unfold Zp; decide +kernel)
theorem nine_of {u : Int} (h : u = 9) : #[.int .u8 9, .int .u8 0, .int .u8 0, .int .u8 0, .int .u8 0, .int .u8 0, .int .u8 0, .int .u8 0, .int .u8 0, .int .u8 0, .int .u8 0, .int .u8 0, .int .u8 0, .int .u8 0, .int .u8 0, .int .u8 0, .int .u8 0, .int .u8 0, .int .u8 0, .int .u8 0, .int .u8 0, .int .u8 0, .int .u8 0, .int .u8 0, .int .u8 0, .int .u8 0, .int .u8 0, .int .u8 0, .int .u8 0, .int .u8 0, .int .u8 0, .int .u8 0] = kb u := by subst h; rfl
theorem nine_kb : #[.int .u8 9, .int .u8 0, .int .u8 0, .int .u8 0, .int .u8 0, .int .u8 0, .int .u8 0, .int .u8 0, .int .u8 0, .int .u8 0, .int .u8 0, .int .u8 0, .int .u8 0, .int .u8 0, .int .u8 0, .int .u8 0, .int .u8 0, .int .u8 0, .int .u8 0, .int .u8 0, .int .u8 0, .int .u8 0, .int .u8 0, .int .u8 0, .int .u8 0, .int .u8 0, .int .u8 0, .int .u8 0, .int .u8 0, .int .u8 0, .int .u8 0, .int .u8 0] = kb (ux bp) := nine_of ux_bp
theorem bp_twice : eqb (pl bp bp) bp = false := by
 rw [← Bool.not_eq_true, eqb_iff]
 intro h
 have : pl bp bp = pl ze bp := by rw [ze_pl]; exact h
 exact bp_ne (pl_cancel this)
theorem bp_neutral : eqb bp ze = false := by
 rw [← Bool.not_eq_true, eqb_iff]
 exact bp_ne
set_option maxRecDepth 100000 in
set_option maxHeartbeats 8000000 in
theorem lives_aux {t : Array Value} {U V : Int} {B : E1} (ht : PtO t B) (cBa : GivesE 19 #[] (.agg t)) (kV : KeyOf (kb V) V) (kU : KeyOf (kb U) U) (e9 : Hid (#[.int .u8 9, .int .u8 0, .int .u8 0, .int .u8 0, .int .u8 0, .int .u8 0, .int .u8 0, .int .u8 0, .int .u8 0, .int .u8 0, .int .u8 0, .int .u8 0, .int .u8 0, .int .u8 0, .int .u8 0, .int .u8 0, .int .u8 0, .int .u8 0, .int .u8 0, .int .u8 0, .int .u8 0, .int .u8 0, .int .u8 0, .int .u8 0, .int .u8 0, .int .u8 0, .int .u8 0, .int .u8 0, .int .u8 0, .int .u8 0, .int .u8 0, .int .u8 0] = kb U)) (eb : Hid ((rowb 32).setIfInBounds 0 (.int .u8 88) = kb V)) (hV : pb B = V) (hU : ux B = U) (hN : eqb B ze = false) (hT : eqb (pl B B) B = false) : GivesE 55 #[] (.bool true) := by
 have heq : ∀ q, 0 ≤ q → q < 115792089237316195423570985008687907853269984665640564039457584007913129639936 → ∀ W, (Op.equalIn 10000 25 (.agg (kb q)) (.agg (kb q))).run Tryd.prog W = .ok true W := fun q a b W => by rw [kb_equal _ _ a b a b]; simp
 have heq1 := heq _ kV.bd.1 kV.bd.2
 have heq2 := heq _ kU.bd.1 kU.bd.2
 clear heq
 have c4 := a_Bytes ht
 rw [hV] at c4
 have c5 := a_U ht
 rw [hU] at c5
 have c6 := a_IsNeutral ht
 rw [hN] at c6
 obtain ⟨x7, h7, c7⟩ := a_Double ht
 have c8 := a_Equal h7 ht
 rw [hT] at c8
 have c9 := a_IsNeutral pt_zero
 rw [eqb_self] at c9
 clear hV hU hN hT
 intro w hF
 go_enter Tryd.func55, Tryd.ntmps55
 have z1 := hp2_0 w (.cells q32 25) (.cells q32 25)
 have z2 := hp2_1 w (.cells q32 25) (.cells q32 25)
 have hw : Below w.heap.size w ((w.alloc (.cells q32 25)).alloc (.cells q32 25)) := ((Below.refl _ _).alloc (Nat.le_refl _) _).alloc (by simp) _
 have f4 : Edw ((w.alloc (.cells q32 25)).alloc (.cells q32 25)) := (hF.alloc _).alloc _
 have zg := hF.sz
 go_wp2_with (first | (refine wpList_store_cell31 rfl 5 _ _ rfl (w.heap.size) 0 rfl (.int .u8 9) rfl 25 _ z1 (by decide) (by kernel_rfl) rfl ?_; refine wpList_stay ?_) | fail)
 unfold WpStay
 have r1 : (((w.alloc (.cells q32 25)).alloc (.cells q32 25)).setRow (w.heap.size) #[.int .u8 9, .int .u8 0, .int .u8 0, .int .u8 0, .int .u8 0, .int .u8 0, .int .u8 0, .int .u8 0, .int .u8 0, .int .u8 0, .int .u8 0, .int .u8 0, .int .u8 0, .int .u8 0, .int .u8 0, .int .u8 0, .int .u8 0, .int .u8 0, .int .u8 0, .int .u8 0, .int .u8 0, .int .u8 0, .int .u8 0, .int .u8 0, .int .u8 0, .int .u8 0, .int .u8 0, .int .u8 0, .int .u8 0, .int .u8 0, .int .u8 0, .int .u8 0]).heap[w.heap.size]? = some (.cells #[.int .u8 9, .int .u8 0, .int .u8 0, .int .u8 0, .int .u8 0, .int .u8 0, .int .u8 0, .int .u8 0, .int .u8 0, .int .u8 0, .int .u8 0, .int .u8 0, .int .u8 0, .int .u8 0, .int .u8 0, .int .u8 0, .int .u8 0, .int .u8 0, .int .u8 0, .int .u8 0, .int .u8 0, .int .u8 0, .int .u8 0, .int .u8 0, .int .u8 0, .int .u8 0, .int .u8 0, .int .u8 0, .int .u8 0, .int .u8 0, .int .u8 0, .int .u8 0] 25 (0, 0)) := setRow_heap _ _ _ _ _ _ z1
 have r2 : (((w.alloc (.cells q32 25)).alloc (.cells q32 25)).setRow (w.heap.size) #[.int .u8 9, .int .u8 0, .int .u8 0, .int .u8 0, .int .u8 0, .int .u8 0, .int .u8 0, .int .u8 0, .int .u8 0, .int .u8 0, .int .u8 0, .int .u8 0, .int .u8 0, .int .u8 0, .int .u8 0, .int .u8 0, .int .u8 0, .int .u8 0, .int .u8 0, .int .u8 0, .int .u8 0, .int .u8 0, .int .u8 0, .int .u8 0, .int .u8 0, .int .u8 0, .int .u8 0, .int .u8 0, .int .u8 0, .int .u8 0, .int .u8 0, .int .u8 0]).heap[w.heap.size + 1]? = some (.cells (rowb 0) 25 (0, 0)) := (setRow_other _ _ _ _ (by omega)).trans z2
 replace hw := below_setRow hw (Nat.le_refl _) #[.int .u8 9, .int .u8 0, .int .u8 0, .int .u8 0, .int .u8 0, .int .u8 0, .int .u8 0, .int .u8 0, .int .u8 0, .int .u8 0, .int .u8 0, .int .u8 0, .int .u8 0, .int .u8 0, .int .u8 0, .int .u8 0, .int .u8 0, .int .u8 0, .int .u8 0, .int .u8 0, .int .u8 0, .int .u8 0, .int .u8 0, .int .u8 0, .int .u8 0, .int .u8 0, .int .u8 0, .int .u8 0, .int .u8 0, .int .u8 0, .int .u8 0, .int .u8 0]
 replace f4 := f4.setRow (show 4 < w.heap.size from zg) #[.int .u8 9, .int .u8 0, .int .u8 0, .int .u8 0, .int .u8 0, .int .u8 0, .int .u8 0, .int .u8 0, .int .u8 0, .int .u8 0, .int .u8 0, .int .u8 0, .int .u8 0, .int .u8 0, .int .u8 0, .int .u8 0, .int .u8 0, .int .u8 0, .int .u8 0, .int .u8 0, .int .u8 0, .int .u8 0, .int .u8 0, .int .u8 0, .int .u8 0, .int .u8 0, .int .u8 0, .int .u8 0, .int .u8 0, .int .u8 0, .int .u8 0, .int .u8 0]
 clear z1 z2
 generalize ((w.alloc (.cells q32 25)).alloc (.cells q32 25)).setRow (w.heap.size) #[.int .u8 9, .int .u8 0, .int .u8 0, .int .u8 0, .int .u8 0, .int .u8 0, .int .u8 0, .int .u8 0, .int .u8 0, .int .u8 0, .int .u8 0, .int .u8 0, .int .u8 0, .int .u8 0, .int .u8 0, .int .u8 0, .int .u8 0, .int .u8 0, .int .u8 0, .int .u8 0, .int .u8 0, .int .u8 0, .int .u8 0, .int .u8 0, .int .u8 0, .int .u8 0, .int .u8 0, .int .u8 0, .int .u8 0, .int .u8 0, .int .u8 0, .int .u8 0] = w0 at *
 go_wp2_with (fail)
 go_loopw [3] (fun i wr => ∃ k : Nat, k ≤ 32 ∧ i = .int .i64 k ∧ wr.heap[w.heap.size]? = some (.cells #[.int .u8 9, .int .u8 0, .int .u8 0, .int .u8 0, .int .u8 0, .int .u8 0, .int .u8 0, .int .u8 0, .int .u8 0, .int .u8 0, .int .u8 0, .int .u8 0, .int .u8 0, .int .u8 0, .int .u8 0, .int .u8 0, .int .u8 0, .int .u8 0, .int .u8 0, .int .u8 0, .int .u8 0, .int .u8 0, .int .u8 0, .int .u8 0, .int .u8 0, .int .u8 0, .int .u8 0, .int .u8 0, .int .u8 0, .int .u8 0, .int .u8 0, .int .u8 0] 25 (0, 0)) ∧ wr.heap[w.heap.size + 1]? = some (.cells (rowb k) 25 (0, 0)) ∧ Below w.heap.size w wr ∧ Edw wr) (fun i _ => 32 - (intOf i).toNat)
 case atStart => exact ⟨0, by omega, rfl, r1, r2, hw, f4⟩
 case round =>
  clear r1 r2 hw f4
  obtain ⟨k, hk, rfl, r1, r2, hw, f4⟩ := hrel
  by_cases hlt : k < 32
  ·have hl1 : ((k : Int) < 32) = True := by simp; omega
   have hl2 : ((k : Int) < 0) = False := by simp
   have e_ := rowb_next k hlt
   have q1 := (setRow_other wr (w.heap.size + 1) (w.heap.size) (rowb (k + 1)) (by omega)).trans r1
   have q2 := setRow_heap wr (w.heap.size + 1) _ (rowb (k + 1)) _ _ r2
   have q3 := below_setRow hw (show w.heap.size ≤ w.heap.size + 1 by omega) (rowb (k + 1))
   have q4 := f4.setRow (show 4 < w.heap.size + 1 by omega) (rowb (k + 1))
   have hsz := rowb_size k hk
   go_wp2_with (first | (refine wpList_store_cell31 rfl 5 _ _ rfl (w.heap.size + 1) k rfl (.int .u8 102) rfl 25 (rowb k) r2 (by rw [hsz]; exact hlt) (by kernel_rfl) rfl ?_; rw [e_]) | fail)
   go_roundw
   case rel => exact ⟨k + 1, by omega, by go_num, q1, q2, q3, q4⟩
   case measure => simp [intOf]; omega
  ·obtain rfl : k = 32 := by omega
   clear hk hlt
   go_wp2_with (first | (refine wpList_store_cell31 rfl 5 _ _ rfl (w.heap.size + 1) 0 rfl (.int .u8 88) rfl 25 (rowb 32) r2 (by rw [rowb_size 32 (by omega)]; decide) (by kernel_rfl) rfl ?_; rw [eb.out]; refine wpList_stay ?_) | fail)
   unfold WpStay
   replace r1 := (setRow_other wr (w.heap.size + 1) (w.heap.size) (kb V) (by omega)).trans r1
   replace r2 := setRow_heap wr (w.heap.size + 1) _ (kb V) _ _ r2
   replace hw := below_setRow hw (show w.heap.size ≤ w.heap.size + 1 by omega) (kb V)
   replace f4 := f4.setRow (show 4 < w.heap.size + 1 by omega) (kb V)
   rw [e9.out] at r1
   generalize wr.setRow (w.heap.size + 1) (kb V) = w1 at *
   go_wp2_with (first | (refine wpList_load_want rfl 25 _ rfl (w.heap.size) rfl 25 (kb U) (0, 0) _ r1 Tryd.underlying25 rfl kU.info ?_) | (refine wpList_load_want rfl 25 _ rfl (w.heap.size + 1) rfl 25 (kb V) (0, 0) _ r2 Tryd.underlying25 rfl kV.info ?_) | fail)
   refine (cBa.at f4).mono ?_
   rintro e w2 ⟨rfl, hb⟩
   replace r1 := keep hb r1
   replace r2 := keep hb r2
   replace hw := Below.after hw hb
   replace f4 := f4.below hb
   clear hb
   go_wp2_with (first | (refine wpList_store_row rfl 45 _ _ rfl (w2.heap.size) t rfl rfl 45 q20 (hp1_0 w2 _) ht.info (ht.size).symm ht.one ?_; rw [setRow_alloc_new _ _ _ _ _ _ (by simp)]; refine wpList_stay ?_) | fail)
   unfold WpStay
   try simp only [Act.put]
   have rl4 : (w2.alloc (.cells t 45)).heap[w2.heap.size]? = some (.cells t 45 (0, 0)) := hp1_0 w2 _
   have hb : Below w2.heap.size w2 (w2.alloc (.cells t 45)) := ((Below.refl _ _).alloc (Nat.le_refl _) _)
   generalize (w2.alloc (.cells t 45)) = wt at *
   have ygt_0 := lt_of_row r1
   have ygt_1 := lt_of_row r2
   have ygt := hw.size
   have zgt := f4.sz
   replace r1 := keep hb r1
   replace r2 := keep hb r2
   replace hw := Below.after hw hb
   replace f4 := f4.below hb
   clear hb
   generalize w2.heap.size = gt at *
   clear w2
   go_wp2_with (fail)
   have Hr1 := keepr r1
   have Hr2 := keepr r2
   have Hrl4 := keepr rl4
   refine wp_region_quiet_below (by kernel_rfl) (by kernel_rfl) ?_
   refine wpQuiet_load_row rfl 45 _ rfl (gt) rfl 45 t (0, 0) _ Hrl4.out Tryd.underlying45 rfl ht.info ?_
   simp only [Act.put, ZPd, ZPe, ZPf]
   go_big_quiet_step (exact c4.re)
   refine wpQuiet_load_row rfl 25 _ rfl (w.heap.size + 1) rfl 25 (kb V) (0, 0) _ Hr2.out Tryd.underlying25 rfl kV.info ?_
   simp only [Act.put, ZPd, ZPe, ZPf]
   go_big_quiet_step (fail)
   go_big_quiet_step (fail)
   refine wpQuiet_load_want rfl 45 _ rfl (gt) rfl 45 t (0, 0) _ Hrl4.out Tryd.underlying45 rfl ht.info ?_
   simp only [Act.put, ZPd, ZPe, ZPf]
   go_big_quiet_step (exact c5.re f4.1.1)
   refine wpQuiet_load_want rfl 25 _ rfl (w.heap.size) rfl 25 (kb U) (0, 0) _ Hr1.out Tryd.underlying25 rfl kU.info ?_
   simp only [Act.put, ZPd, ZPe, ZPf]
   go_big_quiet_step (fail)
   go_big_quiet_step (fail)
   go_big_quiet_step (fail)
   refine wpQuiet_load_want rfl 45 _ rfl (gt) rfl 45 t (0, 0) _ Hrl4.out Tryd.underlying45 rfl ht.info ?_
   simp only [Act.put, ZPd, ZPe, ZPf]
   go_big_quiet_step (exact c6.re)
   go_big_quiet_step (fail)
   go_big_quiet_step (fail)
   go_big_quiet_step (fail)
   refine wpQuiet_load_want rfl 45 _ rfl (gt) rfl 45 t (0, 0) _ Hrl4.out Tryd.underlying45 rfl ht.info ?_
   simp only [Act.put, ZPd, ZPe, ZPf]
   go_big_quiet_step (exact c7.re f4.1.1)
   refine wpQuiet_load_want rfl 45 _ rfl (gt) rfl 45 t (0, 0) _ Hrl4.out Tryd.underlying45 rfl ht.info ?_
   simp only [Act.put, ZPd, ZPe, ZPf]
   go_big_quiet_step (exact c8.re)
   go_big_quiet_step (fail)
   go_big_quiet_step (fail)
   go_big_quiet_step (fail)
   refine wpQuiet_build rfl 45 _ rfl [] rfl q20 (by kernel_rfl) ?_
   simp only [Act.put, ZPd, ZPe, ZPf]
   go_big_quiet_step (exact c9.re)
   go_big_quiet_step (fail)
   go_big_quiet_step (fail)
   refine wpQuiet_nil ?_
   rintro _ ⟨p, rfl⟩
   have hb := below_regrown wt p.d p.os
   generalize grow (redrawn wt p.d) p.os = w3 at *
   replace r1 := keep hb r1
   replace r2 := keep hb r2
   replace rl4 := keep hb rl4
   replace hw := Below.after hw hb
   replace f4 := f4.below hb
   clear hb
   clear Hr1 Hr2 Hrl4
   go_wp2
   go_ret
   exact ⟨rfl, hw⟩
theorem a_lives2 : GivesE 55 #[] (.bool true) :=
 let ⟨_, ht, c⟩ := a_Base
 lives_aux ht c (pb_key bp) (ux_key bp) (hide nine_kb) (hide rowb_end) rfl rfl bp_neutral bp_twice
end Go.Proofs.YtajaiiidafkijaaDoor
namespace Go.Proofs.YtajaiiidafkijaaDoor
set_option maxRecDepth 100000
open Go.ChangeShapes Go.WideShapes Go.ChangeAt Go.WideMaps Go.WideElems Go.RowKit
theorem gBx : Tryd.prog.globalNamed "pawl/edwards.baseX" = some 0 := by kernel_rfl
theorem tBx : (Tryd.prog.globals[0]?).map (·.type) = some 25 := by kernel_rfl
theorem gBy : Tryd.prog.globalNamed "pawl/edwards.baseY" = some 1 := by kernel_rfl
theorem tBy : (Tryd.prog.globals[1]?).map (·.type) = some 25 := by kernel_rfl
theorem cU8 : Tryd.prog.cellsOf 5 = 1 := by kernel_rfl
theorem cKey : Tryd.prog.cellsOf 25 = 32 := by kernel_rfl
theorem rowN_of {P : Program} {t e : TypeId} {n : Nat} {k : IntKind} (ht : P.underlying t = some (.array n e)) (he : P.underlying e = some (.int k)) (hce : P.cellsOf e = 1) (hct : P.cellsOf t = n) {W : World} {m : Nat} {cs : Array Value} {p : List MemPlace} {ks : List Int}
 (h : DataW.trod (fun _ => ()) P W 0 (fun _ => true) false m t cs.toList = some (.agg (ks.map fun x => .lit (.int k x)), p)) : cs = (ks.map (Value.int k)).toArray := by
 obtain ⟨xs, m1, _, hx, hlen, hn, hel⟩ := DataW.trod_array ht h
 rw [hct] at hlen
 simp only [Prod.mk.injEq, DataW.agg.injEq] at hx
 have hk : ks.length = n := by
  have := congrArg List.length hx.1
  simp only [List.length_map] at this
  omega
 apply Array.ext'
 apply List.ext_getElem
 ·simp only [List.length_map]; omega
 ·intro i h1 h2
  have hin : i < n := by omega
  have hx' : xs[i]? = some xs[i] := List.getElem?_eq_getElem (by omega)
  have e1 := hel i hin
  rw [hce, hx'] at e1
  obtain ⟨a, q0, q1, _⟩ := DataW.trod_int he e1
  simp only [Nat.mul_one] at q0
  rw [List.drop_eq_getElem_cons h1] at q0
  have q0' : cs.toList[i] = .int k a := by simpa using q0
  rw [q0']
  have hi := congrArg (fun l => l[i]?) hx.1
  simp only [List.getElem?_map, List.getElem?_eq_getElem (show i < ks.length by omega), hx', Option.map_some, Option.some.injEq] at hi
  rw [q1] at hi
  simp only [DataW.lit.injEq, Lit.int.injEq, true_and] at hi
  simp [hi]
theorem row_of_var {W : World} {s : String} {g : Nat} (hg : Tryd.prog.globalNamed s = some g) {cs : Array Value} (hv : World.var? Tryd.prog W s = some cs) : ∃ t fr, W.heap[g]? = some (.cells cs t fr) := by
 unfold World.var? at hv
 rw [hg] at hv
 simp only [Option.bind_some] at hv
 split at hv
 ·rename_i cs' t fr hh
  obtain rfl := Option.some.inj hv
  exact ⟨t, fr, hh⟩
 ·cases hv
end Go.Proofs.YtajaiiidafkijaaDoor
namespace Go.Proofs.YtajaiiidafkijaaDoor
set_option maxRecDepth 100000
/-! Numbers modulo the order, in four words. -/
def L19 : Int := 7237005577332262213973186563042994240857116359379907606001950938285454250989
def wd (n : Int) : Array Value := #[.int .u64 (n % 18446744073709551616), .int .u64 (n / 18446744073709551616 % 18446744073709551616), .int .u64 (n / 340282366920938463463374607431768211456 % 18446744073709551616), .int .u64 (n / 6277101735386680763835789423207666416102355444464034512896 % 18446744073709551616)]
def w4 (a b c d : Int) : Int := a + 18446744073709551616 * b + 340282366920938463463374607431768211456 * c + 6277101735386680763835789423207666416102355444464034512896 * d
theorem wd_size (n : Int) : (wd n).size = 4 := rfl
theorem wd_one (n : Int) : (wd n).all (·.oneCell') = true := by kernel_rfl
theorem wd_w4 {a b c d : Int} (ha : 0 ≤ a ∧ a < 18446744073709551616) (hb : 0 ≤ b ∧ b < 18446744073709551616) (hc : 0 ≤ c ∧ c < 18446744073709551616) (hd : 0 ≤ d ∧ d < 18446744073709551616) : wd (w4 a b c d) = #[.int .u64 a, .int .u64 b, .int .u64 c, .int .u64 d] := by
 unfold wd
 rw [show w4 a b c d % 18446744073709551616 = a by unfold w4; omega, show w4 a b c d / 18446744073709551616 % 18446744073709551616 = b by unfold w4; omega, show w4 a b c d / 340282366920938463463374607431768211456 % 18446744073709551616 = c by unfold w4; omega, show w4 a b c d / 6277101735386680763835789423207666416102355444464034512896 % 18446744073709551616 = d by unfold w4; omega]
theorem w4_of {n : Int} (h0 : 0 ≤ n) (h1 : n < 115792089237316195423570985008687907853269984665640564039457584007913129639936) : ∃ a b c d, n = w4 a b c d ∧ (0 ≤ a ∧ a < 18446744073709551616) ∧ (0 ≤ b ∧ b < 18446744073709551616) ∧ (0 ≤ c ∧ c < 18446744073709551616) ∧ (0 ≤ d ∧ d < 18446744073709551616) :=
 ⟨n % 18446744073709551616, n / 18446744073709551616 % 18446744073709551616, n / 340282366920938463463374607431768211456 % 18446744073709551616, n / 6277101735386680763835789423207666416102355444464034512896 % 18446744073709551616, by unfold w4; omega, by omega, by omega, by omega, by omega⟩
theorem plus_w {a0 a1 a2 a3 b0 b1 b2 b3 s0 s1 s2 s3 c1 c2 c3 c4 : Int} (h0 : s0 + 18446744073709551616 * c1 = a0 + b0) (h1 : s1 + 18446744073709551616 * c2 = a1 + b1 + c1) (h2 : s2 + 18446744073709551616 * c3 = a2 + b2 + c2) (h3 : s3 + 18446744073709551616 * c4 = a3 + b3 + c3)
 (q0 : 0 ≤ s0 ∧ s0 < 18446744073709551616) (q1 : 0 ≤ s1 ∧ s1 < 18446744073709551616) (q2 : 0 ≤ s2 ∧ s2 < 18446744073709551616) (q3 : 0 ≤ s3 ∧ s3 < 18446744073709551616) :
 w4 s0 s1 s2 s3 = (w4 a0 a1 a2 a3 + w4 b0 b1 b2 b3) % 115792089237316195423570985008687907853269984665640564039457584007913129639936 ∧ c4 = (w4 a0 a1 a2 a3 + w4 b0 b1 b2 b3) / 115792089237316195423570985008687907853269984665640564039457584007913129639936 := by
 have e : w4 a0 a1 a2 a3 + w4 b0 b1 b2 b3 = w4 s0 s1 s2 s3 + 115792089237316195423570985008687907853269984665640564039457584007913129639936 * c4 := by unfold w4; omega
 have b : 0 ≤ w4 s0 s1 s2 s3 ∧ w4 s0 s1 s2 s3 < 115792089237316195423570985008687907853269984665640564039457584007913129639936 := by unfold w4; omega
 rw [e]
 omega
theorem minus_w {a0 a1 a2 a3 b0 b1 b2 b3 s0 s1 s2 s3 c1 c2 c3 c4 : Int} (h0 : s0 - 18446744073709551616 * c1 = a0 - b0) (h1 : s1 - 18446744073709551616 * c2 = a1 - b1 - c1) (h2 : s2 - 18446744073709551616 * c3 = a2 - b2 - c2) (h3 : s3 - 18446744073709551616 * c4 = a3 - b3 - c3)
 (q0 : 0 ≤ s0 ∧ s0 < 18446744073709551616) (q1 : 0 ≤ s1 ∧ s1 < 18446744073709551616) (q2 : 0 ≤ s2 ∧ s2 < 18446744073709551616) (q3 : 0 ≤ s3 ∧ s3 < 18446744073709551616) :
 w4 s0 s1 s2 s3 = (w4 a0 a1 a2 a3 - w4 b0 b1 b2 b3) % 115792089237316195423570985008687907853269984665640564039457584007913129639936 ∧ c4 = -((w4 a0 a1 a2 a3 - w4 b0 b1 b2 b3) / 115792089237316195423570985008687907853269984665640564039457584007913129639936) := by
 have e : w4 a0 a1 a2 a3 - w4 b0 b1 b2 b3 = w4 s0 s1 s2 s3 - 115792089237316195423570985008687907853269984665640564039457584007913129639936 * c4 := by unfold w4; omega
 have b : 0 ≤ w4 s0 s1 s2 s3 ∧ w4 s0 s1 s2 s3 < 115792089237316195423570985008687907853269984665640564039457584007913129639936 := by unfold w4; omega
 rw [e]
 omega
theorem times_w {a0 a1 a2 a3 m s0 s1 s2 s3 c1 c2 c3 c4 : Int} (h0 : s0 + 18446744073709551616 * c1 = a0 * m) (h1 : s1 + 18446744073709551616 * c2 = a1 * m + c1) (h2 : s2 + 18446744073709551616 * c3 = a2 * m + c2) (h3 : s3 + 18446744073709551616 * c4 = a3 * m + c3)
 (q0 : 0 ≤ s0 ∧ s0 < 18446744073709551616) (q1 : 0 ≤ s1 ∧ s1 < 18446744073709551616) (q2 : 0 ≤ s2 ∧ s2 < 18446744073709551616) (q3 : 0 ≤ s3 ∧ s3 < 18446744073709551616) :
 w4 s0 s1 s2 s3 = w4 a0 a1 a2 a3 * m % 115792089237316195423570985008687907853269984665640564039457584007913129639936 ∧ c4 = w4 a0 a1 a2 a3 * m / 115792089237316195423570985008687907853269984665640564039457584007913129639936 := by
 have e : w4 a0 a1 a2 a3 * m = w4 s0 s1 s2 s3 + 115792089237316195423570985008687907853269984665640564039457584007913129639936 * c4 := by
  unfold w4
  have : (a0 + 18446744073709551616 * a1 + 340282366920938463463374607431768211456 * a2 + 6277101735386680763835789423207666416102355444464034512896 * a3) * m = a0 * m + 18446744073709551616 * (a1 * m) + 340282366920938463463374607431768211456 * (a2 * m) + 6277101735386680763835789423207666416102355444464034512896 * (a3 * m) := by grind
  rw [this]
  generalize a0 * m = p0 at *
  generalize a1 * m = p1 at *
  generalize a2 * m = p2 at *
  generalize a3 * m = p3 at *
  omega
 have b : 0 ≤ w4 s0 s1 s2 s3 ∧ w4 s0 s1 s2 s3 < 115792089237316195423570985008687907853269984665640564039457584007913129639936 := by unfold w4; omega
 rw [e]
 omega
theorem next_w {r a m : Int} (hr : 0 ≤ r ∧ r < L19) (_ha : 0 ≤ a ∧ a < L19) (_hm : 0 ≤ m ∧ m < 256) {V q : Int} (hV : V = 256 * r + m * a) (hq : q = V / 7237005577332262213973186563042994240829374041602535252466099000494570602496) (hb : 0 ≤ m * a ∧ m * a ≤ 255 * (L19 - 1)) :
 (0 ≤ q ∧ q < 1024) ∧ V / 115792089237316195423570985008687907853269984665640564039457584007913129639936 = q * L19 / 115792089237316195423570985008687907853269984665640564039457584007913129639936 ∧ ((0 ≤ V - q * L19 ∧ V - q * L19 = V % L19) ∨ (V - q * L19 < 0 ∧ V - q * L19 + L19 = V % L19)) := by
 unfold L19 at *
 subst hV
 generalize m * a = p at *
 subst hq
 omega
end Go.Proofs.YtajaiiidafkijaaDoor

