import Derived.Test.YtgfhoabgbgddbaaDoorProg
import Derived.WalkKit
import Derived.WalkSpells
import Derived.WalkLawsBesides
import Derived.Lib.QuietBelow
import Derived.BigQuiet
import Derived.Test.YtgfhoabgbgddbaaDoorKa
import Derived.Test.YtgfhoabgbgddbaaDoorDwf
import Derived.Test.YtgfhoabgbgddbaaDoorDwc
namespace Go.Proofs.YtgfhoabgbgddbaaDoor
set_option maxRecDepth 100000
open Go.RowKit Go.Sort
attribute [local go_sem] setCell_drewN alloc_drewN


/-- What the package variables hold that points reach. -/
def Edw (w : World) : Prop := Both w ∧ (∃ t fr, w.heap[0]? = some (.cells (kb (tx bp)) t fr)) ∧ (∃ t fr, w.heap[1]? = some (.cells (kb bp.y) t fr))
theorem Edw.sz {w : World} (h : Edw w) : 4 < w.heap.size := h.1.sz
theorem Edw.belowN {w w' : World} {m : Nat} (h : Edw w) (hm : 4 < m) (hb : Below m w w') : Edw w' := by
  obtain ⟨h1, ⟨t, fr, h2⟩, ⟨t', fr', h3⟩⟩ := h
  exact ⟨h1.belowN hm hb, ⟨t, fr, (hb.block _ (by omega)).trans h2⟩, ⟨t', fr', (hb.block _ (by omega)).trans h3⟩⟩
theorem Edw.below {w w' : World} (h : Edw w) (hb : Below w.heap.size w w') : Edw w' := h.belowN h.sz hb
theorem Edw.alloc {w : World} (h : Edw w) (o : Obj) : Edw (w.alloc o) := h.below ((Below.refl _ _).alloc (Nat.le_refl _) _)
theorem Edw.setRow {w : World} {g : Nat} (h : Edw w) (hg : 4 < g) (cs : Array Value) : Edw (w.setRow g cs) := h.belowN (Nat.lt_succ_self _) (below_setRow (Below.refl _ _) hg cs)
def GivesE (f : FuncId) (args : Array Value) (v : Value) : Prop := ∀ W, Edw W → Calls Tryd.prog f args W fun e w' => e = .returned v ∧ Below W.heap.size W w'
theorem GivesE.at {f : FuncId} {args : Array Value} {v : Value} (h : GivesE f args v) {W : World} (hW : Edw W) : Calls Tryd.prog f args W fun e w' => e = .returned v ∧ Below W.heap.size W w' := h W hW
theorem GivesE.re {f : FuncId} {args : Array Value} {v : Value} (h : GivesE f args v) {w : World} {d : Nat} {os : Array Obj} (hw : Edw w) : Calls Tryd.prog f args (grow (redrawn w d) os) fun e w'' => e = .returned v ∧ ∃ p : Regrown, w'' = grow (redrawn w p.d) p.os := Calls.regrown_of (h _ (hw.below (below_regrown w d os)))
theorem txbp_key : KeyOf (kb (tx bp)) (tx bp) := kb_key _ (tx_bd bp).1 (by have := (tx_bd bp).2; rw [prm_is] at this; omega)

set_option maxRecDepth 100000 in
set_option maxHeartbeats 8000000 in
theorem a_Base : ∃ t, PtO t bp ∧ GivesE 18 #[] (.agg t) := by
  obtain ⟨xr, hx0, cX⟩ := a_from txbp_key
  have hx : NumOf xr (tx bp) := hx0.congr (by decide +kernel)
  obtain ⟨yr, hy0, cY⟩ := a_from (y_key bp)
  have hy : NumOf yr bp.y := hy0.congr (by decide +kernel)
  clear hx0 hy0
  obtain ⟨s, hs, cS⟩ := a_flat (P := bp) hx hy (by rw [Int.sub_self]; exact zp_zero) (by rw [Int.sub_self]; exact zp_zero)
  obtain ⟨t, ht, cP⟩ := a_point hs

  refine ⟨t, ht, fun w hF => ?_⟩
  go_enter Tryd.func18, Tryd.ntmps18
  go_wp2
  have rp0 : (w.alloc (.cells #[.int .u64 0, .int .u64 0, .int .u64 0, .int .u64 0, .int .u64 0, .int .u64 0, .int .u64 0, .int .u64 0, .int .u64 0, .int .u64 0, .int .u64 0, .int .u64 0, .int .u64 0, .int .u64 0, .int .u64 0, .int .u64 0, .int .u64 0, .int .u64 0, .int .u64 0, .int .u64 0] 29)).heap[w.heap.size]? = some (.cells #[.int .u64 0, .int .u64 0, .int .u64 0, .int .u64 0, .int .u64 0, .int .u64 0, .int .u64 0, .int .u64 0, .int .u64 0, .int .u64 0, .int .u64 0, .int .u64 0, .int .u64 0, .int .u64 0, .int .u64 0, .int .u64 0, .int .u64 0, .int .u64 0, .int .u64 0, .int .u64 0] 29 (0, 0)) := hp1_0 w _
  have hw : Below w.heap.size w (w.alloc (.cells #[.int .u64 0, .int .u64 0, .int .u64 0, .int .u64 0, .int .u64 0, .int .u64 0, .int .u64 0, .int .u64 0, .int .u64 0, .int .u64 0, .int .u64 0, .int .u64 0, .int .u64 0, .int .u64 0, .int .u64 0, .int .u64 0, .int .u64 0, .int .u64 0, .int .u64 0, .int .u64 0] 29)) := ((Below.refl _ _).alloc (Nat.le_refl _) _)
  have hz0 := hF.sz
  have f4 : Edw (w.alloc (.cells #[.int .u64 0, .int .u64 0, .int .u64 0, .int .u64 0, .int .u64 0, .int .u64 0, .int .u64 0, .int .u64 0, .int .u64 0, .int .u64 0, .int .u64 0, .int .u64 0, .int .u64 0, .int .u64 0, .int .u64 0, .int .u64 0, .int .u64 0, .int .u64 0, .int .u64 0, .int .u64 0] 29)) := (hF.alloc _)
  generalize (w.alloc (.cells #[.int .u64 0, .int .u64 0, .int .u64 0, .int .u64 0, .int .u64 0, .int .u64 0, .int .u64 0, .int .u64 0, .int .u64 0, .int .u64 0, .int .u64 0, .int .u64 0, .int .u64 0, .int .u64 0, .int .u64 0, .int .u64 0, .int .u64 0, .int .u64 0, .int .u64 0, .int .u64 0] 29)) = w0 at *
  obtain ⟨⟨tA, fA, gA⟩, ⟨tB, fB, gB⟩⟩ := f4.2
  have Hrp0 := keepr rp0
  have HgA := keepr gA
  have HgB := keepr gB
  refine wp_region_tail (C := fun w' => ∃ p : Regrown, w' = grow (redrawn w0 p.d) p.os) 6 _ rfl rfl rfl (by kernel_rfl) (by kernel_rfl) (by kernel_rfl) (by kernel_rfl) ⟨⟨w0.drawn + 1, #[]⟩, by rw [grow_empty]; rfl⟩ ?_
  dsimp only [List.set, idle]
  refine wpQuiet_load_row rfl 23 _ rfl (0) rfl tA (kb (tx bp)) fA _ HgA.out Tryd.underlying23 rfl txbp_key.info ?_
  simp only [Act.put, List.setIfInBounds_toArray, List.set_cons_succ, List.set_cons_zero]
  go_big_quiet_step (exact cX.re)
  refine wpQuiet_load_row rfl 23 _ rfl (1) rfl tB (kb bp.y) fB _ HgB.out Tryd.underlying23 rfl (y_key bp).info ?_
  simp only [Act.put, List.setIfInBounds_toArray, List.set_cons_succ, List.set_cons_zero]
  go_big_quiet_step (exact cY.re)
  go_big_quiet_step (exact cS.re)
  go_big_quiet_step (exact cP.re f4.1.1)
  refine wpQuiet_idle rfl rfl rfl ?_
  rintro _ ⟨p, rfl⟩
  have hb := below_regrown w0 p.d p.os
  generalize grow (redrawn w0 p.d) p.os = w5 at *
  replace rp0 := keep hb rp0
  replace gA := keep hb gA
  replace gB := keep hb gB
  replace hw := Below.after hw hb
  replace f4 := f4.below hb
  clear hb
  clear Hrp0 HgA HgB
  go_wp2_with (first | (refine wpList_store_row rfl 29 _ _ rfl (w.heap.size) t rfl rfl 29 _ rp0 ht.info ((show _ = 20 from rfl).trans ht.size.symm) ht.one ?_) | fail)
  exact bodyPost_ret (v := .agg t) (results_cell_row Tryd.results18 _ _ (w.heap.size) _ t _ _ rfl (setRow_heap _ _ _ _ _ _ rp0) Tryd.underlying29 rfl ht.info) rfl ⟨rfl, below_setRow hw (by omega) _⟩

set_option maxRecDepth 100000 in
set_option maxHeartbeats 8000000 in
theorem a_samep {r s : Array Value} {P Q : E1} (h : PtO r P) (g : PtO s Q) (e : P = Q) : Gives 40 #[.agg r, .agg s] (.bool true) := by
  subst e
  have heq : ∀ W, (Op.equalIn 10000 23 (.agg (kb (pb P))) (.agg (kb (pb P)))).run Tryd.prog W = .ok true W := fun W => by
    rw [kb_equal _ _ (pb_bd P).1 (pb_bd P).2 (pb_bd P).1 (pb_bd P).2]; simp
  have c2 := a_Bytes h
  have c3 := a_Bytes g
  have c4 := a_Equal h g
  rw [eqb_self] at c4
  intro w
  go_enter Tryd.func40, Tryd.ntmps40
  go_wp2
  have rp0 : ((w.alloc (.cells r 29)).alloc (.cells s 29)).heap[w.heap.size]? = some (.cells r 29 (0, 0)) := hp2_0 w _ _
  have rp1 : ((w.alloc (.cells r 29)).alloc (.cells s 29)).heap[w.heap.size + 1]? = some (.cells s 29 (0, 0)) := hp2_1 w _ _
  have hw : Below w.heap.size w ((w.alloc (.cells r 29)).alloc (.cells s 29)) := (((Below.refl _ _).alloc (Nat.le_refl _) _).alloc (by simp) _)
  generalize ((w.alloc (.cells r 29)).alloc (.cells s 29)) = w0 at *
  have Hrp0 := keepr rp0
  have Hrp1 := keepr rp1
  refine wp_region_quiet_below (by kernel_rfl) (by kernel_rfl) ?_
  refine wpQuiet_load_row rfl 29 _ rfl (w.heap.size) rfl 29 r (0, 0) _ Hrp0.out Tryd.underlying29 rfl h.info ?_
  simp only [Act.put, List.setIfInBounds_toArray, List.set_cons_succ, List.set_cons_zero]
  go_big_quiet_step (exact c2.re)
  refine wpQuiet_load_row rfl 29 _ rfl (w.heap.size + 1) rfl 29 s (0, 0) _ Hrp1.out Tryd.underlying29 rfl g.info ?_
  simp only [Act.put, List.setIfInBounds_toArray, List.set_cons_succ, List.set_cons_zero]
  go_big_quiet_step (exact c3.re)
  go_big_quiet_step (fail)
  go_big_quiet_step (fail)
  refine wpQuiet_load_want rfl 29 _ rfl (w.heap.size) rfl 29 r (0, 0) _ Hrp0.out Tryd.underlying29 rfl h.info ?_
  simp only [Act.put, List.setIfInBounds_toArray, List.set_cons_succ, List.set_cons_zero]
  refine wpQuiet_load_want rfl 29 _ rfl (w.heap.size + 1) rfl 29 s (0, 0) _ Hrp1.out Tryd.underlying29 rfl g.info ?_
  simp only [Act.put, List.setIfInBounds_toArray, List.set_cons_succ, List.set_cons_zero]
  go_big_quiet_step (exact c4.re)
  go_big_quiet_step (fail)
  go_big_quiet_step (fail)
  refine wpQuiet_nil ?_
  rintro _ ⟨p, rfl⟩
  have hb := below_regrown w0 p.d p.os
  generalize grow (redrawn w0 p.d) p.os = w1 at *
  replace rp0 := keep hb rp0
  replace rp1 := keep hb rp1
  replace hw := Below.after hw hb
  clear hb
  clear Hrp0 Hrp1
  go_wp2
  go_ret
  exact ⟨rfl, hw⟩


/-- The array b of lives, so far as it is filled. -/
def rowb (i : Nat) : Array Value := (List.replicate i (Value.int .u8 102) ++ List.replicate (32 - i) (Value.int .u8 0)).toArray
theorem rowb_next (i : Nat) (h : i < 32) : (rowb i).setIfInBounds i (.int .u8 102) = rowb (i + 1) := by
  rcases (by omega : i = 0 ∨ i = 1 ∨ i = 2 ∨ i = 3 ∨ i = 4 ∨ i = 5 ∨ i = 6 ∨ i = 7 ∨ i = 8 ∨ i = 9 ∨ i = 10 ∨ i = 11 ∨ i = 12 ∨ i = 13 ∨ i = 14 ∨ i = 15 ∨ i = 16 ∨ i = 17 ∨ i = 18 ∨ i = 19 ∨ i = 20 ∨ i = 21 ∨ i = 22 ∨ i = 23 ∨ i = 24 ∨ i = 25 ∨ i = 26 ∨ i = 27 ∨ i = 28 ∨ i = 29 ∨ i = 30 ∨ i = 31) with rfl | rfl | rfl | rfl | rfl | rfl | rfl | rfl | rfl | rfl | rfl | rfl | rfl | rfl | rfl | rfl | rfl | rfl | rfl | rfl | rfl | rfl | rfl | rfl | rfl | rfl | rfl | rfl | rfl | rfl | rfl | rfl <;> rfl
theorem rowb_size (i : Nat) (h : i ≤ 32) : (rowb i).size = 32 := by simp [rowb]; omega
theorem rowb_end : (rowb 32).setIfInBounds 0 (.int .u8 88) = kb (pb bp) := by
  have e : pb bp = 46316835694926478169428394003475163141307993866256225615783033603165251855960 := by decide +kernel
  rw [e]
  rfl
theorem ux_is {y z : Int} (h : Zp ((1 - y) * z - 1)) (h2 : Zp ((1 + y) - 9 * (1 - y))) : (1 + y) * z % prm = 9 := mod_of (zp_lin2 9 z h h2 (by grind)) (by decide) (by decide)
theorem ux_of (P : E1) (hn : ¬ Zp (1 - P.y)) (h : Zp ((1 + P.y) - 9 * (1 - P.y))) : ux P = 9 := ux_is (iv_mul hn) h
theorem ux_bp : ux bp = 9 := ux_of bp (by unfold Zp; decide +kernel) (by unfold Zp; decide +kernel)
theorem nine_of {u : Int} (h : u = 9) : #[.int .u8 9, .int .u8 0, .int .u8 0, .int .u8 0, .int .u8 0, .int .u8 0, .int .u8 0, .int .u8 0, .int .u8 0, .int .u8 0, .int .u8 0, .int .u8 0, .int .u8 0, .int .u8 0, .int .u8 0, .int .u8 0, .int .u8 0, .int .u8 0, .int .u8 0, .int .u8 0, .int .u8 0, .int .u8 0, .int .u8 0, .int .u8 0, .int .u8 0, .int .u8 0, .int .u8 0, .int .u8 0, .int .u8 0, .int .u8 0, .int .u8 0, .int .u8 0] = kb u := by subst h; rfl
theorem nine_kb : #[.int .u8 9, .int .u8 0, .int .u8 0, .int .u8 0, .int .u8 0, .int .u8 0, .int .u8 0, .int .u8 0, .int .u8 0, .int .u8 0, .int .u8 0, .int .u8 0, .int .u8 0, .int .u8 0, .int .u8 0, .int .u8 0, .int .u8 0, .int .u8 0, .int .u8 0, .int .u8 0, .int .u8 0, .int .u8 0, .int .u8 0, .int .u8 0, .int .u8 0, .int .u8 0, .int .u8 0, .int .u8 0, .int .u8 0, .int .u8 0, .int .u8 0, .int .u8 0] = kb (ux bp) := nine_of ux_bp
theorem bp_twice : eqb (pl bp bp) bp = false := by
  rw [← Bool.not_eq_true, eqb_iff]
  intro h
  have : pl bp bp = pl ze bp := by rw [ze_pl]; exact h
  exact bp_ne (pl_cancel this)
theorem bp_neutral : eqb bp ze = false := by
  rw [← Bool.not_eq_true, eqb_iff]
  exact bp_ne

set_option maxRecDepth 100000 in
set_option maxHeartbeats 8000000 in
theorem lives_aux {t : Array Value} {U V : Int} {B : E1} (ht : PtO t B) (cBa : GivesE 18 #[] (.agg t)) (kV : KeyOf (kb V) V) (kU : KeyOf (kb U) U) (e9 : Hid (#[.int .u8 9, .int .u8 0, .int .u8 0, .int .u8 0, .int .u8 0, .int .u8 0, .int .u8 0, .int .u8 0, .int .u8 0, .int .u8 0, .int .u8 0, .int .u8 0, .int .u8 0, .int .u8 0, .int .u8 0, .int .u8 0, .int .u8 0, .int .u8 0, .int .u8 0, .int .u8 0, .int .u8 0, .int .u8 0, .int .u8 0, .int .u8 0, .int .u8 0, .int .u8 0, .int .u8 0, .int .u8 0, .int .u8 0, .int .u8 0, .int .u8 0, .int .u8 0] = kb U)) (eb : Hid ((rowb 32).setIfInBounds 0 (.int .u8 88) = kb V)) (hV : pb B = V) (hU : ux B = U) (hN : eqb B ze = false) (hT : eqb (pl B B) B = false) : GivesE 39 #[] (.bool true) := by
  have heq : ∀ q, 0 ≤ q → q < 115792089237316195423570985008687907853269984665640564039457584007913129639936 → ∀ W, (Op.equalIn 10000 23 (.agg (kb q)) (.agg (kb q))).run Tryd.prog W = .ok true W := fun q a b W => by rw [kb_equal _ _ a b a b]; simp
  have heq1 := heq _ kV.bd.1 kV.bd.2
  have heq2 := heq _ kU.bd.1 kU.bd.2
  clear heq
  have c4 := a_Bytes ht
  rw [hV] at c4
  have c5 := a_U ht
  rw [hU] at c5
  have c6 := a_IsNeutral ht
  rw [hN] at c6
  obtain ⟨x7, h7, c7⟩ := a_Double ht
  have c8 := a_Equal h7 ht
  rw [hT] at c8
  have c9 := a_IsNeutral pt_zero
  rw [eqb_self] at c9
  clear hV hU hN hT
  intro w hF
  go_enter Tryd.func39, Tryd.ntmps39
  have z1 := hp2_0 w (.cells #[.int .u8 0, .int .u8 0, .int .u8 0, .int .u8 0, .int .u8 0, .int .u8 0, .int .u8 0, .int .u8 0, .int .u8 0, .int .u8 0, .int .u8 0, .int .u8 0, .int .u8 0, .int .u8 0, .int .u8 0, .int .u8 0, .int .u8 0, .int .u8 0, .int .u8 0, .int .u8 0, .int .u8 0, .int .u8 0, .int .u8 0, .int .u8 0, .int .u8 0, .int .u8 0, .int .u8 0, .int .u8 0, .int .u8 0, .int .u8 0, .int .u8 0, .int .u8 0] 23) (.cells #[.int .u8 0, .int .u8 0, .int .u8 0, .int .u8 0, .int .u8 0, .int .u8 0, .int .u8 0, .int .u8 0, .int .u8 0, .int .u8 0, .int .u8 0, .int .u8 0, .int .u8 0, .int .u8 0, .int .u8 0, .int .u8 0, .int .u8 0, .int .u8 0, .int .u8 0, .int .u8 0, .int .u8 0, .int .u8 0, .int .u8 0, .int .u8 0, .int .u8 0, .int .u8 0, .int .u8 0, .int .u8 0, .int .u8 0, .int .u8 0, .int .u8 0, .int .u8 0] 23)
  have z2 := hp2_1 w (.cells #[.int .u8 0, .int .u8 0, .int .u8 0, .int .u8 0, .int .u8 0, .int .u8 0, .int .u8 0, .int .u8 0, .int .u8 0, .int .u8 0, .int .u8 0, .int .u8 0, .int .u8 0, .int .u8 0, .int .u8 0, .int .u8 0, .int .u8 0, .int .u8 0, .int .u8 0, .int .u8 0, .int .u8 0, .int .u8 0, .int .u8 0, .int .u8 0, .int .u8 0, .int .u8 0, .int .u8 0, .int .u8 0, .int .u8 0, .int .u8 0, .int .u8 0, .int .u8 0] 23) (.cells #[.int .u8 0, .int .u8 0, .int .u8 0, .int .u8 0, .int .u8 0, .int .u8 0, .int .u8 0, .int .u8 0, .int .u8 0, .int .u8 0, .int .u8 0, .int .u8 0, .int .u8 0, .int .u8 0, .int .u8 0, .int .u8 0, .int .u8 0, .int .u8 0, .int .u8 0, .int .u8 0, .int .u8 0, .int .u8 0, .int .u8 0, .int .u8 0, .int .u8 0, .int .u8 0, .int .u8 0, .int .u8 0, .int .u8 0, .int .u8 0, .int .u8 0, .int .u8 0] 23)
  have hw : Below w.heap.size w ((w.alloc (.cells #[.int .u8 0, .int .u8 0, .int .u8 0, .int .u8 0, .int .u8 0, .int .u8 0, .int .u8 0, .int .u8 0, .int .u8 0, .int .u8 0, .int .u8 0, .int .u8 0, .int .u8 0, .int .u8 0, .int .u8 0, .int .u8 0, .int .u8 0, .int .u8 0, .int .u8 0, .int .u8 0, .int .u8 0, .int .u8 0, .int .u8 0, .int .u8 0, .int .u8 0, .int .u8 0, .int .u8 0, .int .u8 0, .int .u8 0, .int .u8 0, .int .u8 0, .int .u8 0] 23)).alloc (.cells #[.int .u8 0, .int .u8 0, .int .u8 0, .int .u8 0, .int .u8 0, .int .u8 0, .int .u8 0, .int .u8 0, .int .u8 0, .int .u8 0, .int .u8 0, .int .u8 0, .int .u8 0, .int .u8 0, .int .u8 0, .int .u8 0, .int .u8 0, .int .u8 0, .int .u8 0, .int .u8 0, .int .u8 0, .int .u8 0, .int .u8 0, .int .u8 0, .int .u8 0, .int .u8 0, .int .u8 0, .int .u8 0, .int .u8 0, .int .u8 0, .int .u8 0, .int .u8 0] 23)) := ((Below.refl _ _).alloc (Nat.le_refl _) _).alloc (by simp) _
  have f4 : Edw ((w.alloc (.cells #[.int .u8 0, .int .u8 0, .int .u8 0, .int .u8 0, .int .u8 0, .int .u8 0, .int .u8 0, .int .u8 0, .int .u8 0, .int .u8 0, .int .u8 0, .int .u8 0, .int .u8 0, .int .u8 0, .int .u8 0, .int .u8 0, .int .u8 0, .int .u8 0, .int .u8 0, .int .u8 0, .int .u8 0, .int .u8 0, .int .u8 0, .int .u8 0, .int .u8 0, .int .u8 0, .int .u8 0, .int .u8 0, .int .u8 0, .int .u8 0, .int .u8 0, .int .u8 0] 23)).alloc (.cells #[.int .u8 0, .int .u8 0, .int .u8 0, .int .u8 0, .int .u8 0, .int .u8 0, .int .u8 0, .int .u8 0, .int .u8 0, .int .u8 0, .int .u8 0, .int .u8 0, .int .u8 0, .int .u8 0, .int .u8 0, .int .u8 0, .int .u8 0, .int .u8 0, .int .u8 0, .int .u8 0, .int .u8 0, .int .u8 0, .int .u8 0, .int .u8 0, .int .u8 0, .int .u8 0, .int .u8 0, .int .u8 0, .int .u8 0, .int .u8 0, .int .u8 0, .int .u8 0] 23)) := (hF.alloc _).alloc _
  have zg := hF.sz
  go_wp2_with (first | (refine wpList_store_cell31 rfl 5 _ _ rfl (w.heap.size) 0 rfl (.int .u8 9) rfl 23 _ z1 (by decide) (by kernel_rfl) rfl ?_; refine wpList_stay ?_) | fail)
  unfold WpStay
  have r1 : (((w.alloc (.cells #[.int .u8 0, .int .u8 0, .int .u8 0, .int .u8 0, .int .u8 0, .int .u8 0, .int .u8 0, .int .u8 0, .int .u8 0, .int .u8 0, .int .u8 0, .int .u8 0, .int .u8 0, .int .u8 0, .int .u8 0, .int .u8 0, .int .u8 0, .int .u8 0, .int .u8 0, .int .u8 0, .int .u8 0, .int .u8 0, .int .u8 0, .int .u8 0, .int .u8 0, .int .u8 0, .int .u8 0, .int .u8 0, .int .u8 0, .int .u8 0, .int .u8 0, .int .u8 0] 23)).alloc (.cells #[.int .u8 0, .int .u8 0, .int .u8 0, .int .u8 0, .int .u8 0, .int .u8 0, .int .u8 0, .int .u8 0, .int .u8 0, .int .u8 0, .int .u8 0, .int .u8 0, .int .u8 0, .int .u8 0, .int .u8 0, .int .u8 0, .int .u8 0, .int .u8 0, .int .u8 0, .int .u8 0, .int .u8 0, .int .u8 0, .int .u8 0, .int .u8 0, .int .u8 0, .int .u8 0, .int .u8 0, .int .u8 0, .int .u8 0, .int .u8 0, .int .u8 0, .int .u8 0] 23)).setRow (w.heap.size) #[.int .u8 9, .int .u8 0, .int .u8 0, .int .u8 0, .int .u8 0, .int .u8 0, .int .u8 0, .int .u8 0, .int .u8 0, .int .u8 0, .int .u8 0, .int .u8 0, .int .u8 0, .int .u8 0, .int .u8 0, .int .u8 0, .int .u8 0, .int .u8 0, .int .u8 0, .int .u8 0, .int .u8 0, .int .u8 0, .int .u8 0, .int .u8 0, .int .u8 0, .int .u8 0, .int .u8 0, .int .u8 0, .int .u8 0, .int .u8 0, .int .u8 0, .int .u8 0]).heap[w.heap.size]? = some (.cells #[.int .u8 9, .int .u8 0, .int .u8 0, .int .u8 0, .int .u8 0, .int .u8 0, .int .u8 0, .int .u8 0, .int .u8 0, .int .u8 0, .int .u8 0, .int .u8 0, .int .u8 0, .int .u8 0, .int .u8 0, .int .u8 0, .int .u8 0, .int .u8 0, .int .u8 0, .int .u8 0, .int .u8 0, .int .u8 0, .int .u8 0, .int .u8 0, .int .u8 0, .int .u8 0, .int .u8 0, .int .u8 0, .int .u8 0, .int .u8 0, .int .u8 0, .int .u8 0] 23 (0, 0)) := setRow_heap _ _ _ _ _ _ z1
  have r2 : (((w.alloc (.cells #[.int .u8 0, .int .u8 0, .int .u8 0, .int .u8 0, .int .u8 0, .int .u8 0, .int .u8 0, .int .u8 0, .int .u8 0, .int .u8 0, .int .u8 0, .int .u8 0, .int .u8 0, .int .u8 0, .int .u8 0, .int .u8 0, .int .u8 0, .int .u8 0, .int .u8 0, .int .u8 0, .int .u8 0, .int .u8 0, .int .u8 0, .int .u8 0, .int .u8 0, .int .u8 0, .int .u8 0, .int .u8 0, .int .u8 0, .int .u8 0, .int .u8 0, .int .u8 0] 23)).alloc (.cells #[.int .u8 0, .int .u8 0, .int .u8 0, .int .u8 0, .int .u8 0, .int .u8 0, .int .u8 0, .int .u8 0, .int .u8 0, .int .u8 0, .int .u8 0, .int .u8 0, .int .u8 0, .int .u8 0, .int .u8 0, .int .u8 0, .int .u8 0, .int .u8 0, .int .u8 0, .int .u8 0, .int .u8 0, .int .u8 0, .int .u8 0, .int .u8 0, .int .u8 0, .int .u8 0, .int .u8 0, .int .u8 0, .int .u8 0, .int .u8 0, .int .u8 0, .int .u8 0] 23)).setRow (w.heap.size) #[.int .u8 9, .int .u8 0, .int .u8 0, .int .u8 0, .int .u8 0, .int .u8 0, .int .u8 0, .int .u8 0, .int .u8 0, .int .u8 0, .int .u8 0, .int .u8 0, .int .u8 0, .int .u8 0, .int .u8 0, .int .u8 0, .int .u8 0, .int .u8 0, .int .u8 0, .int .u8 0, .int .u8 0, .int .u8 0, .int .u8 0, .int .u8 0, .int .u8 0, .int .u8 0, .int .u8 0, .int .u8 0, .int .u8 0, .int .u8 0, .int .u8 0, .int .u8 0]).heap[w.heap.size + 1]? = some (.cells (rowb 0) 23 (0, 0)) := (setRow_other _ _ _ _ (by omega)).trans z2
  replace hw := below_setRow hw (Nat.le_refl _) #[.int .u8 9, .int .u8 0, .int .u8 0, .int .u8 0, .int .u8 0, .int .u8 0, .int .u8 0, .int .u8 0, .int .u8 0, .int .u8 0, .int .u8 0, .int .u8 0, .int .u8 0, .int .u8 0, .int .u8 0, .int .u8 0, .int .u8 0, .int .u8 0, .int .u8 0, .int .u8 0, .int .u8 0, .int .u8 0, .int .u8 0, .int .u8 0, .int .u8 0, .int .u8 0, .int .u8 0, .int .u8 0, .int .u8 0, .int .u8 0, .int .u8 0, .int .u8 0]
  replace f4 := f4.setRow (show 4 < w.heap.size from zg) #[.int .u8 9, .int .u8 0, .int .u8 0, .int .u8 0, .int .u8 0, .int .u8 0, .int .u8 0, .int .u8 0, .int .u8 0, .int .u8 0, .int .u8 0, .int .u8 0, .int .u8 0, .int .u8 0, .int .u8 0, .int .u8 0, .int .u8 0, .int .u8 0, .int .u8 0, .int .u8 0, .int .u8 0, .int .u8 0, .int .u8 0, .int .u8 0, .int .u8 0, .int .u8 0, .int .u8 0, .int .u8 0, .int .u8 0, .int .u8 0, .int .u8 0, .int .u8 0]
  clear z1 z2
  generalize ((w.alloc (.cells #[.int .u8 0, .int .u8 0, .int .u8 0, .int .u8 0, .int .u8 0, .int .u8 0, .int .u8 0, .int .u8 0, .int .u8 0, .int .u8 0, .int .u8 0, .int .u8 0, .int .u8 0, .int .u8 0, .int .u8 0, .int .u8 0, .int .u8 0, .int .u8 0, .int .u8 0, .int .u8 0, .int .u8 0, .int .u8 0, .int .u8 0, .int .u8 0, .int .u8 0, .int .u8 0, .int .u8 0, .int .u8 0, .int .u8 0, .int .u8 0, .int .u8 0, .int .u8 0] 23)).alloc (.cells #[.int .u8 0, .int .u8 0, .int .u8 0, .int .u8 0, .int .u8 0, .int .u8 0, .int .u8 0, .int .u8 0, .int .u8 0, .int .u8 0, .int .u8 0, .int .u8 0, .int .u8 0, .int .u8 0, .int .u8 0, .int .u8 0, .int .u8 0, .int .u8 0, .int .u8 0, .int .u8 0, .int .u8 0, .int .u8 0, .int .u8 0, .int .u8 0, .int .u8 0, .int .u8 0, .int .u8 0, .int .u8 0, .int .u8 0, .int .u8 0, .int .u8 0, .int .u8 0] 23)).setRow (w.heap.size) #[.int .u8 9, .int .u8 0, .int .u8 0, .int .u8 0, .int .u8 0, .int .u8 0, .int .u8 0, .int .u8 0, .int .u8 0, .int .u8 0, .int .u8 0, .int .u8 0, .int .u8 0, .int .u8 0, .int .u8 0, .int .u8 0, .int .u8 0, .int .u8 0, .int .u8 0, .int .u8 0, .int .u8 0, .int .u8 0, .int .u8 0, .int .u8 0, .int .u8 0, .int .u8 0, .int .u8 0, .int .u8 0, .int .u8 0, .int .u8 0, .int .u8 0, .int .u8 0] = w0 at *
  go_wp2_with (fail)
  go_loopw [3] (fun i wr => ∃ k : Nat, k ≤ 32 ∧ i = .int .i64 k ∧ wr.heap[w.heap.size]? = some (.cells #[.int .u8 9, .int .u8 0, .int .u8 0, .int .u8 0, .int .u8 0, .int .u8 0, .int .u8 0, .int .u8 0, .int .u8 0, .int .u8 0, .int .u8 0, .int .u8 0, .int .u8 0, .int .u8 0, .int .u8 0, .int .u8 0, .int .u8 0, .int .u8 0, .int .u8 0, .int .u8 0, .int .u8 0, .int .u8 0, .int .u8 0, .int .u8 0, .int .u8 0, .int .u8 0, .int .u8 0, .int .u8 0, .int .u8 0, .int .u8 0, .int .u8 0, .int .u8 0] 23 (0, 0)) ∧ wr.heap[w.heap.size + 1]? = some (.cells (rowb k) 23 (0, 0)) ∧ Below w.heap.size w wr ∧ Edw wr) (fun i _ => 32 - (intOf i).toNat)
  case atStart => exact ⟨0, by omega, rfl, r1, r2, hw, f4⟩
  case round =>
    clear r1 r2 hw f4
    obtain ⟨k, hk, rfl, r1, r2, hw, f4⟩ := hrel
    by_cases hlt : k < 32
    · have hl1 : ((k : Int) < 32) = True := by simp; omega
      have hl2 : ((k : Int) < 0) = False := by simp
      have e_ := rowb_next k hlt
      have q1 := (setRow_other wr (w.heap.size + 1) (w.heap.size) (rowb (k + 1)) (by omega)).trans r1
      have q2 := setRow_heap wr (w.heap.size + 1) _ (rowb (k + 1)) _ _ r2
      have q3 := below_setRow hw (show w.heap.size ≤ w.heap.size + 1 by omega) (rowb (k + 1))
      have q4 := f4.setRow (show 4 < w.heap.size + 1 by omega) (rowb (k + 1))
      have hsz := rowb_size k hk
      go_wp2_with (first | (refine wpList_store_cell31 rfl 5 _ _ rfl (w.heap.size + 1) k rfl (.int .u8 102) rfl 23 (rowb k) r2 (by rw [hsz]; exact hlt) (by kernel_rfl) rfl ?_; rw [e_]) | fail)
      go_roundw
      case rel => exact ⟨k + 1, by omega, by go_num, q1, q2, q3, q4⟩
      case measure => simp [intOf]; omega
    · obtain rfl : k = 32 := by omega
      clear hk hlt
      go_wp2_with (first | (refine wpList_store_cell31 rfl 5 _ _ rfl (w.heap.size + 1) 0 rfl (.int .u8 88) rfl 23 (rowb 32) r2 (by rw [rowb_size 32 (by omega)]; decide) (by kernel_rfl) rfl ?_; rw [eb.out]; refine wpList_stay ?_) | fail)
      unfold WpStay
      replace r1 := (setRow_other wr (w.heap.size + 1) (w.heap.size) (kb V) (by omega)).trans r1
      replace r2 := setRow_heap wr (w.heap.size + 1) _ (kb V) _ _ r2
      replace hw := below_setRow hw (show w.heap.size ≤ w.heap.size + 1 by omega) (kb V)
      replace f4 := f4.setRow (show 4 < w.heap.size + 1 by omega) (kb V)
      rw [e9.out] at r1
      generalize wr.setRow (w.heap.size + 1) (kb V) = w1 at *
      go_wp2_with (first | (refine wpList_load_want rfl 23 _ rfl (w.heap.size) rfl 23 (kb U) (0, 0) _ r1 Tryd.underlying23 rfl kU.info ?_) | (refine wpList_load_want rfl 23 _ rfl (w.heap.size + 1) rfl 23 (kb V) (0, 0) _ r2 Tryd.underlying23 rfl kV.info ?_) | fail)
      refine (cBa.at f4).mono ?_
      rintro e w2 ⟨rfl, hb⟩
      replace r1 := keep hb r1
      replace r2 := keep hb r2
      replace hw := Below.after hw hb
      replace f4 := f4.below hb
      clear hb
      go_wp2_with (first | (refine wpList_store_row rfl 29 _ _ rfl (w2.heap.size) t rfl rfl 29 #[.int .u64 0, .int .u64 0, .int .u64 0, .int .u64 0, .int .u64 0, .int .u64 0, .int .u64 0, .int .u64 0, .int .u64 0, .int .u64 0, .int .u64 0, .int .u64 0, .int .u64 0, .int .u64 0, .int .u64 0, .int .u64 0, .int .u64 0, .int .u64 0, .int .u64 0, .int .u64 0] (hp1_0 w2 _) ht.info (ht.size).symm ht.one ?_; rw [setRow_alloc_new _ _ _ _ _ _ (by simp)]; refine wpList_stay ?_) | fail)
      unfold WpStay
      try simp only [Act.put]
      have rl4 : (w2.alloc (.cells t 29)).heap[w2.heap.size]? = some (.cells t 29 (0, 0)) := hp1_0 w2 _
      have hb : Below w2.heap.size w2 (w2.alloc (.cells t 29)) := ((Below.refl _ _).alloc (Nat.le_refl _) _)
      generalize (w2.alloc (.cells t 29)) = wt at *
      have ygt_0 := lt_of_row r1
      have ygt_1 := lt_of_row r2
      have ygt := hw.size
      have zgt := f4.sz
      replace r1 := keep hb r1
      replace r2 := keep hb r2
      replace hw := Below.after hw hb
      replace f4 := f4.below hb
      clear hb
      generalize w2.heap.size = gt at *
      clear w2
      go_wp2_with (fail)
      have Hr1 := keepr r1
      have Hr2 := keepr r2
      have Hrl4 := keepr rl4
      refine wp_region_quiet_below (by kernel_rfl) (by kernel_rfl) ?_
      refine wpQuiet_load_row rfl 29 _ rfl (gt) rfl 29 t (0, 0) _ Hrl4.out Tryd.underlying29 rfl ht.info ?_
      simp only [Act.put, List.setIfInBounds_toArray, List.set_cons_succ, List.set_cons_zero]
      go_big_quiet_step (exact c4.re)
      refine wpQuiet_load_row rfl 23 _ rfl (w.heap.size + 1) rfl 23 (kb V) (0, 0) _ Hr2.out Tryd.underlying23 rfl kV.info ?_
      simp only [Act.put, List.setIfInBounds_toArray, List.set_cons_succ, List.set_cons_zero]
      go_big_quiet_step (fail)
      go_big_quiet_step (fail)
      refine wpQuiet_load_want rfl 29 _ rfl (gt) rfl 29 t (0, 0) _ Hrl4.out Tryd.underlying29 rfl ht.info ?_
      simp only [Act.put, List.setIfInBounds_toArray, List.set_cons_succ, List.set_cons_zero]
      go_big_quiet_step (exact c5.re f4.1.1)
      refine wpQuiet_load_want rfl 23 _ rfl (w.heap.size) rfl 23 (kb U) (0, 0) _ Hr1.out Tryd.underlying23 rfl kU.info ?_
      simp only [Act.put, List.setIfInBounds_toArray, List.set_cons_succ, List.set_cons_zero]
      go_big_quiet_step (fail)
      go_big_quiet_step (fail)
      go_big_quiet_step (fail)
      refine wpQuiet_load_want rfl 29 _ rfl (gt) rfl 29 t (0, 0) _ Hrl4.out Tryd.underlying29 rfl ht.info ?_
      simp only [Act.put, List.setIfInBounds_toArray, List.set_cons_succ, List.set_cons_zero]
      go_big_quiet_step (exact c6.re)
      go_big_quiet_step (fail)
      go_big_quiet_step (fail)
      go_big_quiet_step (fail)
      refine wpQuiet_load_want rfl 29 _ rfl (gt) rfl 29 t (0, 0) _ Hrl4.out Tryd.underlying29 rfl ht.info ?_
      simp only [Act.put, List.setIfInBounds_toArray, List.set_cons_succ, List.set_cons_zero]
      go_big_quiet_step (exact c7.re f4.1.1)
      refine wpQuiet_load_want rfl 29 _ rfl (gt) rfl 29 t (0, 0) _ Hrl4.out Tryd.underlying29 rfl ht.info ?_
      simp only [Act.put, List.setIfInBounds_toArray, List.set_cons_succ, List.set_cons_zero]
      go_big_quiet_step (exact c8.re)
      go_big_quiet_step (fail)
      go_big_quiet_step (fail)
      go_big_quiet_step (fail)
      refine wpQuiet_build rfl 29 _ rfl [] rfl #[.int .u64 0, .int .u64 0, .int .u64 0, .int .u64 0, .int .u64 0, .int .u64 0, .int .u64 0, .int .u64 0, .int .u64 0, .int .u64 0, .int .u64 0, .int .u64 0, .int .u64 0, .int .u64 0, .int .u64 0, .int .u64 0, .int .u64 0, .int .u64 0, .int .u64 0, .int .u64 0] (by kernel_rfl) ?_
      simp only [Act.put, List.setIfInBounds_toArray, List.set_cons_succ, List.set_cons_zero]
      go_big_quiet_step (exact c9.re)
      go_big_quiet_step (fail)
      go_big_quiet_step (fail)
      refine wpQuiet_nil ?_
      rintro _ ⟨p, rfl⟩
      have hb := below_regrown wt p.d p.os
      generalize grow (redrawn wt p.d) p.os = w3 at *
      replace r1 := keep hb r1
      replace r2 := keep hb r2
      replace rl4 := keep hb rl4
      replace hw := Below.after hw hb
      replace f4 := f4.below hb
      clear hb
      clear Hr1 Hr2 Hrl4
      go_wp2
      go_ret
      exact ⟨rfl, hw⟩
theorem a_lives2 : GivesE 39 #[] (.bool true) :=
  let ⟨_, ht, c⟩ := a_Base
  lives_aux ht c (pb_key bp) (ux_key bp) (hide nine_kb) (hide rowb_end) rfl rfl bp_neutral bp_twice

end Go.Proofs.YtgfhoabgbgddbaaDoor

