import Derived.Test.YtgfhoabgbgddbaaDoorProg
import Derived.WalkKit
import Derived.WalkSpells
import Derived.WalkLawsBesides
import Derived.Lib.QuietBelow
import Derived.BigQuiet
import Derived.Test.YtgfhoabgbgddbaaDoorCdKa
import Derived.Test.YtgfhoabgbgddbaaDoorCdDwf
import Derived.Test.YtgfhoabgbgddbaaDoorCdGs
import Derived.Test.YtgfhoabgbgddbaaDoorCdAb
namespace Go.Proofs.YtgfhoabgbgddbaaDoor
set_option maxRecDepth 100000
open Go.RowKit Go.Sort
attribute [local go_sem] setCell_drewN alloc_drewN
def Edw (w : World) : Prop := Both w ∧ (∃ t fr, w.heap[0]? = some (.cells (kb (tx bp)) t fr)) ∧ (∃ t fr, w.heap[1]? = some (.cells (kb bp.y) t fr))
theorem Edw.sz {w : World} (h : Edw w) : 4 < w.heap.size := h.1.sz
theorem Edw.belowN {w w' : World} {m : Nat} (h : Edw w) (hm : 4 < m) (hb : Below m w w') : Edw w' := by
 obtain ⟨h1, ⟨t, fr, h2⟩, ⟨t', fr', h3⟩⟩ := h
 exact ⟨h1.belowN hm hb, ⟨t, fr, (hb.block _ (by omega)).trans h2⟩, ⟨t', fr', (hb.block _ (by omega)).trans h3⟩⟩
theorem Edw.below {w w' : World} (h : Edw w) (hb : Below w.heap.size w w') : Edw w' := h.belowN h.sz hb
theorem Edw.alloc {w : World} (h : Edw w) (o : Obj) : Edw (w.alloc o) := h.below ((Below.refl _ _).alloc (Nat.le_refl _) _)
theorem Edw.setRow {w : World} {g : Nat} (h : Edw w) (hg : 4 < g) (cs : Array Value) : Edw (w.setRow g cs) := h.belowN (Nat.lt_succ_self _) (below_setRow (Below.refl _ _) hg cs)
def GivesE (f : FuncId) (args : Array Value) (v : Value) : Prop := ∀ W, Edw W → Calls Tryd.prog f args W fun e w' => e = .returned v ∧ Below W.heap.size W w'
theorem GivesE.at {f : FuncId} {args : Array Value} {v : Value} (h : GivesE f args v) {W : World} (hW : Edw W) : Calls Tryd.prog f args W fun e w' => e = .returned v ∧ Below W.heap.size W w' := h W hW
theorem GivesE.re {f : FuncId} {args : Array Value} {v : Value} (h : GivesE f args v) {w : World} {d : Nat} {os : Array Obj} (hw : Edw w) : Calls Tryd.prog f args (grow (redrawn w d) os) fun e w'' => e = .returned v ∧ ∃ p : Regrown, w'' = grow (redrawn w p.d) p.os := Calls.regrown_of (h _ (hw.below (below_regrown w d os)))
theorem txbp_key : KeyOf (kb (tx bp)) (tx bp) := kb_key _ (tx_bd bp).1 (by have := (tx_bd bp).2; rw [prm_is] at this; omega)
set_option maxRecDepth 100000 in
set_option maxHeartbeats 8000000 in
theorem a_Base : ∃ t, PtO t bp ∧ GivesE 18 #[] (.agg t) := by
 obtain ⟨xr, hx0, cX⟩ := a_from txbp_key
 have hx : NumOf xr (tx bp) := hx0.congr (by decide +kernel)
 obtain ⟨yr, hy0, cY⟩ := a_from (y_key bp)
 have hy : NumOf yr bp.y := hy0.congr (by decide +kernel)
 clear hx0 hy0
 obtain ⟨s, hs, cS⟩ := a_flat (P := bp) hx hy (by rw [Int.sub_self]; exact zp_zero) (by rw [Int.sub_self]; exact zp_zero)
 obtain ⟨t, ht, cP⟩ := a_point hs
 refine ⟨t, ht, fun w hF => ?_⟩
 go_enter Tryd.func18, Tryd.ntmps18
 go_wp2
 have rp0 : (w.alloc (.cells #[.int .u64 0, .int .u64 0, .int .u64 0, .int .u64 0, .int .u64 0, .int .u64 0, .int .u64 0, .int .u64 0, .int .u64 0, .int .u64 0, .int .u64 0, .int .u64 0, .int .u64 0, .int .u64 0, .int .u64 0, .int .u64 0, .int .u64 0, .int .u64 0, .int .u64 0, .int .u64 0] 29)).heap[w.heap.size]? = some (.cells #[.int .u64 0, .int .u64 0, .int .u64 0, .int .u64 0, .int .u64 0, .int .u64 0, .int .u64 0, .int .u64 0, .int .u64 0, .int .u64 0, .int .u64 0, .int .u64 0, .int .u64 0, .int .u64 0, .int .u64 0, .int .u64 0, .int .u64 0, .int .u64 0, .int .u64 0, .int .u64 0] 29 (0, 0)) := hp1_0 w _
 have hw : Below w.heap.size w (w.alloc (.cells #[.int .u64 0, .int .u64 0, .int .u64 0, .int .u64 0, .int .u64 0, .int .u64 0, .int .u64 0, .int .u64 0, .int .u64 0, .int .u64 0, .int .u64 0, .int .u64 0, .int .u64 0, .int .u64 0, .int .u64 0, .int .u64 0, .int .u64 0, .int .u64 0, .int .u64 0, .int .u64 0] 29)) := ((Below.refl _ _).alloc (Nat.le_refl _) _)
 have hz0 := hF.sz
 have f4 : Edw (w.alloc (.cells #[.int .u64 0, .int .u64 0, .int .u64 0, .int .u64 0, .int .u64 0, .int .u64 0, .int .u64 0, .int .u64 0, .int .u64 0, .int .u64 0, .int .u64 0, .int .u64 0, .int .u64 0, .int .u64 0, .int .u64 0, .int .u64 0, .int .u64 0, .int .u64 0, .int .u64 0, .int .u64 0] 29)) := (hF.alloc _)
 generalize (w.alloc (.cells #[.int .u64 0, .int .u64 0, .int .u64 0, .int .u64 0, .int .u64 0, .int .u64 0, .int .u64 0, .int .u64 0, .int .u64 0, .int .u64 0, .int .u64 0, .int .u64 0, .int .u64 0, .int .u64 0, .int .u64 0, .int .u64 0, .int .u64 0, .int .u64 0, .int .u64 0, .int .u64 0] 29)) = w0 at *
 obtain ⟨⟨tA, fA, gA⟩, ⟨tB, fB, gB⟩⟩ := f4.2
 have Hrp0 := keepr rp0
 have HgA := keepr gA
 have HgB := keepr gB
 refine wp_region_tail (C := fun w' => ∃ p : Regrown, w' = grow (redrawn w0 p.d) p.os) 6 _ rfl rfl rfl (by kernel_rfl) (by kernel_rfl) (by kernel_rfl) (by kernel_rfl) ⟨⟨w0.drawn + 1, #[]⟩, by rw [grow_empty]; rfl⟩ ?_
 dsimp only [List.set, idle]
 refine wpQuiet_load_row rfl 23 _ rfl (0) rfl tA (kb (tx bp)) fA _ HgA.out Tryd.underlying23 rfl txbp_key.info ?_
 simp only [Act.put, List.setIfInBounds_toArray, List.set_cons_succ, List.set_cons_zero]
 go_big_quiet_step (exact cX.re)
 refine wpQuiet_load_row rfl 23 _ rfl (1) rfl tB (kb bp.y) fB _ HgB.out Tryd.underlying23 rfl (y_key bp).info ?_
 simp only [Act.put, List.setIfInBounds_toArray, List.set_cons_succ, List.set_cons_zero]
 go_big_quiet_step (exact cY.re)
 go_big_quiet_step (exact cS.re)
 go_big_quiet_step (exact cP.re f4.1.1)
 refine wpQuiet_idle rfl rfl rfl ?_
 rintro _ ⟨p, rfl⟩
 have hb := below_regrown w0 p.d p.os
 generalize grow (redrawn w0 p.d) p.os = w5 at *
 replace rp0 := keep hb rp0
 replace gA := keep hb gA
 replace gB := keep hb gB
 replace hw := Below.after hw hb
 replace f4 := f4.below hb
 clear hb
 clear Hrp0 HgA HgB
 go_wp2_with (first | (refine wpList_store_row rfl 29 _ _ rfl (w.heap.size) t rfl rfl 29 _ rp0 ht.info ((show _ = 20 from rfl).trans ht.size.symm) ht.one ?_) | fail)
 exact bodyPost_ret (v := .agg t) (results_cell_row Tryd.results18 _ _ (w.heap.size) _ t _ _ rfl (setRow_heap _ _ _ _ _ _ rp0) Tryd.underlying29 rfl ht.info) rfl ⟨rfl, below_setRow hw (by omega) _⟩
def rowb (i : Nat) : Array Value := (List.replicate i (Value.int .u8 102) ++ List.replicate (32 - i) (Value.int .u8 0)).toArray
theorem rowb_next (i : Nat) (h : i < 32) : (rowb i).setIfInBounds i (.int .u8 102) = rowb (i + 1) := by
 rcases (by omega : i = 0 ∨ i = 1 ∨ i = 2 ∨ i = 3 ∨ i = 4 ∨ i = 5 ∨ i = 6 ∨ i = 7 ∨ i = 8 ∨ i = 9 ∨ i = 10 ∨ i = 11 ∨ i = 12 ∨ i = 13 ∨ i = 14 ∨ i = 15 ∨ i = 16 ∨ i = 17 ∨ i = 18 ∨ i = 19 ∨ i = 20 ∨ i = 21 ∨ i = 22 ∨ i = 23 ∨ i = 24 ∨ i = 25 ∨ i = 26 ∨ i = 27 ∨ i = 28 ∨ i = 29 ∨ i = 30 ∨ i = 31) with rfl | rfl | rfl | rfl | rfl | rfl | rfl | rfl | rfl | rfl | rfl | rfl | rfl | rfl | rfl | rfl | rfl | rfl | rfl | rfl | rfl | rfl | rfl | rfl | rfl | rfl | rfl | rfl | rfl | rfl | rfl | rfl <;> rfl
theorem rowb_size (i : Nat) (h : i ≤ 32) : (rowb i).size = 32 := by simp [rowb]; omega
theorem rowb_end : (rowb 32).setIfInBounds 0 (.int .u8 88) = kb (pb bp) := by
 have e : pb bp = 46316835694926478169428394003475163141307993866256225615783033603165251855960 := by decide +kernel
 rw [e]
 rfl
theorem ux_is {y z : Int} (h : Zp ((1 - y) * z - 1)) (h2 : Zp ((1 + y) - 9 * (1 - y))) : (1 + y) * z % prm = 9 := mod_of (zp_lin2 9 z h h2 (by grind)) (by decide) (by decide)
theorem ux_of (P : E1) (hn : ¬ Zp (1 - P.y)) (h : Zp ((1 + P.y) - 9 * (1 - P.y))) : ux P = 9 := ux_is (iv_mul hn) h
theorem ux_bp : ux bp = 9 := ux_of bp (by unfold Zp; decide +kernel) (by unfold Zp; decide +kernel)
theorem nine_of {u : Int} (h : u = 9) : #[.int .u8 9, .int .u8 0, .int .u8 0, .int .u8 0, .int .u8 0, .int .u8 0, .int .u8 0, .int .u8 0, .int .u8 0, .int .u8 0, .int .u8 0, .int .u8 0, .int .u8 0, .int .u8 0, .int .u8 0, .int .u8 0, .int .u8 0, .int .u8 0, .int .u8 0, .int .u8 0, .int .u8 0, .int .u8 0, .int .u8 0, .int .u8 0, .int .u8 0, .int .u8 0, .int .u8 0, .int .u8 0, .int .u8 0, .int .u8 0, .int .u8 0, .int .u8 0] = kb u := by subst h; rfl
theorem nine_kb : #[.int .u8 9, .int .u8 0, .int .u8 0, .int .u8 0, .int .u8 0, .int .u8 0, .int .u8 0, .int .u8 0, .int .u8 0, .int .u8 0, .int .u8 0, .int .u8 0, .int .u8 0, .int .u8 0, .int .u8 0, .int .u8 0, .int .u8 0, .int .u8 0, .int .u8 0, .int .u8 0, .int .u8 0, .int .u8 0, .int .u8 0, .int .u8 0, .int .u8 0, .int .u8 0, .int .u8 0, .int .u8 0, .int .u8 0, .int .u8 0, .int .u8 0, .int .u8 0] = kb (ux bp) := nine_of ux_bp
theorem bp_twice : eqb (pl bp bp) bp = false := by
 rw [← Bool.not_eq_true, eqb_iff]
 intro h
 have : pl bp bp = pl ze bp := by rw [ze_pl]; exact h
 exact bp_ne (pl_cancel this)
theorem bp_neutral : eqb bp ze = false := by
 rw [← Bool.not_eq_true, eqb_iff]
 exact bp_ne
set_option maxRecDepth 100000 in
set_option maxHeartbeats 8000000 in
theorem lives_aux {t : Array Value} {U V : Int} {B : E1} (ht : PtO t B) (cBa : GivesE 18 #[] (.agg t)) (kV : KeyOf (kb V) V) (kU : KeyOf (kb U) U) (e9 : Hid (#[.int .u8 9, .int .u8 0, .int .u8 0, .int .u8 0, .int .u8 0, .int .u8 0, .int .u8 0, .int .u8 0, .int .u8 0, .int .u8 0, .int .u8 0, .int .u8 0, .int .u8 0, .int .u8 0, .int .u8 0, .int .u8 0, .int .u8 0, .int .u8 0, .int .u8 0, .int .u8 0, .int .u8 0, .int .u8 0, .int .u8 0, .int .u8 0, .int .u8 0, .int .u8 0, .int .u8 0, .int .u8 0, .int .u8 0, .int .u8 0, .int .u8 0, .int .u8 0] = kb U)) (eb : Hid ((rowb 32).setIfInBounds 0 (.int .u8 88) = kb V)) (hV : pb B = V) (hU : ux B = U) (hN : eqb B ze = false) (hT : eqb (pl B B) B = false) : GivesE 39 #[] (.bool true) := by
 have heq : ∀ q, 0 ≤ q → q < 115792089237316195423570985008687907853269984665640564039457584007913129639936 → ∀ W, (Op.equalIn 10000 23 (.agg (kb q)) (.agg (kb q))).run Tryd.prog W = .ok true W := fun q a b W => by rw [kb_equal _ _ a b a b]; simp
 have heq1 := heq _ kV.bd.1 kV.bd.2
 have heq2 := heq _ kU.bd.1 kU.bd.2
 clear heq
 have c4 := a_Bytes ht
 rw [hV] at c4
 have c5 := a_U ht
 rw [hU] at c5
 have c6 := a_IsNeutral ht
 rw [hN] at c6
 obtain ⟨x7, h7, c7⟩ := a_Double ht
 have c8 := a_Equal h7 ht
 rw [hT] at c8
 have c9 := a_IsNeutral pt_zero
 rw [eqb_self] at c9
 clear hV hU hN hT
 intro w hF
 go_enter Tryd.func39, Tryd.ntmps39
 have z1 := hp2_0 w (.cells #[.int .u8 0, .int .u8 0, .int .u8 0, .int .u8 0, .int .u8 0, .int .u8 0, .int .u8 0, .int .u8 0, .int .u8 0, .int .u8 0, .int .u8 0, .int .u8 0, .int .u8 0, .int .u8 0, .int .u8 0, .int .u8 0, .int .u8 0, .int .u8 0, .int .u8 0, .int .u8 0, .int .u8 0, .int .u8 0, .int .u8 0, .int .u8 0, .int .u8 0, .int .u8 0, .int .u8 0, .int .u8 0, .int .u8 0, .int .u8 0, .int .u8 0, .int .u8 0] 23) (.cells #[.int .u8 0, .int .u8 0, .int .u8 0, .int .u8 0, .int .u8 0, .int .u8 0, .int .u8 0, .int .u8 0, .int .u8 0, .int .u8 0, .int .u8 0, .int .u8 0, .int .u8 0, .int .u8 0, .int .u8 0, .int .u8 0, .int .u8 0, .int .u8 0, .int .u8 0, .int .u8 0, .int .u8 0, .int .u8 0, .int .u8 0, .int .u8 0, .int .u8 0, .int .u8 0, .int .u8 0, .int .u8 0, .int .u8 0, .int .u8 0, .int .u8 0, .int .u8 0] 23)
 have z2 := hp2_1 w (.cells #[.int .u8 0, .int .u8 0, .int .u8 0, .int .u8 0, .int .u8 0, .int .u8 0, .int .u8 0, .int .u8 0, .int .u8 0, .int .u8 0, .int .u8 0, .int .u8 0, .int .u8 0, .int .u8 0, .int .u8 0, .int .u8 0, .int .u8 0, .int .u8 0, .int .u8 0, .int .u8 0, .int .u8 0, .int .u8 0, .int .u8 0, .int .u8 0, .int .u8 0, .int .u8 0, .int .u8 0, .int .u8 0, .int .u8 0, .int .u8 0, .int .u8 0, .int .u8 0] 23) (.cells #[.int .u8 0, .int .u8 0, .int .u8 0, .int .u8 0, .int .u8 0, .int .u8 0, .int .u8 0, .int .u8 0, .int .u8 0, .int .u8 0, .int .u8 0, .int .u8 0, .int .u8 0, .int .u8 0, .int .u8 0, .int .u8 0, .int .u8 0, .int .u8 0, .int .u8 0, .int .u8 0, .int .u8 0, .int .u8 0, .int .u8 0, .int .u8 0, .int .u8 0, .int .u8 0, .int .u8 0, .int .u8 0, .int .u8 0, .int .u8 0, .int .u8 0, .int .u8 0] 23)
 have hw : Below w.heap.size w ((w.alloc (.cells #[.int .u8 0, .int .u8 0, .int .u8 0, .int .u8 0, .int .u8 0, .int .u8 0, .int .u8 0, .int .u8 0, .int .u8 0, .int .u8 0, .int .u8 0, .int .u8 0, .int .u8 0, .int .u8 0, .int .u8 0, .int .u8 0, .int .u8 0, .int .u8 0, .int .u8 0, .int .u8 0, .int .u8 0, .int .u8 0, .int .u8 0, .int .u8 0, .int .u8 0, .int .u8 0, .int .u8 0, .int .u8 0, .int .u8 0, .int .u8 0, .int .u8 0, .int .u8 0] 23)).alloc (.cells #[.int .u8 0, .int .u8 0, .int .u8 0, .int .u8 0, .int .u8 0, .int .u8 0, .int .u8 0, .int .u8 0, .int .u8 0, .int .u8 0, .int .u8 0, .int .u8 0, .int .u8 0, .int .u8 0, .int .u8 0, .int .u8 0, .int .u8 0, .int .u8 0, .int .u8 0, .int .u8 0, .int .u8 0, .int .u8 0, .int .u8 0, .int .u8 0, .int .u8 0, .int .u8 0, .int .u8 0, .int .u8 0, .int .u8 0, .int .u8 0, .int .u8 0, .int .u8 0] 23)) := ((Below.refl _ _).alloc (Nat.le_refl _) _).alloc (by simp) _
 have f4 : Edw ((w.alloc (.cells #[.int .u8 0, .int .u8 0, .int .u8 0, .int .u8 0, .int .u8 0, .int .u8 0, .int .u8 0, .int .u8 0, .int .u8 0, .int .u8 0, .int .u8 0, .int .u8 0, .int .u8 0, .int .u8 0, .int .u8 0, .int .u8 0, .int .u8 0, .int .u8 0, .int .u8 0, .int .u8 0, .int .u8 0, .int .u8 0, .int .u8 0, .int .u8 0, .int .u8 0, .int .u8 0, .int .u8 0, .int .u8 0, .int .u8 0, .int .u8 0, .int .u8 0, .int .u8 0] 23)).alloc (.cells #[.int .u8 0, .int .u8 0, .int .u8 0, .int .u8 0, .int .u8 0, .int .u8 0, .int .u8 0, .int .u8 0, .int .u8 0, .int .u8 0, .int .u8 0, .int .u8 0, .int .u8 0, .int .u8 0, .int .u8 0, .int .u8 0, .int .u8 0, .int .u8 0, .int .u8 0, .int .u8 0, .int .u8 0, .int .u8 0, .int .u8 0, .int .u8 0, .int .u8 0, .int .u8 0, .int .u8 0, .int .u8 0, .int .u8 0, .int .u8 0, .int .u8 0, .int .u8 0] 23)) := (hF.alloc _).alloc _
 have zg := hF.sz
 go_wp2_with (first | (refine wpList_store_cell31 rfl 5 _ _ rfl (w.heap.size) 0 rfl (.int .u8 9) rfl 23 _ z1 (by decide) (by kernel_rfl) rfl ?_; refine wpList_stay ?_) | fail)
 unfold WpStay
 have r1 : (((w.alloc (.cells #[.int .u8 0, .int .u8 0, .int .u8 0, .int .u8 0, .int .u8 0, .int .u8 0, .int .u8 0, .int .u8 0, .int .u8 0, .int .u8 0, .int .u8 0, .int .u8 0, .int .u8 0, .int .u8 0, .int .u8 0, .int .u8 0, .int .u8 0, .int .u8 0, .int .u8 0, .int .u8 0, .int .u8 0, .int .u8 0, .int .u8 0, .int .u8 0, .int .u8 0, .int .u8 0, .int .u8 0, .int .u8 0, .int .u8 0, .int .u8 0, .int .u8 0, .int .u8 0] 23)).alloc (.cells #[.int .u8 0, .int .u8 0, .int .u8 0, .int .u8 0, .int .u8 0, .int .u8 0, .int .u8 0, .int .u8 0, .int .u8 0, .int .u8 0, .int .u8 0, .int .u8 0, .int .u8 0, .int .u8 0, .int .u8 0, .int .u8 0, .int .u8 0, .int .u8 0, .int .u8 0, .int .u8 0, .int .u8 0, .int .u8 0, .int .u8 0, .int .u8 0, .int .u8 0, .int .u8 0, .int .u8 0, .int .u8 0, .int .u8 0, .int .u8 0, .int .u8 0, .int .u8 0] 23)).setRow (w.heap.size) #[.int .u8 9, .int .u8 0, .int .u8 0, .int .u8 0, .int .u8 0, .int .u8 0, .int .u8 0, .int .u8 0, .int .u8 0, .int .u8 0, .int .u8 0, .int .u8 0, .int .u8 0, .int .u8 0, .int .u8 0, .int .u8 0, .int .u8 0, .int .u8 0, .int .u8 0, .int .u8 0, .int .u8 0, .int .u8 0, .int .u8 0, .int .u8 0, .int .u8 0, .int .u8 0, .int .u8 0, .int .u8 0, .int .u8 0, .int .u8 0, .int .u8 0, .int .u8 0]).heap[w.heap.size]? = some (.cells #[.int .u8 9, .int .u8 0, .int .u8 0, .int .u8 0, .int .u8 0, .int .u8 0, .int .u8 0, .int .u8 0, .int .u8 0, .int .u8 0, .int .u8 0, .int .u8 0, .int .u8 0, .int .u8 0, .int .u8 0, .int .u8 0, .int .u8 0, .int .u8 0, .int .u8 0, .int .u8 0, .int .u8 0, .int .u8 0, .int .u8 0, .int .u8 0, .int .u8 0, .int .u8 0, .int .u8 0, .int .u8 0, .int .u8 0, .int .u8 0, .int .u8 0, .int .u8 0] 23 (0, 0)) := setRow_heap _ _ _ _ _ _ z1
 have r2 : (((w.alloc (.cells #[.int .u8 0, .int .u8 0, .int .u8 0, .int .u8 0, .int .u8 0, .int .u8 0, .int .u8 0, .int .u8 0, .int .u8 0, .int .u8 0, .int .u8 0, .int .u8 0, .int .u8 0, .int .u8 0, .int .u8 0, .int .u8 0, .int .u8 0, .int .u8 0, .int .u8 0, .int .u8 0, .int .u8 0, .int .u8 0, .int .u8 0, .int .u8 0, .int .u8 0, .int .u8 0, .int .u8 0, .int .u8 0, .int .u8 0, .int .u8 0, .int .u8 0, .int .u8 0] 23)).alloc (.cells #[.int .u8 0, .int .u8 0, .int .u8 0, .int .u8 0, .int .u8 0, .int .u8 0, .int .u8 0, .int .u8 0, .int .u8 0, .int .u8 0, .int .u8 0, .int .u8 0, .int .u8 0, .int .u8 0, .int .u8 0, .int .u8 0, .int .u8 0, .int .u8 0, .int .u8 0, .int .u8 0, .int .u8 0, .int .u8 0, .int .u8 0, .int .u8 0, .int .u8 0, .int .u8 0, .int .u8 0, .int .u8 0, .int .u8 0, .int .u8 0, .int .u8 0, .int .u8 0] 23)).setRow (w.heap.size) #[.int .u8 9, .int .u8 0, .int .u8 0, .int .u8 0, .int .u8 0, .int .u8 0, .int .u8 0, .int .u8 0, .int .u8 0, .int .u8 0, .int .u8 0, .int .u8 0, .int .u8 0, .int .u8 0, .int .u8 0, .int .u8 0, .int .u8 0, .int .u8 0, .int .u8 0, .int .u8 0, .int .u8 0, .int .u8 0, .int .u8 0, .int .u8 0, .int .u8 0, .int .u8 0, .int .u8 0, .int .u8 0, .int .u8 0, .int .u8 0, .int .u8 0, .int .u8 0]).heap[w.heap.size + 1]? = some (.cells (rowb 0) 23 (0, 0)) := (setRow_other _ _ _ _ (by omega)).trans z2
 replace hw := below_setRow hw (Nat.le_refl _) #[.int .u8 9, .int .u8 0, .int .u8 0, .int .u8 0, .int .u8 0, .int .u8 0, .int .u8 0, .int .u8 0, .int .u8 0, .int .u8 0, .int .u8 0, .int .u8 0, .int .u8 0, .int .u8 0, .int .u8 0, .int .u8 0, .int .u8 0, .int .u8 0, .int .u8 0, .int .u8 0, .int .u8 0, .int .u8 0, .int .u8 0, .int .u8 0, .int .u8 0, .int .u8 0, .int .u8 0, .int .u8 0, .int .u8 0, .int .u8 0, .int .u8 0, .int .u8 0]
 replace f4 := f4.setRow (show 4 < w.heap.size from zg) #[.int .u8 9, .int .u8 0, .int .u8 0, .int .u8 0, .int .u8 0, .int .u8 0, .int .u8 0, .int .u8 0, .int .u8 0, .int .u8 0, .int .u8 0, .int .u8 0, .int .u8 0, .int .u8 0, .int .u8 0, .int .u8 0, .int .u8 0, .int .u8 0, .int .u8 0, .int .u8 0, .int .u8 0, .int .u8 0, .int .u8 0, .int .u8 0, .int .u8 0, .int .u8 0, .int .u8 0, .int .u8 0, .int .u8 0, .int .u8 0, .int .u8 0, .int .u8 0]
 clear z1 z2
 generalize ((w.alloc (.cells #[.int .u8 0, .int .u8 0, .int .u8 0, .int .u8 0, .int .u8 0, .int .u8 0, .int .u8 0, .int .u8 0, .int .u8 0, .int .u8 0, .int .u8 0, .int .u8 0, .int .u8 0, .int .u8 0, .int .u8 0, .int .u8 0, .int .u8 0, .int .u8 0, .int .u8 0, .int .u8 0, .int .u8 0, .int .u8 0, .int .u8 0, .int .u8 0, .int .u8 0, .int .u8 0, .int .u8 0, .int .u8 0, .int .u8 0, .int .u8 0, .int .u8 0, .int .u8 0] 23)).alloc (.cells #[.int .u8 0, .int .u8 0, .int .u8 0, .int .u8 0, .int .u8 0, .int .u8 0, .int .u8 0, .int .u8 0, .int .u8 0, .int .u8 0, .int .u8 0, .int .u8 0, .int .u8 0, .int .u8 0, .int .u8 0, .int .u8 0, .int .u8 0, .int .u8 0, .int .u8 0, .int .u8 0, .int .u8 0, .int .u8 0, .int .u8 0, .int .u8 0, .int .u8 0, .int .u8 0, .int .u8 0, .int .u8 0, .int .u8 0, .int .u8 0, .int .u8 0, .int .u8 0] 23)).setRow (w.heap.size) #[.int .u8 9, .int .u8 0, .int .u8 0, .int .u8 0, .int .u8 0, .int .u8 0, .int .u8 0, .int .u8 0, .int .u8 0, .int .u8 0, .int .u8 0, .int .u8 0, .int .u8 0, .int .u8 0, .int .u8 0, .int .u8 0, .int .u8 0, .int .u8 0, .int .u8 0, .int .u8 0, .int .u8 0, .int .u8 0, .int .u8 0, .int .u8 0, .int .u8 0, .int .u8 0, .int .u8 0, .int .u8 0, .int .u8 0, .int .u8 0, .int .u8 0, .int .u8 0] = w0 at *
 go_wp2_with (fail)
 go_loopw [3] (fun i wr => ∃ k : Nat, k ≤ 32 ∧ i = .int .i64 k ∧ wr.heap[w.heap.size]? = some (.cells #[.int .u8 9, .int .u8 0, .int .u8 0, .int .u8 0, .int .u8 0, .int .u8 0, .int .u8 0, .int .u8 0, .int .u8 0, .int .u8 0, .int .u8 0, .int .u8 0, .int .u8 0, .int .u8 0, .int .u8 0, .int .u8 0, .int .u8 0, .int .u8 0, .int .u8 0, .int .u8 0, .int .u8 0, .int .u8 0, .int .u8 0, .int .u8 0, .int .u8 0, .int .u8 0, .int .u8 0, .int .u8 0, .int .u8 0, .int .u8 0, .int .u8 0, .int .u8 0] 23 (0, 0)) ∧ wr.heap[w.heap.size + 1]? = some (.cells (rowb k) 23 (0, 0)) ∧ Below w.heap.size w wr ∧ Edw wr) (fun i _ => 32 - (intOf i).toNat)
 case atStart => exact ⟨0, by omega, rfl, r1, r2, hw, f4⟩
 case round =>
  clear r1 r2 hw f4
  obtain ⟨k, hk, rfl, r1, r2, hw, f4⟩ := hrel
  by_cases hlt : k < 32
  ·have hl1 : ((k : Int) < 32) = True := by simp; omega
   have hl2 : ((k : Int) < 0) = False := by simp
   have e_ := rowb_next k hlt
   have q1 := (setRow_other wr (w.heap.size + 1) (w.heap.size) (rowb (k + 1)) (by omega)).trans r1
   have q2 := setRow_heap wr (w.heap.size + 1) _ (rowb (k + 1)) _ _ r2
   have q3 := below_setRow hw (show w.heap.size ≤ w.heap.size + 1 by omega) (rowb (k + 1))
   have q4 := f4.setRow (show 4 < w.heap.size + 1 by omega) (rowb (k + 1))
   have hsz := rowb_size k hk
   go_wp2_with (first | (refine wpList_store_cell31 rfl 5 _ _ rfl (w.heap.size + 1) k rfl (.int .u8 102) rfl 23 (rowb k) r2 (by rw [hsz]; exact hlt) (by kernel_rfl) rfl ?_; rw [e_]) | fail)
   go_roundw
   case rel => exact ⟨k + 1, by omega, by go_num, q1, q2, q3, q4⟩
   case measure => simp [intOf]; omega
  ·obtain rfl : k = 32 := by omega
   clear hk hlt
   go_wp2_with (first | (refine wpList_store_cell31 rfl 5 _ _ rfl (w.heap.size + 1) 0 rfl (.int .u8 88) rfl 23 (rowb 32) r2 (by rw [rowb_size 32 (by omega)]; decide) (by kernel_rfl) rfl ?_; rw [eb.out]; refine wpList_stay ?_) | fail)
   unfold WpStay
   replace r1 := (setRow_other wr (w.heap.size + 1) (w.heap.size) (kb V) (by omega)).trans r1
   replace r2 := setRow_heap wr (w.heap.size + 1) _ (kb V) _ _ r2
   replace hw := below_setRow hw (show w.heap.size ≤ w.heap.size + 1 by omega) (kb V)
   replace f4 := f4.setRow (show 4 < w.heap.size + 1 by omega) (kb V)
   rw [e9.out] at r1
   generalize wr.setRow (w.heap.size + 1) (kb V) = w1 at *
   go_wp2_with (first | (refine wpList_load_want rfl 23 _ rfl (w.heap.size) rfl 23 (kb U) (0, 0) _ r1 Tryd.underlying23 rfl kU.info ?_) | (refine wpList_load_want rfl 23 _ rfl (w.heap.size + 1) rfl 23 (kb V) (0, 0) _ r2 Tryd.underlying23 rfl kV.info ?_) | fail)
   refine (cBa.at f4).mono ?_
   rintro e w2 ⟨rfl, hb⟩
   replace r1 := keep hb r1
   replace r2 := keep hb r2
   replace hw := Below.after hw hb
   replace f4 := f4.below hb
   clear hb
   go_wp2_with (first | (refine wpList_store_row rfl 29 _ _ rfl (w2.heap.size) t rfl rfl 29 #[.int .u64 0, .int .u64 0, .int .u64 0, .int .u64 0, .int .u64 0, .int .u64 0, .int .u64 0, .int .u64 0, .int .u64 0, .int .u64 0, .int .u64 0, .int .u64 0, .int .u64 0, .int .u64 0, .int .u64 0, .int .u64 0, .int .u64 0, .int .u64 0, .int .u64 0, .int .u64 0] (hp1_0 w2 _) ht.info (ht.size).symm ht.one ?_; rw [setRow_alloc_new _ _ _ _ _ _ (by simp)]; refine wpList_stay ?_) | fail)
   unfold WpStay
   try simp only [Act.put]
   have rl4 : (w2.alloc (.cells t 29)).heap[w2.heap.size]? = some (.cells t 29 (0, 0)) := hp1_0 w2 _
   have hb : Below w2.heap.size w2 (w2.alloc (.cells t 29)) := ((Below.refl _ _).alloc (Nat.le_refl _) _)
   generalize (w2.alloc (.cells t 29)) = wt at *
   have ygt_0 := lt_of_row r1
   have ygt_1 := lt_of_row r2
   have ygt := hw.size
   have zgt := f4.sz
   replace r1 := keep hb r1
   replace r2 := keep hb r2
   replace hw := Below.after hw hb
   replace f4 := f4.below hb
   clear hb
   generalize w2.heap.size = gt at *
   clear w2
   go_wp2_with (fail)
   have Hr1 := keepr r1
   have Hr2 := keepr r2
   have Hrl4 := keepr rl4
   refine wp_region_quiet_below (by kernel_rfl) (by kernel_rfl) ?_
   refine wpQuiet_load_row rfl 29 _ rfl (gt) rfl 29 t (0, 0) _ Hrl4.out Tryd.underlying29 rfl ht.info ?_
   simp only [Act.put, List.setIfInBounds_toArray, List.set_cons_succ, List.set_cons_zero]
   go_big_quiet_step (exact c4.re)
   refine wpQuiet_load_row rfl 23 _ rfl (w.heap.size + 1) rfl 23 (kb V) (0, 0) _ Hr2.out Tryd.underlying23 rfl kV.info ?_
   simp only [Act.put, List.setIfInBounds_toArray, List.set_cons_succ, List.set_cons_zero]
   go_big_quiet_step (fail)
   go_big_quiet_step (fail)
   refine wpQuiet_load_want rfl 29 _ rfl (gt) rfl 29 t (0, 0) _ Hrl4.out Tryd.underlying29 rfl ht.info ?_
   simp only [Act.put, List.setIfInBounds_toArray, List.set_cons_succ, List.set_cons_zero]
   go_big_quiet_step (exact c5.re f4.1.1)
   refine wpQuiet_load_want rfl 23 _ rfl (w.heap.size) rfl 23 (kb U) (0, 0) _ Hr1.out Tryd.underlying23 rfl kU.info ?_
   simp only [Act.put, List.setIfInBounds_toArray, List.set_cons_succ, List.set_cons_zero]
   go_big_quiet_step (fail)
   go_big_quiet_step (fail)
   go_big_quiet_step (fail)
   refine wpQuiet_load_want rfl 29 _ rfl (gt) rfl 29 t (0, 0) _ Hrl4.out Tryd.underlying29 rfl ht.info ?_
   simp only [Act.put, List.setIfInBounds_toArray, List.set_cons_succ, List.set_cons_zero]
   go_big_quiet_step (exact c6.re)
   go_big_quiet_step (fail)
   go_big_quiet_step (fail)
   go_big_quiet_step (fail)
   refine wpQuiet_load_want rfl 29 _ rfl (gt) rfl 29 t (0, 0) _ Hrl4.out Tryd.underlying29 rfl ht.info ?_
   simp only [Act.put, List.setIfInBounds_toArray, List.set_cons_succ, List.set_cons_zero]
   go_big_quiet_step (exact c7.re f4.1.1)
   refine wpQuiet_load_want rfl 29 _ rfl (gt) rfl 29 t (0, 0) _ Hrl4.out Tryd.underlying29 rfl ht.info ?_
   simp only [Act.put, List.setIfInBounds_toArray, List.set_cons_succ, List.set_cons_zero]
   go_big_quiet_step (exact c8.re)
   go_big_quiet_step (fail)
   go_big_quiet_step (fail)
   go_big_quiet_step (fail)
   refine wpQuiet_build rfl 29 _ rfl [] rfl #[.int .u64 0, .int .u64 0, .int .u64 0, .int .u64 0, .int .u64 0, .int .u64 0, .int .u64 0, .int .u64 0, .int .u64 0, .int .u64 0, .int .u64 0, .int .u64 0, .int .u64 0, .int .u64 0, .int .u64 0, .int .u64 0, .int .u64 0, .int .u64 0, .int .u64 0, .int .u64 0] (by kernel_rfl) ?_
   simp only [Act.put, List.setIfInBounds_toArray, List.set_cons_succ, List.set_cons_zero]
   go_big_quiet_step (exact c9.re)
   go_big_quiet_step (fail)
   go_big_quiet_step (fail)
   refine wpQuiet_nil ?_
   rintro _ ⟨p, rfl⟩
   have hb := below_regrown wt p.d p.os
   generalize grow (redrawn wt p.d) p.os = w3 at *
   replace r1 := keep hb r1
   replace r2 := keep hb r2
   replace rl4 := keep hb rl4
   replace hw := Below.after hw hb
   replace f4 := f4.below hb
   clear hb
   clear Hr1 Hr2 Hrl4
   go_wp2
   go_ret
   exact ⟨rfl, hw⟩
theorem a_lives2 : GivesE 39 #[] (.bool true) :=
 let ⟨_, ht, c⟩ := a_Base
 lives_aux ht c (pb_key bp) (ux_key bp) (hide nine_kb) (hide rowb_end) rfl rfl bp_neutral bp_twice
end Go.Proofs.YtgfhoabgbgddbaaDoor
namespace Go.Proofs.YtgfhoabgbgddbaaDoor
set_option maxRecDepth 100000
open Go.ChangeShapes Go.WideShapes Go.ChangeAt Go.WideMaps Go.WideElems Go.RowKit
theorem gBx : Tryd.prog.globalNamed "pawl/edwards.baseX" = some 0 := by kernel_rfl
theorem tBx : (Tryd.prog.globals[0]?).map (·.type) = some 23 := by kernel_rfl
theorem gBy : Tryd.prog.globalNamed "pawl/edwards.baseY" = some 1 := by kernel_rfl
theorem tBy : (Tryd.prog.globals[1]?).map (·.type) = some 23 := by kernel_rfl
theorem cU8 : Tryd.prog.cellsOf 5 = 1 := by kernel_rfl
theorem cKey : Tryd.prog.cellsOf 23 = 32 := by kernel_rfl
theorem rowN_of {P : Program} {t e : TypeId} {n : Nat} {k : IntKind} (ht : P.underlying t = some (.array n e)) (he : P.underlying e = some (.int k)) (hce : P.cellsOf e = 1) (hct : P.cellsOf t = n) {W : World} {m : Nat} {cs : Array Value} {p : List MemPlace} {ks : List Int}
 (h : DataW.trod (fun _ => ()) P W 0 (fun _ => true) false m t cs.toList = some (.agg (ks.map fun x => .lit (.int k x)), p)) : cs = (ks.map (Value.int k)).toArray := by
 obtain ⟨xs, m1, _, hx, hlen, hn, hel⟩ := DataW.trod_array ht h
 rw [hct] at hlen
 simp only [Prod.mk.injEq, DataW.agg.injEq] at hx
 have hk : ks.length = n := by
  have := congrArg List.length hx.1
  simp only [List.length_map] at this
  omega
 apply Array.ext'
 apply List.ext_getElem
 ·simp only [List.length_map]; omega
 ·intro i h1 h2
  have hin : i < n := by omega
  have hx' : xs[i]? = some xs[i] := List.getElem?_eq_getElem (by omega)
  have e1 := hel i hin
  rw [hce, hx'] at e1
  obtain ⟨a, q0, q1, _⟩ := DataW.trod_int he e1
  simp only [Nat.mul_one] at q0
  rw [List.drop_eq_getElem_cons h1] at q0
  have q0' : cs.toList[i] = .int k a := by simpa using q0
  rw [q0']
  have hi := congrArg (fun l => l[i]?) hx.1
  simp only [List.getElem?_map, List.getElem?_eq_getElem (show i < ks.length by omega), hx', Option.map_some, Option.some.injEq] at hi
  rw [q1] at hi
  simp only [DataW.lit.injEq, Lit.int.injEq, true_and] at hi
  simp [hi]
theorem row_of_var {W : World} {s : String} {g : Nat} (hg : Tryd.prog.globalNamed s = some g) {cs : Array Value} (hv : World.var? Tryd.prog W s = some cs) : ∃ t fr, W.heap[g]? = some (.cells cs t fr) := by
 unfold World.var? at hv
 rw [hg] at hv
 simp only [Option.bind_some] at hv
 split at hv
 ·rename_i cs' t fr hh
  obtain rfl := Option.some.inj hv
  exact ⟨t, fr, hh⟩
 ·cases hv
theorem edw_of_laid {W : World} (h : laidMetH Tryd.prog [("pawl/field.fourfold", Rows.laid_pawl_field_fourfold), ("pawl/field.unit", Rows.laid_pawl_field_unit), ("pawl/edwards.baseX", Rows.laid_pawl_edwards_baseX), ("pawl/edwards.baseY", Rows.laid_pawl_edwards_baseY)] W) : Edw W := by
 rw [MakeChecks.laidMetH_plain _ _ _ (by kernel_rfl)] at h
 obtain ⟨ps, ⟨g0, t0, cs0, f0, p0, q0, hg0, ht0, hv0, hd0, ⟨g1, t1, cs1, f1, p1, q1, hg1, ht1, hv1, hd1, ⟨g2, t2, cs2, f2, p2, q2, hg2, ht2, hv2, hd2, ⟨g3, t3, cs3, f3, p3, q3, hg3, ht3, hv3, hd3, _⟩, _⟩, _⟩, _⟩, _, _⟩ := h
 obtain rfl := Option.some.inj (gFour.symm.trans hg0)
 obtain rfl := Option.some.inj (tFour.symm.trans ht0)
 obtain rfl := row5_of Tryd.underlying25 Tryd.underlying24 c1 c5 hd0
 obtain rfl := Option.some.inj (gUnit.symm.trans hg1)
 obtain rfl := Option.some.inj (tUnit.symm.trans ht1)
 obtain ⟨y0, n, hx, hl, hy⟩ := trod_struct1 Tryd.underlying27 hd1
 have hx' : y0 = (.agg [.lit (.int .u64 1718705420411056), .lit (.int .u64 234908883556509), .lit (.int .u64 2233514472574048), .lit (.int .u64 2117202627021982), .lit (.int .u64 765476049583133)], y0.2) := by
  simp only [Rows.laid_pawl_field_unit, Prod.mk.injEq, DataW.agg.injEq, List.cons.injEq, and_true] at hx
  exact Prod.ext hx.1.symm rfl
 rw [hx'] at hy
 rw [cNum] at hl
 have e5 : (cs1.toList.drop 0).take 5 = cs1.toList := by rw [List.drop_zero, ← hl]; exact List.take_length
 have hy2 : DataW.trod (fun _ => ()) Tryd.prog W 0 (fun _ => true) false n 25 cs1.toList = some (.agg [.lit (.int .u64 1718705420411056), .lit (.int .u64 234908883556509), .lit (.int .u64 2233514472574048), .lit (.int .u64 2117202627021982), .lit (.int .u64 765476049583133)], y0.2) := by
  have hy' := hy
  rw [show Tryd.prog.cellsOf _ = 5 from c5, e5] at hy'
  exact hy'
 obtain rfl := row5_of Tryd.underlying25 Tryd.underlying24 c1 c5 hy2
 obtain rfl := Option.some.inj (gBx.symm.trans hg2)
 obtain rfl := Option.some.inj (tBx.symm.trans ht2)
 obtain rfl := rowN_of (ks := [26, 213, 37, 143, 96, 45, 86, 201, 178, 167, 37, 149, 96, 199, 44, 105, 92, 220, 214, 253, 49, 226, 164, 192, 254, 83, 110, 205, 211, 54, 105, 33]) Tryd.underlying23 Tryd.underlying5 cU8 cKey hd2
 obtain rfl := Option.some.inj (gBy.symm.trans hg3)
 obtain rfl := Option.some.inj (tBy.symm.trans ht3)
 obtain rfl := rowN_of (ks := [88, 102, 102, 102, 102, 102, 102, 102, 102, 102, 102, 102, 102, 102, 102, 102, 102, 102, 102, 102, 102, 102, 102, 102, 102, 102, 102, 102, 102, 102, 102, 102]) Tryd.underlying23 Tryd.underlying5 cU8 cKey hd3
 have e1 : kb (tx bp) = ([26, 213, 37, 143, 96, 45, 86, 201, 178, 167, 37, 149, 96, 199, 44, 105, 92, 220, 214, 253, 49, 226, 164, 192, 254, 83, 110, 205, 211, 54, 105, 33].map (Value.int .u8)).toArray := by rw [bp_tx]; rfl
 have e2 : kb bp.y = ([88, 102, 102, 102, 102, 102, 102, 102, 102, 102, 102, 102, 102, 102, 102, 102, 102, 102, 102, 102, 102, 102, 102, 102, 102, 102, 102, 102, 102, 102, 102, 102].map (Value.int .u8)).toArray := rfl
 have hU : ∃ t fr, W.heap[4]? = some (.cells ucells t fr) := row_of_var gUnit hv1
 refine ⟨⟨four_of_cells hv0, hU⟩, ?_, ?_⟩
 ·rw [e1]; exact row_of_var gBx hv2
 ·rw [e2]; exact row_of_var gBy hv3
end Go.Proofs.YtgfhoabgbgddbaaDoor
namespace Go.Proofs.YtgfhoabgbgddbaaDoor
set_option maxRecDepth 100000
open Go.RowKit Go.Sort
attribute [local go_sem] setCell_drewN alloc_drewN
def Bys (W : World) (v : Value) (bs : List Int) : Prop := ∃ ao cap, v = .slice ao bs.length cap ∧ bs.length ≤ 9223372036854775807 ∧ (∀ j, j < bs.length → ∃ b off, ao = some ⟨b, off, none⟩ ∧ b < W.heap.size ∧ W.cell? ⟨b, off + j, none⟩ = some (.int .u8 (bs.getD j 0))) ∧ (∀ z ∈ bs, 0 ≤ z ∧ z < 256)
theorem Bys.keep {W W' : World} {v : Value} {bs : List Int} (h : Bys W v bs) (hb : Below W.heap.size W W') : Bys W' v bs := by
 obtain ⟨ao, cap, e, hl, hc, hz⟩ := h
 refine ⟨ao, cap, e, hl, fun j hj => ?_, hz⟩
 obtain ⟨b, off, e1, h1, h2⟩ := hc j hj
 exact ⟨b, off, e1, Nat.lt_of_lt_of_le h1 hb.size, (hb.cell h1).trans h2⟩
def bval : List Int → Nat
 | [] => 0
 | z :: l => z.toNat + 256 * bval l
def bat (bs : List Int) (k : Nat) : Int := bs.getD (bs.length - 1 - k) 0
theorem bat_bd {bs : List Int} (h : ∀ z ∈ bs, 0 ≤ z ∧ z < 256) {k : Nat} (hk : k < bs.length) : 0 ≤ bat bs k ∧ bat bs k < 256 := by
 apply h
 have : bs.length - 1 - k < bs.length := by omega
 unfold bat
 rw [List.getD_eq_getElem?_getD, List.getElem?_eq_getElem this]
 exact List.getElem_mem _
def topv (bs : List Int) (k : Nat) : Nat := bval (bs.drop (bs.length - k))
theorem topv_zero (bs : List Int) : topv bs 0 = 0 := by simp [topv, bval]
theorem topv_succ {bs : List Int} {k : Nat} (hk : k < bs.length) : topv bs (k + 1) = topv bs k * 256 + (bat bs k).toNat := by
 have h1 : bs.length - (k + 1) < bs.length := by omega
 unfold topv bat
 rw [List.drop_eq_getElem_cons h1, bval, show bs.length - (k + 1) + 1 = bs.length - k by omega, show bs.length - 1 - k = bs.length - (k + 1) by omega, List.getD_eq_getElem?_getD, List.getElem?_eq_getElem h1]
 simp only [Option.getD_some]
 omega
theorem topv_all (bs : List Int) : topv bs bs.length = bval bs := by simp [topv]
end Go.Proofs.YtgfhoabgbgddbaaDoor
namespace Go.Proofs.YtgfhoabgbgddbaaDoor
set_option maxRecDepth 100000
open Go.RowKit Go.Sort
attribute [local go_sem] setCell_drewN alloc_drewN
theorem and8 (x : Int) (h0 : 0 ≤ x) (h1 : x < 256) : bits .and .u8 x 1 = x % 2 := by
 rw [u8_and x 1 h0 h1 (by decide) (by decide)]
 have e : (1 : Int).toNat = 1 := by decide
 rw [e, nat_mask1]
 omega
theorem bit_at (z : Int) (j : Nat) (h0 : 0 ≤ z) (h1 : z < 256) : (bits .and .u8 (z / 2 ^ j) 1 == 1) = decide (z.toNat / 2 ^ j % 2 = 1) := by
 obtain ⟨m, rfl⟩ := Int.eq_ofNat_of_zero_le h0
 have e : (m : Int) / 2 ^ j = ((m / 2 ^ j : Nat) : Int) := by simp
 have hle := Nat.div_le_self m (2 ^ j)
 rw [e, Int.toNat_natCast]
 generalize m / 2 ^ j = q at *
 rw [and8 _ (by omega) (by omega)]
 by_cases h : q % 2 = 1
 ·rw [decide_eq_true h, beq_iff_eq]; omega
 ·rw [decide_eq_false h, beq_eq_false_iff_ne]; omega
end Go.Proofs.YtgfhoabgbgddbaaDoor

