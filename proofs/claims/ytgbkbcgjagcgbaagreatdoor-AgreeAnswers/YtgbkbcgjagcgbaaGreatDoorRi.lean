import Derived.Test.YtgbkbcgjagcgbaaGreatDoorProg
import Derived.WalkKit
import Derived.WalkSpells
import Derived.WalkLawsBesides
import Derived.Lib.QuietBelow
import Derived.BigQuiet
import Derived.Test.YtgbkbcgjagcgbaaGreatDoorKa
import Derived.Test.YtgbkbcgjagcgbaaGreatDoorRdh
import Derived.Test.YtgbkbcgjagcgbaaGreatDoorRab
import Derived.Test.YtgbkbcgjagcgbaaGreatDoorRc
import Derived.Test.YtgbkbcgjagcgbaaGreatDoorAbe
namespace Go.Proofs.YtgbkbcgjagcgbaaGreatDoor.Lo
set_option maxRecDepth 100000
open Go.RowKit Go.Sort
attribute [local go_sem] setCell_drewN alloc_drewN
theorem r_minusP {m : Int} (h : inP m) : Gives 97 #[.agg #[.int .u64 65517, .int .u64 65535, .int .u64 65535, .int .u64 65535, .int .u64 65535, .int .u64 65535, .int .u64 65535, .int .u64 65535, .int .u64 65535, .int .u64 65535, .int .u64 65535, .int .u64 65535, .int .u64 65535, .int .u64 65535, .int .u64 65535, .int .u64 32767], .agg (rd m)] (.agg (rd (prm - m))) := fun W => by
 have e : v16 65517 65535 65535 65535 65535 65535 65535 65535 65535 65535 65535 65535 65535 65535 65535 32767 = prm := by decide
 have c := minus_dg 65517 65535 65535 65535 65535 65535 65535 65535 65535 65535 65535 65535 65535 65535 65535 32767 (dg m 0) (dg m 1) (dg m 2) (dg m 3) (dg m 4) (dg m 5) (dg m 6) (dg m 7) (dg m 8) (dg m 9) (dg m 10) (dg m 11) (dg m 12) (dg m 13) (dg m 14) (dg m 15) (by decide) (by decide) (by decide) (by decide) (by decide) (by decide) (by decide) (by decide) (by decide) (by decide) (by decide) (by decide) (by decide) (by decide) (by decide) (by decide) (by decide) (by decide) (by decide) (by decide) (by decide) (by decide) (by decide) (by decide) (by decide) (by decide) (by decide) (by decide) (by decide) (by decide) (by decide) (by decide) (dg_bd m 0).1 (dg_bd m 0).2 (dg_bd m 1).1 (dg_bd m 1).2 (dg_bd m 2).1 (dg_bd m 2).2 (dg_bd m 3).1 (dg_bd m 3).2 (dg_bd m 4).1 (dg_bd m 4).2 (dg_bd m 5).1 (dg_bd m 5).2 (dg_bd m 6).1 (dg_bd m 6).2 (dg_bd m 7).1 (dg_bd m 7).2 (dg_bd m 8).1 (dg_bd m 8).2 (dg_bd m 9).1 (dg_bd m 9).2 (dg_bd m 10).1 (dg_bd m 10).2 (dg_bd m 11).1 (dg_bd m 11).2 (dg_bd m 12).1 (dg_bd m 12).2 (dg_bd m 13).1 (dg_bd m 13).2 (dg_bd m 14).1 (dg_bd m 14).2 (dg_bd m 15).1 (dg_bd m 15).2 (by rw [v16_dg m h, e]; exact Int.le_of_lt h.2) W
 rw [v16_dg m h, e] at c
 exact c
theorem r_settleP {m : Int} (h : inP m) : Gives 79 #[.agg (rd (prm - m))] (.agg (rd (-m % prm))) := fun W => by
 have e : v16 (dg (prm - m) 0) (dg (prm - m) 1) (dg (prm - m) 2) (dg (prm - m) 3) (dg (prm - m) 4) (dg (prm - m) 5) (dg (prm - m) 6) (dg (prm - m) 7) (dg (prm - m) 8) (dg (prm - m) 9) (dg (prm - m) 10) (dg (prm - m) 11) (dg (prm - m) 12) (dg (prm - m) 13) (dg (prm - m) 14) (dg (prm - m) 15) = prm - m := by
   rw [← sumN_v16]
   exact sumN_dg _ (by have := h.2; omega) (by have := h.1; unfold prm; omega)
 have c := settle_any (dg (prm - m) 0) (dg (prm - m) 1) (dg (prm - m) 2) (dg (prm - m) 3) (dg (prm - m) 4) (dg (prm - m) 5) (dg (prm - m) 6) (dg (prm - m) 7) (dg (prm - m) 8) (dg (prm - m) 9) (dg (prm - m) 10) (dg (prm - m) 11) (dg (prm - m) 12) (dg (prm - m) 13) (dg (prm - m) 14) (dg (prm - m) 15) (dg_bd (prm - m) 0).1 (Int.le_trans (Int.le_of_lt (dg_bd (prm - m) 0).2) (by decide)) (dg_bd (prm - m) 1).1 (Int.le_trans (Int.le_of_lt (dg_bd (prm - m) 1).2) (by decide)) (dg_bd (prm - m) 2).1 (Int.le_trans (Int.le_of_lt (dg_bd (prm - m) 2).2) (by decide)) (dg_bd (prm - m) 3).1 (Int.le_trans (Int.le_of_lt (dg_bd (prm - m) 3).2) (by decide)) (dg_bd (prm - m) 4).1 (Int.le_trans (Int.le_of_lt (dg_bd (prm - m) 4).2) (by decide)) (dg_bd (prm - m) 5).1 (Int.le_trans (Int.le_of_lt (dg_bd (prm - m) 5).2) (by decide)) (dg_bd (prm - m) 6).1 (Int.le_trans (Int.le_of_lt (dg_bd (prm - m) 6).2) (by decide)) (dg_bd (prm - m) 7).1 (Int.le_trans (Int.le_of_lt (dg_bd (prm - m) 7).2) (by decide)) (dg_bd (prm - m) 8).1 (Int.le_trans (Int.le_of_lt (dg_bd (prm - m) 8).2) (by decide)) (dg_bd (prm - m) 9).1 (Int.le_trans (Int.le_of_lt (dg_bd (prm - m) 9).2) (by decide)) (dg_bd (prm - m) 10).1 (Int.le_trans (Int.le_of_lt (dg_bd (prm - m) 10).2) (by decide)) (dg_bd (prm - m) 11).1 (Int.le_trans (Int.le_of_lt (dg_bd (prm - m) 11).2) (by decide)) (dg_bd (prm - m) 12).1 (Int.le_trans (Int.le_of_lt (dg_bd (prm - m) 12).2) (by decide)) (dg_bd (prm - m) 13).1 (Int.le_trans (Int.le_of_lt (dg_bd (prm - m) 13).2) (by decide)) (dg_bd (prm - m) 14).1 (Int.le_trans (Int.le_of_lt (dg_bd (prm - m) 14).2) (by decide)) (dg_bd (prm - m) 15).1 (Int.le_trans (Int.le_of_lt (dg_bd (prm - m) 15).2) (by decide)) W
 have e2 : (prm - m) % prm = -m % prm := by rw [show prm - m = -m + prm * 1 by omega, Int.add_mul_emod_self_left]
 rw [e, e2] at c
 exact c
set_option maxHeartbeats 2000000 in
theorem r_neg {m : Int} (h : inP m) : Gives 99 #[.agg (rd m)] (.agg (rd (-m % prm))) := by
 have c1 := r_minusP h
 have c2 := r_settleP h
 generalize prm - m = z at *
 generalize -m % prm = q at *
 intro w
 have hB : ∀ W, (∃ p : Regrown, W = grow (redrawn ((w.alloc (.cells (rd m) 101)).alloc (.cells #[.int .u64 0, .int .u64 0, .int .u64 0, .int .u64 0, .int .u64 0, .int .u64 0, .int .u64 0, .int .u64 0, .int .u64 0, .int .u64 0, .int .u64 0, .int .u64 0, .int .u64 0, .int .u64 0, .int .u64 0, .int .u64 0] 101)) p.d) p.os) → W.heap[w.heap.size]? = some (.cells (rd m) 101 (0, 0)) := by
   rintro _ ⟨p, rfl⟩; exact ((below_regrown _ p.d p.os).block _ (by simp; omega)).trans (hp2_0 w _ _)
 have HB := hide hB; clear hB
 go_enter Tryz.func99, Tryz.ntmps99
 go_wp2
 refine wp_region_tail (C := fun w' => ∃ p : Regrown, w' = grow (redrawn ((w.alloc (.cells (rd m) 101)).alloc (.cells #[.int .u64 0, .int .u64 0, .int .u64 0, .int .u64 0, .int .u64 0, .int .u64 0, .int .u64 0, .int .u64 0, .int .u64 0, .int .u64 0, .int .u64 0, .int .u64 0, .int .u64 0, .int .u64 0, .int .u64 0, .int .u64 0] 101)) p.d) p.os) 5 _ rfl rfl rfl (by kernel_rfl) (by kernel_rfl) (by kernel_rfl) (by kernel_rfl) ⟨⟨((w.alloc (.cells (rd m) 101)).alloc (.cells #[.int .u64 0, .int .u64 0, .int .u64 0, .int .u64 0, .int .u64 0, .int .u64 0, .int .u64 0, .int .u64 0, .int .u64 0, .int .u64 0, .int .u64 0, .int .u64 0, .int .u64 0, .int .u64 0, .int .u64 0, .int .u64 0] 101)).drawn + 1, #[]⟩, by rw [grow_empty]; rfl⟩ ?_
 dsimp only [List.set, idle]
 go_big_quiet_step (exact Calls.regrown_of (allPrime_any _))
 go_big_quiet_step (fail)
 refine wpQuiet_load_row rfl 99 _ rfl w.heap.size rfl 101 (rd m) (0, 0) _ HB.out Tryz.underlying99 rfl (by kernel_rfl) ?_
 simp only [Act.put, List.setIfInBounds_toArray, List.set_cons_succ, List.set_cons_zero]
 go_big_quiet_step (exact c1.re)
 go_big_quiet_step (exact c2.re)
 refine wpQuiet_idle rfl rfl rfl ?_
 rintro _ ⟨p, rfl⟩
 have hb := below_regrown ((w.alloc (.cells (rd m) 101)).alloc (.cells #[.int .u64 0, .int .u64 0, .int .u64 0, .int .u64 0, .int .u64 0, .int .u64 0, .int .u64 0, .int .u64 0, .int .u64 0, .int .u64 0, .int .u64 0, .int .u64 0, .int .u64 0, .int .u64 0, .int .u64 0, .int .u64 0] 101)) p.d p.os
 clear HB
 generalize grow (redrawn ((w.alloc (.cells (rd m) 101)).alloc (.cells #[.int .u64 0, .int .u64 0, .int .u64 0, .int .u64 0, .int .u64 0, .int .u64 0, .int .u64 0, .int .u64 0, .int .u64 0, .int .u64 0, .int .u64 0, .int .u64 0, .int .u64 0, .int .u64 0, .int .u64 0, .int .u64 0] 101)) p.d) p.os = W1 at *
 have rZ : W1.heap[w.heap.size + 1]? = some (.cells #[.int .u64 0, .int .u64 0, .int .u64 0, .int .u64 0, .int .u64 0, .int .u64 0, .int .u64 0, .int .u64 0, .int .u64 0, .int .u64 0, .int .u64 0, .int .u64 0, .int .u64 0, .int .u64 0, .int .u64 0, .int .u64 0] 101 (0, 0)) := (hb.block _ (by simp)).trans (hp2_1 w _ _)
 have hbw : Below w.heap.size w W1 := (((Below.refl _ _).alloc (Nat.le_refl _) _).alloc (by simp) _).trans (hb.mono (by simp; omega))
 clear hb
 go_wp2_with (first | (refine wpList_store_row rfl 101 _ _ rfl (w.heap.size + 1) (rd q) rfl rfl 101 _ rZ (rd_info q) rfl (rd_one q) ?_) | fail)
 exact bodyPost_ret (v := .agg (rd q)) (results_cell_row Tryz.results99 _ _ (w.heap.size + 1) _ (rd q) _ _ rfl (setRow_heap _ _ _ _ _ _ rZ) Tryz.underlying101 rfl (rd_info q)) rfl ⟨rfl, below_setRow hbw (by omega) _⟩
set_option maxHeartbeats 2000000 in
theorem r_sub {m k : Int} (h : inP m) (g : inP k) : Gives 81 #[.agg (rd m), .agg (rd k)] (.agg (rd ((m - k) % prm))) := by
 have c1 := r_neg g
 have c2 := r_add h (inP_mod (-k))
 have e : (m + -k % prm) % prm = (m - k) % prm := by rw [Int.add_emod_emod, Int.sub_eq_add_neg]
 rw [e] at c2
 clear e
 generalize -k % prm = z at *
 generalize (m - k) % prm = q at *
 intro w
 have H0 : Hid (∀ W, (∃ p : Regrown, W = grow (redrawn (((w.alloc (.cells (rd m) 101)).alloc (.cells (rd k) 101)).alloc (.cells #[.int .u64 0, .int .u64 0, .int .u64 0, .int .u64 0, .int .u64 0, .int .u64 0, .int .u64 0, .int .u64 0, .int .u64 0, .int .u64 0, .int .u64 0, .int .u64 0, .int .u64 0, .int .u64 0, .int .u64 0, .int .u64 0] 101)) p.d) p.os) → W.heap[w.heap.size]? = some (.cells (rd m) 101 (0, 0))) := keepr (hp3_0 w _ _ _)
 have H1 : Hid (∀ W, (∃ p : Regrown, W = grow (redrawn (((w.alloc (.cells (rd m) 101)).alloc (.cells (rd k) 101)).alloc (.cells #[.int .u64 0, .int .u64 0, .int .u64 0, .int .u64 0, .int .u64 0, .int .u64 0, .int .u64 0, .int .u64 0, .int .u64 0, .int .u64 0, .int .u64 0, .int .u64 0, .int .u64 0, .int .u64 0, .int .u64 0, .int .u64 0] 101)) p.d) p.os) → W.heap[w.heap.size + 1]? = some (.cells (rd k) 101 (0, 0))) := keepr (hp3_1 w _ _ _)
 go_enter Tryz.func81, Tryz.ntmps81
 go_wp2
 refine wp_region_tail (C := fun w' => ∃ p : Regrown, w' = grow (redrawn (((w.alloc (.cells (rd m) 101)).alloc (.cells (rd k) 101)).alloc (.cells #[.int .u64 0, .int .u64 0, .int .u64 0, .int .u64 0, .int .u64 0, .int .u64 0, .int .u64 0, .int .u64 0, .int .u64 0, .int .u64 0, .int .u64 0, .int .u64 0, .int .u64 0, .int .u64 0, .int .u64 0, .int .u64 0] 101)) p.d) p.os) 4 _ rfl rfl rfl (by kernel_rfl) (by kernel_rfl) (by kernel_rfl) (by kernel_rfl) ⟨⟨(((w.alloc (.cells (rd m) 101)).alloc (.cells (rd k) 101)).alloc (.cells #[.int .u64 0, .int .u64 0, .int .u64 0, .int .u64 0, .int .u64 0, .int .u64 0, .int .u64 0, .int .u64 0, .int .u64 0, .int .u64 0, .int .u64 0, .int .u64 0, .int .u64 0, .int .u64 0, .int .u64 0, .int .u64 0] 101)).drawn + 1, #[]⟩, by rw [grow_empty]; rfl⟩ ?_
 dsimp only [List.set, idle]
 refine wpQuiet_load_row rfl 101 _ rfl w.heap.size rfl 101 (rd m) (0, 0) _ H0.out Tryz.underlying101 rfl (rd_info m) ?_
 simp only [Act.put, List.setIfInBounds_toArray, List.set_cons_succ, List.set_cons_zero]
 refine wpQuiet_load_row rfl 101 _ rfl (w.heap.size + 1) rfl 101 (rd k) (0, 0) _ H1.out Tryz.underlying101 rfl (rd_info k) ?_
 simp only [Act.put, List.setIfInBounds_toArray, List.set_cons_succ, List.set_cons_zero]
 go_big_quiet_step (exact c1.re)
 go_big_quiet_step (exact c2.re)
 refine wpQuiet_idle rfl rfl rfl ?_
 rintro _ ⟨p, rfl⟩
 have hb := below_regrown (((w.alloc (.cells (rd m) 101)).alloc (.cells (rd k) 101)).alloc (.cells #[.int .u64 0, .int .u64 0, .int .u64 0, .int .u64 0, .int .u64 0, .int .u64 0, .int .u64 0, .int .u64 0, .int .u64 0, .int .u64 0, .int .u64 0, .int .u64 0, .int .u64 0, .int .u64 0, .int .u64 0, .int .u64 0] 101)) p.d p.os
 clear H0 H1
 generalize grow (redrawn (((w.alloc (.cells (rd m) 101)).alloc (.cells (rd k) 101)).alloc (.cells #[.int .u64 0, .int .u64 0, .int .u64 0, .int .u64 0, .int .u64 0, .int .u64 0, .int .u64 0, .int .u64 0, .int .u64 0, .int .u64 0, .int .u64 0, .int .u64 0, .int .u64 0, .int .u64 0, .int .u64 0, .int .u64 0] 101)) p.d) p.os = W1 at *
 have rZ : W1.heap[w.heap.size + 1 + 1]? = some (.cells #[.int .u64 0, .int .u64 0, .int .u64 0, .int .u64 0, .int .u64 0, .int .u64 0, .int .u64 0, .int .u64 0, .int .u64 0, .int .u64 0, .int .u64 0, .int .u64 0, .int .u64 0, .int .u64 0, .int .u64 0, .int .u64 0] 101 (0, 0)) := (hb.block _ (by simp)).trans (hp3_2 w _ _ _)
 have hbw : Below w.heap.size w W1 := ((((Below.refl _ _).alloc (Nat.le_refl _) _).alloc (by simp) _).alloc (by simp; omega) _).trans (hb.mono (by simp; omega))
 clear hb
 go_wp2_with (first | (refine wpList_store_row rfl 101 _ _ rfl (w.heap.size + 1 + 1) (rd q) rfl rfl 101 _ rZ (rd_info q) rfl (rd_one q) ?_) | fail)
 exact bodyPost_ret (v := .agg (rd q)) (results_cell_row Tryz.results81 _ _ (w.heap.size + 1 + 1) _ (rd q) _ _ rfl (setRow_heap _ _ _ _ _ _ rZ) Tryz.underlying101 rfl (rd_info q)) rfl ⟨rfl, below_setRow hbw (by omega) _⟩
end Go.Proofs.YtgbkbcgjagcgbaaGreatDoor.Lo
