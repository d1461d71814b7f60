import Derived.Test.YtgbkbcgjagcgbaaGreatDoorProg
import Derived.WalkKit
import Derived.WalkSpells
import Derived.WalkLawsBesides
import Derived.Lib.QuietBelow
import Derived.BigQuiet
import Derived.Test.YtgbkbcgjagcgbaaGreatDoorKa
import Derived.Test.YtgbkbcgjagcgbaaGreatDoorAa7
import Derived.Test.YtgbkbcgjagcgbaaGreatDoorRv
namespace Go.Proofs.YtgbkbcgjagcgbaaGreatDoor.Lo
set_option maxRecDepth 100000
open Go.RowKit Go.Sort
attribute [local go_sem] setCell_drewN alloc_drewN
set_option maxRecDepth 100000 in
set_option maxHeartbeats 8000000 in
theorem r_turned (A B C D : Int) : Gives 56 #[.agg (r4 (rd A) (rd B) (rd C) (rd D))] (.agg (r4 (rd C) (rd D) (rd A) (rd B))) := by
 intro w
 have r0 := hp2_0 w (.cells (r4 (rd A) (rd B) (rd C) (rd D)) 105) (.cells #[.int .u64 0, .int .u64 0, .int .u64 0, .int .u64 0, .int .u64 0, .int .u64 0, .int .u64 0, .int .u64 0, .int .u64 0, .int .u64 0, .int .u64 0, .int .u64 0, .int .u64 0, .int .u64 0, .int .u64 0, .int .u64 0, .int .u64 0, .int .u64 0, .int .u64 0, .int .u64 0, .int .u64 0, .int .u64 0, .int .u64 0, .int .u64 0, .int .u64 0, .int .u64 0, .int .u64 0, .int .u64 0, .int .u64 0, .int .u64 0, .int .u64 0, .int .u64 0, .int .u64 0, .int .u64 0, .int .u64 0, .int .u64 0, .int .u64 0, .int .u64 0, .int .u64 0, .int .u64 0, .int .u64 0, .int .u64 0, .int .u64 0, .int .u64 0, .int .u64 0, .int .u64 0, .int .u64 0, .int .u64 0, .int .u64 0, .int .u64 0, .int .u64 0, .int .u64 0, .int .u64 0, .int .u64 0, .int .u64 0, .int .u64 0, .int .u64 0, .int .u64 0, .int .u64 0, .int .u64 0, .int .u64 0, .int .u64 0, .int .u64 0, .int .u64 0] 105)
 have r1 := hp2_1 w (.cells (r4 (rd A) (rd B) (rd C) (rd D)) 105) (.cells #[.int .u64 0, .int .u64 0, .int .u64 0, .int .u64 0, .int .u64 0, .int .u64 0, .int .u64 0, .int .u64 0, .int .u64 0, .int .u64 0, .int .u64 0, .int .u64 0, .int .u64 0, .int .u64 0, .int .u64 0, .int .u64 0, .int .u64 0, .int .u64 0, .int .u64 0, .int .u64 0, .int .u64 0, .int .u64 0, .int .u64 0, .int .u64 0, .int .u64 0, .int .u64 0, .int .u64 0, .int .u64 0, .int .u64 0, .int .u64 0, .int .u64 0, .int .u64 0, .int .u64 0, .int .u64 0, .int .u64 0, .int .u64 0, .int .u64 0, .int .u64 0, .int .u64 0, .int .u64 0, .int .u64 0, .int .u64 0, .int .u64 0, .int .u64 0, .int .u64 0, .int .u64 0, .int .u64 0, .int .u64 0, .int .u64 0, .int .u64 0, .int .u64 0, .int .u64 0, .int .u64 0, .int .u64 0, .int .u64 0, .int .u64 0, .int .u64 0, .int .u64 0, .int .u64 0, .int .u64 0, .int .u64 0, .int .u64 0, .int .u64 0, .int .u64 0] 105)
 have hw : Below w.heap.size w ((w.alloc (.cells (r4 (rd A) (rd B) (rd C) (rd D)) 105)).alloc (.cells #[.int .u64 0, .int .u64 0, .int .u64 0, .int .u64 0, .int .u64 0, .int .u64 0, .int .u64 0, .int .u64 0, .int .u64 0, .int .u64 0, .int .u64 0, .int .u64 0, .int .u64 0, .int .u64 0, .int .u64 0, .int .u64 0, .int .u64 0, .int .u64 0, .int .u64 0, .int .u64 0, .int .u64 0, .int .u64 0, .int .u64 0, .int .u64 0, .int .u64 0, .int .u64 0, .int .u64 0, .int .u64 0, .int .u64 0, .int .u64 0, .int .u64 0, .int .u64 0, .int .u64 0, .int .u64 0, .int .u64 0, .int .u64 0, .int .u64 0, .int .u64 0, .int .u64 0, .int .u64 0, .int .u64 0, .int .u64 0, .int .u64 0, .int .u64 0, .int .u64 0, .int .u64 0, .int .u64 0, .int .u64 0, .int .u64 0, .int .u64 0, .int .u64 0, .int .u64 0, .int .u64 0, .int .u64 0, .int .u64 0, .int .u64 0, .int .u64 0, .int .u64 0, .int .u64 0, .int .u64 0, .int .u64 0, .int .u64 0, .int .u64 0, .int .u64 0] 105)) := ((Below.refl _ _).alloc (Nat.le_refl _) _).alloc (by simp) _
 go_enter Tryz.func56, Tryz.ntmps56
 iterate 9 go_step
 generalize ((w.alloc (.cells (r4 (rd A) (rd B) (rd C) (rd D)) 105)).alloc (.cells #[.int .u64 0, .int .u64 0, .int .u64 0, .int .u64 0, .int .u64 0, .int .u64 0, .int .u64 0, .int .u64 0, .int .u64 0, .int .u64 0, .int .u64 0, .int .u64 0, .int .u64 0, .int .u64 0, .int .u64 0, .int .u64 0, .int .u64 0, .int .u64 0, .int .u64 0, .int .u64 0, .int .u64 0, .int .u64 0, .int .u64 0, .int .u64 0, .int .u64 0, .int .u64 0, .int .u64 0, .int .u64 0, .int .u64 0, .int .u64 0, .int .u64 0, .int .u64 0, .int .u64 0, .int .u64 0, .int .u64 0, .int .u64 0, .int .u64 0, .int .u64 0, .int .u64 0, .int .u64 0, .int .u64 0, .int .u64 0, .int .u64 0, .int .u64 0, .int .u64 0, .int .u64 0, .int .u64 0, .int .u64 0, .int .u64 0, .int .u64 0, .int .u64 0, .int .u64 0, .int .u64 0, .int .u64 0, .int .u64 0, .int .u64 0, .int .u64 0, .int .u64 0, .int .u64 0, .int .u64 0, .int .u64 0, .int .u64 0, .int .u64 0, .int .u64 0] 105)) = w0 at *
 go_wp2_with (first | (refine wpList_load_want rfl 105 _ rfl (w.heap.size) rfl 105 (r4 (rd A) (rd B) (rd C) (rd D)) (0, 0) _ r0 Tryz.underlying105 rfl (refs_info (rd_size A) (rd_size B) (rd_size C) (rd_size D)) ?_) | (refine wpList_load_part rfl 101 _ rfl (w.heap.size) 0 rfl 105 (r4 (rd A) (rd B) (rd C) (rd D)) (0, 0) (rd A) _ r0 p_0 Tryz.underlying101 rfl (rd_info A) ?_) | (refine wpList_load_part rfl 101 _ rfl (w.heap.size) 16 rfl 105 (r4 (rd A) (rd B) (rd C) (rd D)) (0, 0) (rd B) _ r0 (p16_1 (rd_size A)) Tryz.underlying101 rfl (rd_info B) ?_) | (refine wpList_load_part rfl 101 _ rfl (w.heap.size) 32 rfl 105 (r4 (rd A) (rd B) (rd C) (rd D)) (0, 0) (rd C) _ r0 (p16_2 (rd_size A) (rd_size B)) Tryz.underlying101 rfl (rd_info C) ?_) | (refine wpList_load_part rfl 101 _ rfl (w.heap.size) 48 rfl 105 (r4 (rd A) (rd B) (rd C) (rd D)) (0, 0) (rd D) _ r0 (p16_3 (rd_size A) (rd_size B) (rd_size C)) Tryz.underlying101 rfl (rd_info D) ?_) | (refine wpList_build_as rfl 105 _ rfl [(0, .agg (rd C)), (1, .agg (rd D)), (2, .agg (rd A)), (3, .agg (rd B))] rfl (r4 (rd C) (rd D) (rd A) (rd B)) (refs_built (rd_size C) (rd_size D) (rd_size A) (rd_size B)) ?_) | (refine wpList_store_row rfl 105 _ _ rfl (w.heap.size + 1) (r4 (rd C) (rd D) (rd A) (rd B)) rfl rfl 105 _ r1 (refs_info (rd_size C) (rd_size D) (rd_size A) (rd_size B)) (refs_size (rd_size C) (rd_size D) (rd_size A) (rd_size B)).symm (r4_one (rd_one C) (rd_one D) (rd_one A) (rd_one B)) ?_) | fail)
 exact bodyPost_ret (v := .agg (r4 (rd C) (rd D) (rd A) (rd B))) (results_cell_row Tryz.results56 _ _ (w.heap.size + 1) _ (r4 (rd C) (rd D) (rd A) (rd B)) _ _ rfl (setRow_heap _ _ _ _ _ _ r1) Tryz.underlying105 rfl (refs_info (rd_size C) (rd_size D) (rd_size A) (rd_size B))) rfl ⟨rfl, below_setRow hw (by omega) _⟩
set_option maxRecDepth 100000 in
set_option maxHeartbeats 8000000 in
theorem r_step {A B C D X : Int} (hA : inP A) (hB : inP B) (hC : inP C) (hD : inP D) (hX : inP X) :
   Gives 57 #[.agg (rd X), .agg (r4 (rd A) (rd B) (rd C) (rd D))] (.agg (r4 (rd (stp X ⟨A, B, C, D⟩).a) (rd (stp X ⟨A, B, C, D⟩).b) (rd (stp X ⟨A, B, C, D⟩).c) (rd (stp X ⟨A, B, C, D⟩).d))) := by
 have c1 := r_add hA hB
 have i1 := inP_mod (A + B)
 generalize e1 : (A + B) % prm = q1 at c1 i1
 have c3 := r_sub hA hB
 have i3 := inP_mod (A - B)
 generalize e3 : (A - B) % prm = q3 at c3 i3
 have c5 := r_add hC hD
 have i5 := inP_mod (C + D)
 generalize e5 : (C + D) % prm = q5 at c5 i5
 have c7 := r_sub hC hD
 have i7 := inP_mod (C - D)
 generalize e7 : (C - D) % prm = q7 at c7 i7
 have c9 := r_square i1
 have i9 := inP_mod (q1 * q1)
 generalize e9 : (q1 * q1) % prm = q9 at c9 i9
 have c11 := r_square i3
 have i11 := inP_mod (q3 * q3)
 generalize e11 : (q3 * q3) % prm = q11 at c11 i11
 have c13 := r_sub i9 i11
 have i13 := inP_mod (q9 - q11)
 generalize e13 : (q9 - q11) % prm = q13 at c13 i13
 have c15 := r_mul i7 i1
 have i15 := inP_mod (q7 * q1)
 generalize e15 : (q7 * q1) % prm = q15 at c15 i15
 have c17 := r_mul i5 i3
 have i17 := inP_mod (q5 * q3)
 generalize e17 : (q5 * q3) % prm = q17 at c17 i17
 have c19 := r_mul i9 i11
 have i19 := inP_mod (q9 * q11)
 generalize e19 : (q9 * q11) % prm = q19 at c19 i19
 have c20 := r_small 121665 (by decide) (by decide)
 have i20 : inP 121665 := ⟨by decide, by decide⟩
 have c21 := r_mul i20 i13
 have i21 := inP_mod (121665 * q13)
 generalize e21 : (121665 * q13) % prm = q21 at c21 i21
 have c22 := r_add i9 i21
 have i22 := inP_mod (q9 + q21)
 generalize e22 : (q9 + q21) % prm = q22 at c22 i22
 have c23 := r_mul i13 i22
 have i23 := inP_mod (q13 * q22)
 generalize e23 : (q13 * q22) % prm = q23 at c23 i23
 have c24 := r_add i15 i17
 have i24 := inP_mod (q15 + q17)
 generalize e24 : (q15 + q17) % prm = q24 at c24 i24
 have c25 := r_square i24
 have i25 := inP_mod (q24 * q24)
 generalize e25 : (q24 * q24) % prm = q25 at c25 i25
 have c26 := r_sub i15 i17
 have i26 := inP_mod (q15 - q17)
 generalize e26 : (q15 - q17) % prm = q26 at c26 i26
 have c27 := r_square i26
 have i27 := inP_mod (q26 * q26)
 generalize e27 : (q26 * q26) % prm = q27 at c27 i27
 have c28 := r_mul hX i27
 have i28 := inP_mod (X * q27)
 generalize e28 : (X * q27) % prm = q28 at c28 i28
 have hst : stp X ⟨A, B, C, D⟩ = ⟨q19, q23, q25, q28⟩ := by simp only [stp, e1, e3, e5, e7, e9, e11, e13, e15, e17, e19, e21, e22, e23, e24, e25, e26, e27, e28]
 rw [hst]
 clear hst e1 e3 e5 e7 e9 e11 e13 e15 e17 e19 e21 e22 e23 e24 e25 e26 e27 e28
 intro w
 have rp0 : (((w.alloc (.cells (rd X) 101)).alloc (.cells (r4 (rd A) (rd B) (rd C) (rd D)) 105)).alloc (.cells #[.int .u64 0, .int .u64 0, .int .u64 0, .int .u64 0, .int .u64 0, .int .u64 0, .int .u64 0, .int .u64 0, .int .u64 0, .int .u64 0, .int .u64 0, .int .u64 0, .int .u64 0, .int .u64 0, .int .u64 0, .int .u64 0, .int .u64 0, .int .u64 0, .int .u64 0, .int .u64 0, .int .u64 0, .int .u64 0, .int .u64 0, .int .u64 0, .int .u64 0, .int .u64 0, .int .u64 0, .int .u64 0, .int .u64 0, .int .u64 0, .int .u64 0, .int .u64 0, .int .u64 0, .int .u64 0, .int .u64 0, .int .u64 0, .int .u64 0, .int .u64 0, .int .u64 0, .int .u64 0, .int .u64 0, .int .u64 0, .int .u64 0, .int .u64 0, .int .u64 0, .int .u64 0, .int .u64 0, .int .u64 0, .int .u64 0, .int .u64 0, .int .u64 0, .int .u64 0, .int .u64 0, .int .u64 0, .int .u64 0, .int .u64 0, .int .u64 0, .int .u64 0, .int .u64 0, .int .u64 0, .int .u64 0, .int .u64 0, .int .u64 0, .int .u64 0] 105)).heap[w.heap.size]? = some (.cells (rd X) 101 (0, 0)) := hp3_0 w _ _ _
 have rp1 : (((w.alloc (.cells (rd X) 101)).alloc (.cells (r4 (rd A) (rd B) (rd C) (rd D)) 105)).alloc (.cells #[.int .u64 0, .int .u64 0, .int .u64 0, .int .u64 0, .int .u64 0, .int .u64 0, .int .u64 0, .int .u64 0, .int .u64 0, .int .u64 0, .int .u64 0, .int .u64 0, .int .u64 0, .int .u64 0, .int .u64 0, .int .u64 0, .int .u64 0, .int .u64 0, .int .u64 0, .int .u64 0, .int .u64 0, .int .u64 0, .int .u64 0, .int .u64 0, .int .u64 0, .int .u64 0, .int .u64 0, .int .u64 0, .int .u64 0, .int .u64 0, .int .u64 0, .int .u64 0, .int .u64 0, .int .u64 0, .int .u64 0, .int .u64 0, .int .u64 0, .int .u64 0, .int .u64 0, .int .u64 0, .int .u64 0, .int .u64 0, .int .u64 0, .int .u64 0, .int .u64 0, .int .u64 0, .int .u64 0, .int .u64 0, .int .u64 0, .int .u64 0, .int .u64 0, .int .u64 0, .int .u64 0, .int .u64 0, .int .u64 0, .int .u64 0, .int .u64 0, .int .u64 0, .int .u64 0, .int .u64 0, .int .u64 0, .int .u64 0, .int .u64 0, .int .u64 0] 105)).heap[w.heap.size + 1]? = some (.cells (r4 (rd A) (rd B) (rd C) (rd D)) 105 (0, 0)) := hp3_1 w _ _ _
 have rp2 : (((w.alloc (.cells (rd X) 101)).alloc (.cells (r4 (rd A) (rd B) (rd C) (rd D)) 105)).alloc (.cells #[.int .u64 0, .int .u64 0, .int .u64 0, .int .u64 0, .int .u64 0, .int .u64 0, .int .u64 0, .int .u64 0, .int .u64 0, .int .u64 0, .int .u64 0, .int .u64 0, .int .u64 0, .int .u64 0, .int .u64 0, .int .u64 0, .int .u64 0, .int .u64 0, .int .u64 0, .int .u64 0, .int .u64 0, .int .u64 0, .int .u64 0, .int .u64 0, .int .u64 0, .int .u64 0, .int .u64 0, .int .u64 0, .int .u64 0, .int .u64 0, .int .u64 0, .int .u64 0, .int .u64 0, .int .u64 0, .int .u64 0, .int .u64 0, .int .u64 0, .int .u64 0, .int .u64 0, .int .u64 0, .int .u64 0, .int .u64 0, .int .u64 0, .int .u64 0, .int .u64 0, .int .u64 0, .int .u64 0, .int .u64 0, .int .u64 0, .int .u64 0, .int .u64 0, .int .u64 0, .int .u64 0, .int .u64 0, .int .u64 0, .int .u64 0, .int .u64 0, .int .u64 0, .int .u64 0, .int .u64 0, .int .u64 0, .int .u64 0, .int .u64 0, .int .u64 0] 105)).heap[w.heap.size + 1 + 1]? = some (.cells #[.int .u64 0, .int .u64 0, .int .u64 0, .int .u64 0, .int .u64 0, .int .u64 0, .int .u64 0, .int .u64 0, .int .u64 0, .int .u64 0, .int .u64 0, .int .u64 0, .int .u64 0, .int .u64 0, .int .u64 0, .int .u64 0, .int .u64 0, .int .u64 0, .int .u64 0, .int .u64 0, .int .u64 0, .int .u64 0, .int .u64 0, .int .u64 0, .int .u64 0, .int .u64 0, .int .u64 0, .int .u64 0, .int .u64 0, .int .u64 0, .int .u64 0, .int .u64 0, .int .u64 0, .int .u64 0, .int .u64 0, .int .u64 0, .int .u64 0, .int .u64 0, .int .u64 0, .int .u64 0, .int .u64 0, .int .u64 0, .int .u64 0, .int .u64 0, .int .u64 0, .int .u64 0, .int .u64 0, .int .u64 0, .int .u64 0, .int .u64 0, .int .u64 0, .int .u64 0, .int .u64 0, .int .u64 0, .int .u64 0, .int .u64 0, .int .u64 0, .int .u64 0, .int .u64 0, .int .u64 0, .int .u64 0, .int .u64 0, .int .u64 0, .int .u64 0] 105 (0, 0)) := hp3_2 w _ _ _
 have hw : Below w.heap.size w (((w.alloc (.cells (rd X) 101)).alloc (.cells (r4 (rd A) (rd B) (rd C) (rd D)) 105)).alloc (.cells #[.int .u64 0, .int .u64 0, .int .u64 0, .int .u64 0, .int .u64 0, .int .u64 0, .int .u64 0, .int .u64 0, .int .u64 0, .int .u64 0, .int .u64 0, .int .u64 0, .int .u64 0, .int .u64 0, .int .u64 0, .int .u64 0, .int .u64 0, .int .u64 0, .int .u64 0, .int .u64 0, .int .u64 0, .int .u64 0, .int .u64 0, .int .u64 0, .int .u64 0, .int .u64 0, .int .u64 0, .int .u64 0, .int .u64 0, .int .u64 0, .int .u64 0, .int .u64 0, .int .u64 0, .int .u64 0, .int .u64 0, .int .u64 0, .int .u64 0, .int .u64 0, .int .u64 0, .int .u64 0, .int .u64 0, .int .u64 0, .int .u64 0, .int .u64 0, .int .u64 0, .int .u64 0, .int .u64 0, .int .u64 0, .int .u64 0, .int .u64 0, .int .u64 0, .int .u64 0, .int .u64 0, .int .u64 0, .int .u64 0, .int .u64 0, .int .u64 0, .int .u64 0, .int .u64 0, .int .u64 0, .int .u64 0, .int .u64 0, .int .u64 0, .int .u64 0] 105)) := ((((Below.refl _ _).alloc (Nat.le_refl _) _).alloc (by simp) _).alloc (by simp; omega) _)
 go_enter Tryz.func57, Tryz.ntmps57
 iterate 12 go_step
 generalize (((w.alloc (.cells (rd X) 101)).alloc (.cells (r4 (rd A) (rd B) (rd C) (rd D)) 105)).alloc (.cells #[.int .u64 0, .int .u64 0, .int .u64 0, .int .u64 0, .int .u64 0, .int .u64 0, .int .u64 0, .int .u64 0, .int .u64 0, .int .u64 0, .int .u64 0, .int .u64 0, .int .u64 0, .int .u64 0, .int .u64 0, .int .u64 0, .int .u64 0, .int .u64 0, .int .u64 0, .int .u64 0, .int .u64 0, .int .u64 0, .int .u64 0, .int .u64 0, .int .u64 0, .int .u64 0, .int .u64 0, .int .u64 0, .int .u64 0, .int .u64 0, .int .u64 0, .int .u64 0, .int .u64 0, .int .u64 0, .int .u64 0, .int .u64 0, .int .u64 0, .int .u64 0, .int .u64 0, .int .u64 0, .int .u64 0, .int .u64 0, .int .u64 0, .int .u64 0, .int .u64 0, .int .u64 0, .int .u64 0, .int .u64 0, .int .u64 0, .int .u64 0, .int .u64 0, .int .u64 0, .int .u64 0, .int .u64 0, .int .u64 0, .int .u64 0, .int .u64 0, .int .u64 0, .int .u64 0, .int .u64 0, .int .u64 0, .int .u64 0, .int .u64 0, .int .u64 0] 105)) = w0 at *
 go_wp2_with (first | (refine wpList_load_want rfl 101 _ rfl (w.heap.size) rfl 101 (rd X) (0, 0) _ rp0 Tryz.underlying101 rfl (rd_info X) ?_) | (refine wpList_load_want rfl 105 _ rfl (w.heap.size + 1) rfl 105 (r4 (rd A) (rd B) (rd C) (rd D)) (0, 0) _ rp1 Tryz.underlying105 rfl (refs_info (rd_size A) (rd_size B) (rd_size C) (rd_size D)) ?_) | (refine wpList_load_want rfl 105 _ rfl (w.heap.size + 1 + 1) rfl 105 #[.int .u64 0, .int .u64 0, .int .u64 0, .int .u64 0, .int .u64 0, .int .u64 0, .int .u64 0, .int .u64 0, .int .u64 0, .int .u64 0, .int .u64 0, .int .u64 0, .int .u64 0, .int .u64 0, .int .u64 0, .int .u64 0, .int .u64 0, .int .u64 0, .int .u64 0, .int .u64 0, .int .u64 0, .int .u64 0, .int .u64 0, .int .u64 0, .int .u64 0, .int .u64 0, .int .u64 0, .int .u64 0, .int .u64 0, .int .u64 0, .int .u64 0, .int .u64 0, .int .u64 0, .int .u64 0, .int .u64 0, .int .u64 0, .int .u64 0, .int .u64 0, .int .u64 0, .int .u64 0, .int .u64 0, .int .u64 0, .int .u64 0, .int .u64 0, .int .u64 0, .int .u64 0, .int .u64 0, .int .u64 0, .int .u64 0, .int .u64 0, .int .u64 0, .int .u64 0, .int .u64 0, .int .u64 0, .int .u64 0, .int .u64 0, .int .u64 0, .int .u64 0, .int .u64 0, .int .u64 0, .int .u64 0, .int .u64 0, .int .u64 0, .int .u64 0] (0, 0) _ rp2 Tryz.underlying105 rfl (by kernel_rfl) ?_) | (refine wpList_load_part rfl 101 _ rfl (w.heap.size + 1) 0 rfl 105 (r4 (rd A) (rd B) (rd C) (rd D)) (0, 0) (rd A) _ rp1 p_0 Tryz.underlying101 rfl (rd_info A) ?_) | (refine wpList_load_part rfl 101 _ rfl (w.heap.size + 1) 16 rfl 105 (r4 (rd A) (rd B) (rd C) (rd D)) (0, 0) (rd B) _ rp1 (p16_1 (rd_size A)) Tryz.underlying101 rfl (rd_info B) ?_) | (refine wpList_load_part rfl 101 _ rfl (w.heap.size + 1) 32 rfl 105 (r4 (rd A) (rd B) (rd C) (rd D)) (0, 0) (rd C) _ rp1 (p16_2 (rd_size A) (rd_size B)) Tryz.underlying101 rfl (rd_info C) ?_) | (refine wpList_load_part rfl 101 _ rfl (w.heap.size + 1) 48 rfl 105 (r4 (rd A) (rd B) (rd C) (rd D)) (0, 0) (rd D) _ rp1 (p16_3 (rd_size A) (rd_size B) (rd_size C)) Tryz.underlying101 rfl (rd_info D) ?_) | fail)
 refine (c1.at _).mono ?_
 rintro e w2 ⟨rfl, hb⟩
 replace rp0 := keep hb rp0
 replace rp1 := keep hb rp1
 replace rp2 := keep hb rp2
 replace hw := Below.after hw hb
 clear hb
 go_wp2_with (first | (refine wpList_store_row rfl 101 _ _ rfl (w2.heap.size) (rd q1) rfl rfl 101 #[.int .u64 0, .int .u64 0, .int .u64 0, .int .u64 0, .int .u64 0, .int .u64 0, .int .u64 0, .int .u64 0, .int .u64 0, .int .u64 0, .int .u64 0, .int .u64 0, .int .u64 0, .int .u64 0, .int .u64 0, .int .u64 0] (hp1_0 w2 _) (rd_info q1) rfl (rd_one q1) ?_; rw [setRow_alloc_new _ _ _ _ _ _ (by simp)]) | (refine wpList_load_want rfl 101 _ rfl (w2.heap.size) rfl 101 (rd q1) (0, 0) _ (hp1_0 w2 _) Tryz.underlying101 rfl (rd_info q1) ?_) | (refine wpList_load_want rfl 101 _ rfl (w.heap.size) rfl 101 (rd X) (0, 0) _ (keep ((Below.refl _ _).alloc (Nat.le_refl _) _) rp0) Tryz.underlying101 rfl (rd_info X) ?_) | (refine wpList_load_want rfl 105 _ rfl (w.heap.size + 1) rfl 105 (r4 (rd A) (rd B) (rd C) (rd D)) (0, 0) _ (keep ((Below.refl _ _).alloc (Nat.le_refl _) _) rp1) Tryz.underlying105 rfl (refs_info (rd_size A) (rd_size B) (rd_size C) (rd_size D)) ?_) | (refine wpList_load_want rfl 105 _ rfl (w.heap.size + 1 + 1) rfl 105 #[.int .u64 0, .int .u64 0, .int .u64 0, .int .u64 0, .int .u64 0, .int .u64 0, .int .u64 0, .int .u64 0, .int .u64 0, .int .u64 0, .int .u64 0, .int .u64 0, .int .u64 0, .int .u64 0, .int .u64 0, .int .u64 0, .int .u64 0, .int .u64 0, .int .u64 0, .int .u64 0, .int .u64 0, .int .u64 0, .int .u64 0, .int .u64 0, .int .u64 0, .int .u64 0, .int .u64 0, .int .u64 0, .int .u64 0, .int .u64 0, .int .u64 0, .int .u64 0, .int .u64 0, .int .u64 0, .int .u64 0, .int .u64 0, .int .u64 0, .int .u64 0, .int .u64 0, .int .u64 0, .int .u64 0, .int .u64 0, .int .u64 0, .int .u64 0, .int .u64 0, .int .u64 0, .int .u64 0, .int .u64 0, .int .u64 0, .int .u64 0, .int .u64 0, .int .u64 0, .int .u64 0, .int .u64 0, .int .u64 0, .int .u64 0, .int .u64 0, .int .u64 0, .int .u64 0, .int .u64 0, .int .u64 0, .int .u64 0, .int .u64 0, .int .u64 0] (0, 0) _ (keep ((Below.refl _ _).alloc (Nat.le_refl _) _) rp2) Tryz.underlying105 rfl (by kernel_rfl) ?_) | (refine wpList_load_part rfl 101 _ rfl (w.heap.size + 1) 0 rfl 105 (r4 (rd A) (rd B) (rd C) (rd D)) (0, 0) (rd A) _ (keep ((Below.refl _ _).alloc (Nat.le_refl _) _) rp1) p_0 Tryz.underlying101 rfl (rd_info A) ?_) | (refine wpList_load_part rfl 101 _ rfl (w.heap.size + 1) 16 rfl 105 (r4 (rd A) (rd B) (rd C) (rd D)) (0, 0) (rd B) _ (keep ((Below.refl _ _).alloc (Nat.le_refl _) _) rp1) (p16_1 (rd_size A)) Tryz.underlying101 rfl (rd_info B) ?_) | (refine wpList_load_part rfl 101 _ rfl (w.heap.size + 1) 32 rfl 105 (r4 (rd A) (rd B) (rd C) (rd D)) (0, 0) (rd C) _ (keep ((Below.refl _ _).alloc (Nat.le_refl _) _) rp1) (p16_2 (rd_size A) (rd_size B)) Tryz.underlying101 rfl (rd_info C) ?_) | (refine wpList_load_part rfl 101 _ rfl (w.heap.size + 1) 48 rfl 105 (r4 (rd A) (rd B) (rd C) (rd D)) (0, 0) (rd D) _ (keep ((Below.refl _ _).alloc (Nat.le_refl _) _) rp1) (p16_3 (rd_size A) (rd_size B) (rd_size C)) Tryz.underlying101 rfl (rd_info D) ?_) | fail)
 have rl5 : (w2.alloc (.cells (rd q1) 101)).heap[w2.heap.size]? = some (.cells (rd q1) 101 (0, 0)) := hp1_0 w2 _
 have hb : Below w2.heap.size w2 (w2.alloc (.cells (rd q1) 101)) := ((Below.refl _ _).alloc (Nat.le_refl _) _)
 generalize (w2.alloc (.cells (rd q1) 101)) = wae at *
 have yge_0 := lt_of_row rp0
 have yge_1 := lt_of_row rp1
 have yge_2 := lt_of_row rp2
 have yge := hw.size
 replace rp0 := keep hb rp0
 replace rp1 := keep hb rp1
 replace rp2 := keep hb rp2
 replace hw := Below.after hw hb
 clear hb
 generalize w2.heap.size = ge at *
 clear w2
 refine (c3.at _).mono ?_
 rintro e w4 ⟨rfl, hb⟩
 replace rp0 := keep hb rp0
 replace rp1 := keep hb rp1
 replace rp2 := keep hb rp2
 replace rl5 := keep hb rl5
 replace hw := Below.after hw hb
 clear hb
 go_wp2_with (first | (refine wpList_store_row rfl 101 _ _ rfl (w4.heap.size) (rd q3) rfl rfl 101 #[.int .u64 0, .int .u64 0, .int .u64 0, .int .u64 0, .int .u64 0, .int .u64 0, .int .u64 0, .int .u64 0, .int .u64 0, .int .u64 0, .int .u64 0, .int .u64 0, .int .u64 0, .int .u64 0, .int .u64 0, .int .u64 0] (hp1_0 w4 _) (rd_info q3) rfl (rd_one q3) ?_; rw [setRow_alloc_new _ _ _ _ _ _ (by simp)]) | (refine wpList_load_want rfl 101 _ rfl (w4.heap.size) rfl 101 (rd q3) (0, 0) _ (hp1_0 w4 _) Tryz.underlying101 rfl (rd_info q3) ?_) | (refine wpList_load_want rfl 101 _ rfl (w.heap.size) rfl 101 (rd X) (0, 0) _ (keep ((Below.refl _ _).alloc (Nat.le_refl _) _) rp0) Tryz.underlying101 rfl (rd_info X) ?_) | (refine wpList_load_want rfl 105 _ rfl (w.heap.size + 1) rfl 105 (r4 (rd A) (rd B) (rd C) (rd D)) (0, 0) _ (keep ((Below.refl _ _).alloc (Nat.le_refl _) _) rp1) Tryz.underlying105 rfl (refs_info (rd_size A) (rd_size B) (rd_size C) (rd_size D)) ?_) | (refine wpList_load_want rfl 105 _ rfl (w.heap.size + 1 + 1) rfl 105 #[.int .u64 0, .int .u64 0, .int .u64 0, .int .u64 0, .int .u64 0, .int .u64 0, .int .u64 0, .int .u64 0, .int .u64 0, .int .u64 0, .int .u64 0, .int .u64 0, .int .u64 0, .int .u64 0, .int .u64 0, .int .u64 0, .int .u64 0, .int .u64 0, .int .u64 0, .int .u64 0, .int .u64 0, .int .u64 0, .int .u64 0, .int .u64 0, .int .u64 0, .int .u64 0, .int .u64 0, .int .u64 0, .int .u64 0, .int .u64 0, .int .u64 0, .int .u64 0, .int .u64 0, .int .u64 0, .int .u64 0, .int .u64 0, .int .u64 0, .int .u64 0, .int .u64 0, .int .u64 0, .int .u64 0, .int .u64 0, .int .u64 0, .int .u64 0, .int .u64 0, .int .u64 0, .int .u64 0, .int .u64 0, .int .u64 0, .int .u64 0, .int .u64 0, .int .u64 0, .int .u64 0, .int .u64 0, .int .u64 0, .int .u64 0, .int .u64 0, .int .u64 0, .int .u64 0, .int .u64 0, .int .u64 0, .int .u64 0, .int .u64 0, .int .u64 0] (0, 0) _ (keep ((Below.refl _ _).alloc (Nat.le_refl _) _) rp2) Tryz.underlying105 rfl (by kernel_rfl) ?_) | (refine wpList_load_want rfl 101 _ rfl (ge) rfl 101 (rd q1) (0, 0) _ (keep ((Below.refl _ _).alloc (Nat.le_refl _) _) rl5) Tryz.underlying101 rfl (rd_info q1) ?_) | (refine wpList_load_part rfl 101 _ rfl (w.heap.size + 1) 0 rfl 105 (r4 (rd A) (rd B) (rd C) (rd D)) (0, 0) (rd A) _ (keep ((Below.refl _ _).alloc (Nat.le_refl _) _) rp1) p_0 Tryz.underlying101 rfl (rd_info A) ?_) | (refine wpList_load_part rfl 101 _ rfl (w.heap.size + 1) 16 rfl 105 (r4 (rd A) (rd B) (rd C) (rd D)) (0, 0) (rd B) _ (keep ((Below.refl _ _).alloc (Nat.le_refl _) _) rp1) (p16_1 (rd_size A)) Tryz.underlying101 rfl (rd_info B) ?_) | (refine wpList_load_part rfl 101 _ rfl (w.heap.size + 1) 32 rfl 105 (r4 (rd A) (rd B) (rd C) (rd D)) (0, 0) (rd C) _ (keep ((Below.refl _ _).alloc (Nat.le_refl _) _) rp1) (p16_2 (rd_size A) (rd_size B)) Tryz.underlying101 rfl (rd_info C) ?_) | (refine wpList_load_part rfl 101 _ rfl (w.heap.size + 1) 48 rfl 105 (r4 (rd A) (rd B) (rd C) (rd D)) (0, 0) (rd D) _ (keep ((Below.refl _ _).alloc (Nat.le_refl _) _) rp1) (p16_3 (rd_size A) (rd_size B) (rd_size C)) Tryz.underlying101 rfl (rd_info D) ?_) | fail)
 have rl6 : (w4.alloc (.cells (rd q3) 101)).heap[w4.heap.size]? = some (.cells (rd q3) 101 (0, 0)) := hp1_0 w4 _
 have hb : Below w4.heap.size w4 (w4.alloc (.cells (rd q3) 101)) := ((Below.refl _ _).alloc (Nat.le_refl _) _)
 generalize (w4.alloc (.cells (rd q3) 101)) = waf at *
 have ygf_0 := lt_of_row rp0
 have ygf_1 := lt_of_row rp1
 have ygf_2 := lt_of_row rp2
 have ygf_3 := lt_of_row rl5
 have ygf := hw.size
 replace rp0 := keep hb rp0
 replace rp1 := keep hb rp1
 replace rp2 := keep hb rp2
 replace rl5 := keep hb rl5
 replace hw := Below.after hw hb
 clear hb
 generalize w4.heap.size = gf at *
 clear w4
 refine (c5.at _).mono ?_
 rintro e w6 ⟨rfl, hb⟩
 replace rp0 := keep hb rp0
 replace rp1 := keep hb rp1
 replace rp2 := keep hb rp2
 replace rl5 := keep hb rl5
 replace rl6 := keep hb rl6
 replace hw := Below.after hw hb
 clear hb
 go_wp2_with (first | (refine wpList_store_row rfl 101 _ _ rfl (w6.heap.size) (rd q5) rfl rfl 101 #[.int .u64 0, .int .u64 0, .int .u64 0, .int .u64 0, .int .u64 0, .int .u64 0, .int .u64 0, .int .u64 0, .int .u64 0, .int .u64 0, .int .u64 0, .int .u64 0, .int .u64 0, .int .u64 0, .int .u64 0, .int .u64 0] (hp1_0 w6 _) (rd_info q5) rfl (rd_one q5) ?_; rw [setRow_alloc_new _ _ _ _ _ _ (by simp)]) | (refine wpList_load_want rfl 101 _ rfl (w6.heap.size) rfl 101 (rd q5) (0, 0) _ (hp1_0 w6 _) Tryz.underlying101 rfl (rd_info q5) ?_) | (refine wpList_load_want rfl 101 _ rfl (w.heap.size) rfl 101 (rd X) (0, 0) _ (keep ((Below.refl _ _).alloc (Nat.le_refl _) _) rp0) Tryz.underlying101 rfl (rd_info X) ?_) | (refine wpList_load_want rfl 105 _ rfl (w.heap.size + 1) rfl 105 (r4 (rd A) (rd B) (rd C) (rd D)) (0, 0) _ (keep ((Below.refl _ _).alloc (Nat.le_refl _) _) rp1) Tryz.underlying105 rfl (refs_info (rd_size A) (rd_size B) (rd_size C) (rd_size D)) ?_) | (refine wpList_load_want rfl 105 _ rfl (w.heap.size + 1 + 1) rfl 105 #[.int .u64 0, .int .u64 0, .int .u64 0, .int .u64 0, .int .u64 0, .int .u64 0, .int .u64 0, .int .u64 0, .int .u64 0, .int .u64 0, .int .u64 0, .int .u64 0, .int .u64 0, .int .u64 0, .int .u64 0, .int .u64 0, .int .u64 0, .int .u64 0, .int .u64 0, .int .u64 0, .int .u64 0, .int .u64 0, .int .u64 0, .int .u64 0, .int .u64 0, .int .u64 0, .int .u64 0, .int .u64 0, .int .u64 0, .int .u64 0, .int .u64 0, .int .u64 0, .int .u64 0, .int .u64 0, .int .u64 0, .int .u64 0, .int .u64 0, .int .u64 0, .int .u64 0, .int .u64 0, .int .u64 0, .int .u64 0, .int .u64 0, .int .u64 0, .int .u64 0, .int .u64 0, .int .u64 0, .int .u64 0, .int .u64 0, .int .u64 0, .int .u64 0, .int .u64 0, .int .u64 0, .int .u64 0, .int .u64 0, .int .u64 0, .int .u64 0, .int .u64 0, .int .u64 0, .int .u64 0, .int .u64 0, .int .u64 0, .int .u64 0, .int .u64 0] (0, 0) _ (keep ((Below.refl _ _).alloc (Nat.le_refl _) _) rp2) Tryz.underlying105 rfl (by kernel_rfl) ?_) | (refine wpList_load_want rfl 101 _ rfl (ge) rfl 101 (rd q1) (0, 0) _ (keep ((Below.refl _ _).alloc (Nat.le_refl _) _) rl5) Tryz.underlying101 rfl (rd_info q1) ?_) | (refine wpList_load_want rfl 101 _ rfl (gf) rfl 101 (rd q3) (0, 0) _ (keep ((Below.refl _ _).alloc (Nat.le_refl _) _) rl6) Tryz.underlying101 rfl (rd_info q3) ?_) | (refine wpList_load_part rfl 101 _ rfl (w.heap.size + 1) 0 rfl 105 (r4 (rd A) (rd B) (rd C) (rd D)) (0, 0) (rd A) _ (keep ((Below.refl _ _).alloc (Nat.le_refl _) _) rp1) p_0 Tryz.underlying101 rfl (rd_info A) ?_) | (refine wpList_load_part rfl 101 _ rfl (w.heap.size + 1) 16 rfl 105 (r4 (rd A) (rd B) (rd C) (rd D)) (0, 0) (rd B) _ (keep ((Below.refl _ _).alloc (Nat.le_refl _) _) rp1) (p16_1 (rd_size A)) Tryz.underlying101 rfl (rd_info B) ?_) | (refine wpList_load_part rfl 101 _ rfl (w.heap.size + 1) 32 rfl 105 (r4 (rd A) (rd B) (rd C) (rd D)) (0, 0) (rd C) _ (keep ((Below.refl _ _).alloc (Nat.le_refl _) _) rp1) (p16_2 (rd_size A) (rd_size B)) Tryz.underlying101 rfl (rd_info C) ?_) | (refine wpList_load_part rfl 101 _ rfl (w.heap.size + 1) 48 rfl 105 (r4 (rd A) (rd B) (rd C) (rd D)) (0, 0) (rd D) _ (keep ((Below.refl _ _).alloc (Nat.le_refl _) _) rp1) (p16_3 (rd_size A) (rd_size B) (rd_size C)) Tryz.underlying101 rfl (rd_info D) ?_) | fail)
 have rl7 : (w6.alloc (.cells (rd q5) 101)).heap[w6.heap.size]? = some (.cells (rd q5) 101 (0, 0)) := hp1_0 w6 _
 have hb : Below w6.heap.size w6 (w6.alloc (.cells (rd q5) 101)) := ((Below.refl _ _).alloc (Nat.le_refl _) _)
 generalize (w6.alloc (.cells (rd q5) 101)) = wag at *
 have ygg_0 := lt_of_row rp0
 have ygg_1 := lt_of_row rp1
 have ygg_2 := lt_of_row rp2
 have ygg_3 := lt_of_row rl5
 have ygg_4 := lt_of_row rl6
 have ygg := hw.size
 replace rp0 := keep hb rp0
 replace rp1 := keep hb rp1
 replace rp2 := keep hb rp2
 replace rl5 := keep hb rl5
 replace rl6 := keep hb rl6
 replace hw := Below.after hw hb
 clear hb
 generalize w6.heap.size = gg at *
 clear w6
 refine (c7.at _).mono ?_
 rintro e w8 ⟨rfl, hb⟩
 replace rp0 := keep hb rp0
 replace rp1 := keep hb rp1
 replace rp2 := keep hb rp2
 replace rl5 := keep hb rl5
 replace rl6 := keep hb rl6
 replace rl7 := keep hb rl7
 replace hw := Below.after hw hb
 clear hb
 go_wp2_with (first | (refine wpList_store_row rfl 101 _ _ rfl (w8.heap.size) (rd q7) rfl rfl 101 #[.int .u64 0, .int .u64 0, .int .u64 0, .int .u64 0, .int .u64 0, .int .u64 0, .int .u64 0, .int .u64 0, .int .u64 0, .int .u64 0, .int .u64 0, .int .u64 0, .int .u64 0, .int .u64 0, .int .u64 0, .int .u64 0] (hp1_0 w8 _) (rd_info q7) rfl (rd_one q7) ?_; rw [setRow_alloc_new _ _ _ _ _ _ (by simp)]) | (refine wpList_load_want rfl 101 _ rfl (w8.heap.size) rfl 101 (rd q7) (0, 0) _ (hp1_0 w8 _) Tryz.underlying101 rfl (rd_info q7) ?_) | (refine wpList_load_want rfl 101 _ rfl (w.heap.size) rfl 101 (rd X) (0, 0) _ (keep ((Below.refl _ _).alloc (Nat.le_refl _) _) rp0) Tryz.underlying101 rfl (rd_info X) ?_) | (refine wpList_load_want rfl 105 _ rfl (w.heap.size + 1) rfl 105 (r4 (rd A) (rd B) (rd C) (rd D)) (0, 0) _ (keep ((Below.refl _ _).alloc (Nat.le_refl _) _) rp1) Tryz.underlying105 rfl (refs_info (rd_size A) (rd_size B) (rd_size C) (rd_size D)) ?_) | (refine wpList_load_want rfl 105 _ rfl (w.heap.size + 1 + 1) rfl 105 #[.int .u64 0, .int .u64 0, .int .u64 0, .int .u64 0, .int .u64 0, .int .u64 0, .int .u64 0, .int .u64 0, .int .u64 0, .int .u64 0, .int .u64 0, .int .u64 0, .int .u64 0, .int .u64 0, .int .u64 0, .int .u64 0, .int .u64 0, .int .u64 0, .int .u64 0, .int .u64 0, .int .u64 0, .int .u64 0, .int .u64 0, .int .u64 0, .int .u64 0, .int .u64 0, .int .u64 0, .int .u64 0, .int .u64 0, .int .u64 0, .int .u64 0, .int .u64 0, .int .u64 0, .int .u64 0, .int .u64 0, .int .u64 0, .int .u64 0, .int .u64 0, .int .u64 0, .int .u64 0, .int .u64 0, .int .u64 0, .int .u64 0, .int .u64 0, .int .u64 0, .int .u64 0, .int .u64 0, .int .u64 0, .int .u64 0, .int .u64 0, .int .u64 0, .int .u64 0, .int .u64 0, .int .u64 0, .int .u64 0, .int .u64 0, .int .u64 0, .int .u64 0, .int .u64 0, .int .u64 0, .int .u64 0, .int .u64 0, .int .u64 0, .int .u64 0] (0, 0) _ (keep ((Below.refl _ _).alloc (Nat.le_refl _) _) rp2) Tryz.underlying105 rfl (by kernel_rfl) ?_) | (refine wpList_load_want rfl 101 _ rfl (ge) rfl 101 (rd q1) (0, 0) _ (keep ((Below.refl _ _).alloc (Nat.le_refl _) _) rl5) Tryz.underlying101 rfl (rd_info q1) ?_) | (refine wpList_load_want rfl 101 _ rfl (gf) rfl 101 (rd q3) (0, 0) _ (keep ((Below.refl _ _).alloc (Nat.le_refl _) _) rl6) Tryz.underlying101 rfl (rd_info q3) ?_) | (refine wpList_load_want rfl 101 _ rfl (gg) rfl 101 (rd q5) (0, 0) _ (keep ((Below.refl _ _).alloc (Nat.le_refl _) _) rl7) Tryz.underlying101 rfl (rd_info q5) ?_) | (refine wpList_load_part rfl 101 _ rfl (w.heap.size + 1) 0 rfl 105 (r4 (rd A) (rd B) (rd C) (rd D)) (0, 0) (rd A) _ (keep ((Below.refl _ _).alloc (Nat.le_refl _) _) rp1) p_0 Tryz.underlying101 rfl (rd_info A) ?_) | (refine wpList_load_part rfl 101 _ rfl (w.heap.size + 1) 16 rfl 105 (r4 (rd A) (rd B) (rd C) (rd D)) (0, 0) (rd B) _ (keep ((Below.refl _ _).alloc (Nat.le_refl _) _) rp1) (p16_1 (rd_size A)) Tryz.underlying101 rfl (rd_info B) ?_) | (refine wpList_load_part rfl 101 _ rfl (w.heap.size + 1) 32 rfl 105 (r4 (rd A) (rd B) (rd C) (rd D)) (0, 0) (rd C) _ (keep ((Below.refl _ _).alloc (Nat.le_refl _) _) rp1) (p16_2 (rd_size A) (rd_size B)) Tryz.underlying101 rfl (rd_info C) ?_) | (refine wpList_load_part rfl 101 _ rfl (w.heap.size + 1) 48 rfl 105 (r4 (rd A) (rd B) (rd C) (rd D)) (0, 0) (rd D) _ (keep ((Below.refl _ _).alloc (Nat.le_refl _) _) rp1) (p16_3 (rd_size A) (rd_size B) (rd_size C)) Tryz.underlying101 rfl (rd_info D) ?_) | fail)
 have rl8 : (w8.alloc (.cells (rd q7) 101)).heap[w8.heap.size]? = some (.cells (rd q7) 101 (0, 0)) := hp1_0 w8 _
 have hb : Below w8.heap.size w8 (w8.alloc (.cells (rd q7) 101)) := ((Below.refl _ _).alloc (Nat.le_refl _) _)
 generalize (w8.alloc (.cells (rd q7) 101)) = wah at *
 have ygh_0 := lt_of_row rp0
 have ygh_1 := lt_of_row rp1
 have ygh_2 := lt_of_row rp2
 have ygh_3 := lt_of_row rl5
 have ygh_4 := lt_of_row rl6
 have ygh_5 := lt_of_row rl7
 have ygh := hw.size
 replace rp0 := keep hb rp0
 replace rp1 := keep hb rp1
 replace rp2 := keep hb rp2
 replace rl5 := keep hb rl5
 replace rl6 := keep hb rl6
 replace rl7 := keep hb rl7
 replace hw := Below.after hw hb
 clear hb
 generalize w8.heap.size = gh at *
 clear w8
 refine (c9.at _).mono ?_
 rintro e w10 ⟨rfl, hb⟩
 replace rp0 := keep hb rp0
 replace rp1 := keep hb rp1
 replace rp2 := keep hb rp2
 replace rl5 := keep hb rl5
 replace rl6 := keep hb rl6
 replace rl7 := keep hb rl7
 replace rl8 := keep hb rl8
 replace hw := Below.after hw hb
 clear hb
 go_wp2_with (first | (refine wpList_store_row rfl 101 _ _ rfl (w10.heap.size) (rd q9) rfl rfl 101 #[.int .u64 0, .int .u64 0, .int .u64 0, .int .u64 0, .int .u64 0, .int .u64 0, .int .u64 0, .int .u64 0, .int .u64 0, .int .u64 0, .int .u64 0, .int .u64 0, .int .u64 0, .int .u64 0, .int .u64 0, .int .u64 0] (hp1_0 w10 _) (rd_info q9) rfl (rd_one q9) ?_; rw [setRow_alloc_new _ _ _ _ _ _ (by simp)]) | (refine wpList_load_want rfl 101 _ rfl (w10.heap.size) rfl 101 (rd q9) (0, 0) _ (hp1_0 w10 _) Tryz.underlying101 rfl (rd_info q9) ?_) | (refine wpList_load_want rfl 101 _ rfl (w.heap.size) rfl 101 (rd X) (0, 0) _ (keep ((Below.refl _ _).alloc (Nat.le_refl _) _) rp0) Tryz.underlying101 rfl (rd_info X) ?_) | (refine wpList_load_want rfl 105 _ rfl (w.heap.size + 1) rfl 105 (r4 (rd A) (rd B) (rd C) (rd D)) (0, 0) _ (keep ((Below.refl _ _).alloc (Nat.le_refl _) _) rp1) Tryz.underlying105 rfl (refs_info (rd_size A) (rd_size B) (rd_size C) (rd_size D)) ?_) | (refine wpList_load_want rfl 105 _ rfl (w.heap.size + 1 + 1) rfl 105 #[.int .u64 0, .int .u64 0, .int .u64 0, .int .u64 0, .int .u64 0, .int .u64 0, .int .u64 0, .int .u64 0, .int .u64 0, .int .u64 0, .int .u64 0, .int .u64 0, .int .u64 0, .int .u64 0, .int .u64 0, .int .u64 0, .int .u64 0, .int .u64 0, .int .u64 0, .int .u64 0, .int .u64 0, .int .u64 0, .int .u64 0, .int .u64 0, .int .u64 0, .int .u64 0, .int .u64 0, .int .u64 0, .int .u64 0, .int .u64 0, .int .u64 0, .int .u64 0, .int .u64 0, .int .u64 0, .int .u64 0, .int .u64 0, .int .u64 0, .int .u64 0, .int .u64 0, .int .u64 0, .int .u64 0, .int .u64 0, .int .u64 0, .int .u64 0, .int .u64 0, .int .u64 0, .int .u64 0, .int .u64 0, .int .u64 0, .int .u64 0, .int .u64 0, .int .u64 0, .int .u64 0, .int .u64 0, .int .u64 0, .int .u64 0, .int .u64 0, .int .u64 0, .int .u64 0, .int .u64 0, .int .u64 0, .int .u64 0, .int .u64 0, .int .u64 0] (0, 0) _ (keep ((Below.refl _ _).alloc (Nat.le_refl _) _) rp2) Tryz.underlying105 rfl (by kernel_rfl) ?_) | (refine wpList_load_want rfl 101 _ rfl (ge) rfl 101 (rd q1) (0, 0) _ (keep ((Below.refl _ _).alloc (Nat.le_refl _) _) rl5) Tryz.underlying101 rfl (rd_info q1) ?_) | (refine wpList_load_want rfl 101 _ rfl (gf) rfl 101 (rd q3) (0, 0) _ (keep ((Below.refl _ _).alloc (Nat.le_refl _) _) rl6) Tryz.underlying101 rfl (rd_info q3) ?_) | (refine wpList_load_want rfl 101 _ rfl (gg) rfl 101 (rd q5) (0, 0) _ (keep ((Below.refl _ _).alloc (Nat.le_refl _) _) rl7) Tryz.underlying101 rfl (rd_info q5) ?_) | (refine wpList_load_want rfl 101 _ rfl (gh) rfl 101 (rd q7) (0, 0) _ (keep ((Below.refl _ _).alloc (Nat.le_refl _) _) rl8) Tryz.underlying101 rfl (rd_info q7) ?_) | (refine wpList_load_part rfl 101 _ rfl (w.heap.size + 1) 0 rfl 105 (r4 (rd A) (rd B) (rd C) (rd D)) (0, 0) (rd A) _ (keep ((Below.refl _ _).alloc (Nat.le_refl _) _) rp1) p_0 Tryz.underlying101 rfl (rd_info A) ?_) | (refine wpList_load_part rfl 101 _ rfl (w.heap.size + 1) 16 rfl 105 (r4 (rd A) (rd B) (rd C) (rd D)) (0, 0) (rd B) _ (keep ((Below.refl _ _).alloc (Nat.le_refl _) _) rp1) (p16_1 (rd_size A)) Tryz.underlying101 rfl (rd_info B) ?_) | (refine wpList_load_part rfl 101 _ rfl (w.heap.size + 1) 32 rfl 105 (r4 (rd A) (rd B) (rd C) (rd D)) (0, 0) (rd C) _ (keep ((Below.refl _ _).alloc (Nat.le_refl _) _) rp1) (p16_2 (rd_size A) (rd_size B)) Tryz.underlying101 rfl (rd_info C) ?_) | (refine wpList_load_part rfl 101 _ rfl (w.heap.size + 1) 48 rfl 105 (r4 (rd A) (rd B) (rd C) (rd D)) (0, 0) (rd D) _ (keep ((Below.refl _ _).alloc (Nat.le_refl _) _) rp1) (p16_3 (rd_size A) (rd_size B) (rd_size C)) Tryz.underlying101 rfl (rd_info D) ?_) | fail)
 have rl9 : (w10.alloc (.cells (rd q9) 101)).heap[w10.heap.size]? = some (.cells (rd q9) 101 (0, 0)) := hp1_0 w10 _
 have hb : Below w10.heap.size w10 (w10.alloc (.cells (rd q9) 101)) := ((Below.refl _ _).alloc (Nat.le_refl _) _)
 generalize (w10.alloc (.cells (rd q9) 101)) = way at *
 have ygy_0 := lt_of_row rp0
 have ygy_1 := lt_of_row rp1
 have ygy_2 := lt_of_row rp2
 have ygy_3 := lt_of_row rl5
 have ygy_4 := lt_of_row rl6
 have ygy_5 := lt_of_row rl7
 have ygy_6 := lt_of_row rl8
 have ygy := hw.size
 replace rp0 := keep hb rp0
 replace rp1 := keep hb rp1
 replace rp2 := keep hb rp2
 replace rl5 := keep hb rl5
 replace rl6 := keep hb rl6
 replace rl7 := keep hb rl7
 replace rl8 := keep hb rl8
 replace hw := Below.after hw hb
 clear hb
 generalize w10.heap.size = gy at *
 clear w10
 refine (c11.at _).mono ?_
 rintro e w12 ⟨rfl, hb⟩
 replace rp0 := keep hb rp0
 replace rp1 := keep hb rp1
 replace rp2 := keep hb rp2
 replace rl5 := keep hb rl5
 replace rl6 := keep hb rl6
 replace rl7 := keep hb rl7
 replace rl8 := keep hb rl8
 replace rl9 := keep hb rl9
 replace hw := Below.after hw hb
 clear hb
 go_wp2_with (first | (refine wpList_store_row rfl 101 _ _ rfl (w12.heap.size) (rd q11) rfl rfl 101 #[.int .u64 0, .int .u64 0, .int .u64 0, .int .u64 0, .int .u64 0, .int .u64 0, .int .u64 0, .int .u64 0, .int .u64 0, .int .u64 0, .int .u64 0, .int .u64 0, .int .u64 0, .int .u64 0, .int .u64 0, .int .u64 0] (hp1_0 w12 _) (rd_info q11) rfl (rd_one q11) ?_; rw [setRow_alloc_new _ _ _ _ _ _ (by simp)]) | (refine wpList_load_want rfl 101 _ rfl (w12.heap.size) rfl 101 (rd q11) (0, 0) _ (hp1_0 w12 _) Tryz.underlying101 rfl (rd_info q11) ?_) | (refine wpList_load_want rfl 101 _ rfl (w.heap.size) rfl 101 (rd X) (0, 0) _ (keep ((Below.refl _ _).alloc (Nat.le_refl _) _) rp0) Tryz.underlying101 rfl (rd_info X) ?_) | (refine wpList_load_want rfl 105 _ rfl (w.heap.size + 1) rfl 105 (r4 (rd A) (rd B) (rd C) (rd D)) (0, 0) _ (keep ((Below.refl _ _).alloc (Nat.le_refl _) _) rp1) Tryz.underlying105 rfl (refs_info (rd_size A) (rd_size B) (rd_size C) (rd_size D)) ?_) | (refine wpList_load_want rfl 105 _ rfl (w.heap.size + 1 + 1) rfl 105 #[.int .u64 0, .int .u64 0, .int .u64 0, .int .u64 0, .int .u64 0, .int .u64 0, .int .u64 0, .int .u64 0, .int .u64 0, .int .u64 0, .int .u64 0, .int .u64 0, .int .u64 0, .int .u64 0, .int .u64 0, .int .u64 0, .int .u64 0, .int .u64 0, .int .u64 0, .int .u64 0, .int .u64 0, .int .u64 0, .int .u64 0, .int .u64 0, .int .u64 0, .int .u64 0, .int .u64 0, .int .u64 0, .int .u64 0, .int .u64 0, .int .u64 0, .int .u64 0, .int .u64 0, .int .u64 0, .int .u64 0, .int .u64 0, .int .u64 0, .int .u64 0, .int .u64 0, .int .u64 0, .int .u64 0, .int .u64 0, .int .u64 0, .int .u64 0, .int .u64 0, .int .u64 0, .int .u64 0, .int .u64 0, .int .u64 0, .int .u64 0, .int .u64 0, .int .u64 0, .int .u64 0, .int .u64 0, .int .u64 0, .int .u64 0, .int .u64 0, .int .u64 0, .int .u64 0, .int .u64 0, .int .u64 0, .int .u64 0, .int .u64 0, .int .u64 0] (0, 0) _ (keep ((Below.refl _ _).alloc (Nat.le_refl _) _) rp2) Tryz.underlying105 rfl (by kernel_rfl) ?_) | (refine wpList_load_want rfl 101 _ rfl (ge) rfl 101 (rd q1) (0, 0) _ (keep ((Below.refl _ _).alloc (Nat.le_refl _) _) rl5) Tryz.underlying101 rfl (rd_info q1) ?_) | (refine wpList_load_want rfl 101 _ rfl (gf) rfl 101 (rd q3) (0, 0) _ (keep ((Below.refl _ _).alloc (Nat.le_refl _) _) rl6) Tryz.underlying101 rfl (rd_info q3) ?_) | (refine wpList_load_want rfl 101 _ rfl (gg) rfl 101 (rd q5) (0, 0) _ (keep ((Below.refl _ _).alloc (Nat.le_refl _) _) rl7) Tryz.underlying101 rfl (rd_info q5) ?_) | (refine wpList_load_want rfl 101 _ rfl (gh) rfl 101 (rd q7) (0, 0) _ (keep ((Below.refl _ _).alloc (Nat.le_refl _) _) rl8) Tryz.underlying101 rfl (rd_info q7) ?_) | (refine wpList_load_want rfl 101 _ rfl (gy) rfl 101 (rd q9) (0, 0) _ (keep ((Below.refl _ _).alloc (Nat.le_refl _) _) rl9) Tryz.underlying101 rfl (rd_info q9) ?_) | (refine wpList_load_part rfl 101 _ rfl (w.heap.size + 1) 0 rfl 105 (r4 (rd A) (rd B) (rd C) (rd D)) (0, 0) (rd A) _ (keep ((Below.refl _ _).alloc (Nat.le_refl _) _) rp1) p_0 Tryz.underlying101 rfl (rd_info A) ?_) | (refine wpList_load_part rfl 101 _ rfl (w.heap.size + 1) 16 rfl 105 (r4 (rd A) (rd B) (rd C) (rd D)) (0, 0) (rd B) _ (keep ((Below.refl _ _).alloc (Nat.le_refl _) _) rp1) (p16_1 (rd_size A)) Tryz.underlying101 rfl (rd_info B) ?_) | (refine wpList_load_part rfl 101 _ rfl (w.heap.size + 1) 32 rfl 105 (r4 (rd A) (rd B) (rd C) (rd D)) (0, 0) (rd C) _ (keep ((Below.refl _ _).alloc (Nat.le_refl _) _) rp1) (p16_2 (rd_size A) (rd_size B)) Tryz.underlying101 rfl (rd_info C) ?_) | (refine wpList_load_part rfl 101 _ rfl (w.heap.size + 1) 48 rfl 105 (r4 (rd A) (rd B) (rd C) (rd D)) (0, 0) (rd D) _ (keep ((Below.refl _ _).alloc (Nat.le_refl _) _) rp1) (p16_3 (rd_size A) (rd_size B) (rd_size C)) Tryz.underlying101 rfl (rd_info D) ?_) | fail)
 have rl10 : (w12.alloc (.cells (rd q11) 101)).heap[w12.heap.size]? = some (.cells (rd q11) 101 (0, 0)) := hp1_0 w12 _
 have hb : Below w12.heap.size w12 (w12.alloc (.cells (rd q11) 101)) := ((Below.refl _ _).alloc (Nat.le_refl _) _)
 generalize (w12.alloc (.cells (rd q11) 101)) = waz at *
 have ygz_0 := lt_of_row rp0
 have ygz_1 := lt_of_row rp1
 have ygz_2 := lt_of_row rp2
 have ygz_3 := lt_of_row rl5
 have ygz_4 := lt_of_row rl6
 have ygz_5 := lt_of_row rl7
 have ygz_6 := lt_of_row rl8
 have ygz_7 := lt_of_row rl9
 have ygz := hw.size
 replace rp0 := keep hb rp0
 replace rp1 := keep hb rp1
 replace rp2 := keep hb rp2
 replace rl5 := keep hb rl5
 replace rl6 := keep hb rl6
 replace rl7 := keep hb rl7
 replace rl8 := keep hb rl8
 replace rl9 := keep hb rl9
 replace hw := Below.after hw hb
 clear hb
 generalize w12.heap.size = gz at *
 clear w12
 refine (c13.at _).mono ?_
 rintro e w14 ⟨rfl, hb⟩
 replace rp0 := keep hb rp0
 replace rp1 := keep hb rp1
 replace rp2 := keep hb rp2
 replace rl5 := keep hb rl5
 replace rl6 := keep hb rl6
 replace rl7 := keep hb rl7
 replace rl8 := keep hb rl8
 replace rl9 := keep hb rl9
 replace rl10 := keep hb rl10
 replace hw := Below.after hw hb
 clear hb
 go_wp2_with (first | (refine wpList_store_row rfl 101 _ _ rfl (w14.heap.size) (rd q13) rfl rfl 101 #[.int .u64 0, .int .u64 0, .int .u64 0, .int .u64 0, .int .u64 0, .int .u64 0, .int .u64 0, .int .u64 0, .int .u64 0, .int .u64 0, .int .u64 0, .int .u64 0, .int .u64 0, .int .u64 0, .int .u64 0, .int .u64 0] (hp1_0 w14 _) (rd_info q13) rfl (rd_one q13) ?_; rw [setRow_alloc_new _ _ _ _ _ _ (by simp)]) | (refine wpList_load_want rfl 101 _ rfl (w14.heap.size) rfl 101 (rd q13) (0, 0) _ (hp1_0 w14 _) Tryz.underlying101 rfl (rd_info q13) ?_) | (refine wpList_load_want rfl 101 _ rfl (w.heap.size) rfl 101 (rd X) (0, 0) _ (keep ((Below.refl _ _).alloc (Nat.le_refl _) _) rp0) Tryz.underlying101 rfl (rd_info X) ?_) | (refine wpList_load_want rfl 105 _ rfl (w.heap.size + 1) rfl 105 (r4 (rd A) (rd B) (rd C) (rd D)) (0, 0) _ (keep ((Below.refl _ _).alloc (Nat.le_refl _) _) rp1) Tryz.underlying105 rfl (refs_info (rd_size A) (rd_size B) (rd_size C) (rd_size D)) ?_) | (refine wpList_load_want rfl 105 _ rfl (w.heap.size + 1 + 1) rfl 105 #[.int .u64 0, .int .u64 0, .int .u64 0, .int .u64 0, .int .u64 0, .int .u64 0, .int .u64 0, .int .u64 0, .int .u64 0, .int .u64 0, .int .u64 0, .int .u64 0, .int .u64 0, .int .u64 0, .int .u64 0, .int .u64 0, .int .u64 0, .int .u64 0, .int .u64 0, .int .u64 0, .int .u64 0, .int .u64 0, .int .u64 0, .int .u64 0, .int .u64 0, .int .u64 0, .int .u64 0, .int .u64 0, .int .u64 0, .int .u64 0, .int .u64 0, .int .u64 0, .int .u64 0, .int .u64 0, .int .u64 0, .int .u64 0, .int .u64 0, .int .u64 0, .int .u64 0, .int .u64 0, .int .u64 0, .int .u64 0, .int .u64 0, .int .u64 0, .int .u64 0, .int .u64 0, .int .u64 0, .int .u64 0, .int .u64 0, .int .u64 0, .int .u64 0, .int .u64 0, .int .u64 0, .int .u64 0, .int .u64 0, .int .u64 0, .int .u64 0, .int .u64 0, .int .u64 0, .int .u64 0, .int .u64 0, .int .u64 0, .int .u64 0, .int .u64 0] (0, 0) _ (keep ((Below.refl _ _).alloc (Nat.le_refl _) _) rp2) Tryz.underlying105 rfl (by kernel_rfl) ?_) | (refine wpList_load_want rfl 101 _ rfl (ge) rfl 101 (rd q1) (0, 0) _ (keep ((Below.refl _ _).alloc (Nat.le_refl _) _) rl5) Tryz.underlying101 rfl (rd_info q1) ?_) | (refine wpList_load_want rfl 101 _ rfl (gf) rfl 101 (rd q3) (0, 0) _ (keep ((Below.refl _ _).alloc (Nat.le_refl _) _) rl6) Tryz.underlying101 rfl (rd_info q3) ?_) | (refine wpList_load_want rfl 101 _ rfl (gg) rfl 101 (rd q5) (0, 0) _ (keep ((Below.refl _ _).alloc (Nat.le_refl _) _) rl7) Tryz.underlying101 rfl (rd_info q5) ?_) | (refine wpList_load_want rfl 101 _ rfl (gh) rfl 101 (rd q7) (0, 0) _ (keep ((Below.refl _ _).alloc (Nat.le_refl _) _) rl8) Tryz.underlying101 rfl (rd_info q7) ?_) | (refine wpList_load_want rfl 101 _ rfl (gy) rfl 101 (rd q9) (0, 0) _ (keep ((Below.refl _ _).alloc (Nat.le_refl _) _) rl9) Tryz.underlying101 rfl (rd_info q9) ?_) | (refine wpList_load_want rfl 101 _ rfl (gz) rfl 101 (rd q11) (0, 0) _ (keep ((Below.refl _ _).alloc (Nat.le_refl _) _) rl10) Tryz.underlying101 rfl (rd_info q11) ?_) | (refine wpList_load_part rfl 101 _ rfl (w.heap.size + 1) 0 rfl 105 (r4 (rd A) (rd B) (rd C) (rd D)) (0, 0) (rd A) _ (keep ((Below.refl _ _).alloc (Nat.le_refl _) _) rp1) p_0 Tryz.underlying101 rfl (rd_info A) ?_) | (refine wpList_load_part rfl 101 _ rfl (w.heap.size + 1) 16 rfl 105 (r4 (rd A) (rd B) (rd C) (rd D)) (0, 0) (rd B) _ (keep ((Below.refl _ _).alloc (Nat.le_refl _) _) rp1) (p16_1 (rd_size A)) Tryz.underlying101 rfl (rd_info B) ?_) | (refine wpList_load_part rfl 101 _ rfl (w.heap.size + 1) 32 rfl 105 (r4 (rd A) (rd B) (rd C) (rd D)) (0, 0) (rd C) _ (keep ((Below.refl _ _).alloc (Nat.le_refl _) _) rp1) (p16_2 (rd_size A) (rd_size B)) Tryz.underlying101 rfl (rd_info C) ?_) | (refine wpList_load_part rfl 101 _ rfl (w.heap.size + 1) 48 rfl 105 (r4 (rd A) (rd B) (rd C) (rd D)) (0, 0) (rd D) _ (keep ((Below.refl _ _).alloc (Nat.le_refl _) _) rp1) (p16_3 (rd_size A) (rd_size B) (rd_size C)) Tryz.underlying101 rfl (rd_info D) ?_) | fail)
 have rl11 : (w14.alloc (.cells (rd q13) 101)).heap[w14.heap.size]? = some (.cells (rd q13) 101 (0, 0)) := hp1_0 w14 _
 have hb : Below w14.heap.size w14 (w14.alloc (.cells (rd q13) 101)) := ((Below.refl _ _).alloc (Nat.le_refl _) _)
 generalize (w14.alloc (.cells (rd q13) 101)) = war at *
 have ygr_0 := lt_of_row rp0
 have ygr_1 := lt_of_row rp1
 have ygr_2 := lt_of_row rp2
 have ygr_3 := lt_of_row rl5
 have ygr_4 := lt_of_row rl6
 have ygr_5 := lt_of_row rl7
 have ygr_6 := lt_of_row rl8
 have ygr_7 := lt_of_row rl9
 have ygr_8 := lt_of_row rl10
 have ygr := hw.size
 replace rp0 := keep hb rp0
 replace rp1 := keep hb rp1
 replace rp2 := keep hb rp2
 replace rl5 := keep hb rl5
 replace rl6 := keep hb rl6
 replace rl7 := keep hb rl7
 replace rl8 := keep hb rl8
 replace rl9 := keep hb rl9
 replace rl10 := keep hb rl10
 replace hw := Below.after hw hb
 clear hb
 generalize w14.heap.size = gr at *
 clear w14
 refine (c15.at _).mono ?_
 rintro e w16 ⟨rfl, hb⟩
 replace rp0 := keep hb rp0
 replace rp1 := keep hb rp1
 replace rp2 := keep hb rp2
 replace rl5 := keep hb rl5
 replace rl6 := keep hb rl6
 replace rl7 := keep hb rl7
 replace rl8 := keep hb rl8
 replace rl9 := keep hb rl9
 replace rl10 := keep hb rl10
 replace rl11 := keep hb rl11
 replace hw := Below.after hw hb
 clear hb
 go_wp2_with (first | (refine wpList_store_row rfl 101 _ _ rfl (w16.heap.size) (rd q15) rfl rfl 101 #[.int .u64 0, .int .u64 0, .int .u64 0, .int .u64 0, .int .u64 0, .int .u64 0, .int .u64 0, .int .u64 0, .int .u64 0, .int .u64 0, .int .u64 0, .int .u64 0, .int .u64 0, .int .u64 0, .int .u64 0, .int .u64 0] (hp1_0 w16 _) (rd_info q15) rfl (rd_one q15) ?_; rw [setRow_alloc_new _ _ _ _ _ _ (by simp)]) | (refine wpList_load_want rfl 101 _ rfl (w16.heap.size) rfl 101 (rd q15) (0, 0) _ (hp1_0 w16 _) Tryz.underlying101 rfl (rd_info q15) ?_) | (refine wpList_load_want rfl 101 _ rfl (w.heap.size) rfl 101 (rd X) (0, 0) _ (keep ((Below.refl _ _).alloc (Nat.le_refl _) _) rp0) Tryz.underlying101 rfl (rd_info X) ?_) | (refine wpList_load_want rfl 105 _ rfl (w.heap.size + 1) rfl 105 (r4 (rd A) (rd B) (rd C) (rd D)) (0, 0) _ (keep ((Below.refl _ _).alloc (Nat.le_refl _) _) rp1) Tryz.underlying105 rfl (refs_info (rd_size A) (rd_size B) (rd_size C) (rd_size D)) ?_) | (refine wpList_load_want rfl 105 _ rfl (w.heap.size + 1 + 1) rfl 105 #[.int .u64 0, .int .u64 0, .int .u64 0, .int .u64 0, .int .u64 0, .int .u64 0, .int .u64 0, .int .u64 0, .int .u64 0, .int .u64 0, .int .u64 0, .int .u64 0, .int .u64 0, .int .u64 0, .int .u64 0, .int .u64 0, .int .u64 0, .int .u64 0, .int .u64 0, .int .u64 0, .int .u64 0, .int .u64 0, .int .u64 0, .int .u64 0, .int .u64 0, .int .u64 0, .int .u64 0, .int .u64 0, .int .u64 0, .int .u64 0, .int .u64 0, .int .u64 0, .int .u64 0, .int .u64 0, .int .u64 0, .int .u64 0, .int .u64 0, .int .u64 0, .int .u64 0, .int .u64 0, .int .u64 0, .int .u64 0, .int .u64 0, .int .u64 0, .int .u64 0, .int .u64 0, .int .u64 0, .int .u64 0, .int .u64 0, .int .u64 0, .int .u64 0, .int .u64 0, .int .u64 0, .int .u64 0, .int .u64 0, .int .u64 0, .int .u64 0, .int .u64 0, .int .u64 0, .int .u64 0, .int .u64 0, .int .u64 0, .int .u64 0, .int .u64 0] (0, 0) _ (keep ((Below.refl _ _).alloc (Nat.le_refl _) _) rp2) Tryz.underlying105 rfl (by kernel_rfl) ?_) | (refine wpList_load_want rfl 101 _ rfl (ge) rfl 101 (rd q1) (0, 0) _ (keep ((Below.refl _ _).alloc (Nat.le_refl _) _) rl5) Tryz.underlying101 rfl (rd_info q1) ?_) | (refine wpList_load_want rfl 101 _ rfl (gf) rfl 101 (rd q3) (0, 0) _ (keep ((Below.refl _ _).alloc (Nat.le_refl _) _) rl6) Tryz.underlying101 rfl (rd_info q3) ?_) | (refine wpList_load_want rfl 101 _ rfl (gg) rfl 101 (rd q5) (0, 0) _ (keep ((Below.refl _ _).alloc (Nat.le_refl _) _) rl7) Tryz.underlying101 rfl (rd_info q5) ?_) | (refine wpList_load_want rfl 101 _ rfl (gh) rfl 101 (rd q7) (0, 0) _ (keep ((Below.refl _ _).alloc (Nat.le_refl _) _) rl8) Tryz.underlying101 rfl (rd_info q7) ?_) | (refine wpList_load_want rfl 101 _ rfl (gy) rfl 101 (rd q9) (0, 0) _ (keep ((Below.refl _ _).alloc (Nat.le_refl _) _) rl9) Tryz.underlying101 rfl (rd_info q9) ?_) | (refine wpList_load_want rfl 101 _ rfl (gz) rfl 101 (rd q11) (0, 0) _ (keep ((Below.refl _ _).alloc (Nat.le_refl _) _) rl10) Tryz.underlying101 rfl (rd_info q11) ?_) | (refine wpList_load_want rfl 101 _ rfl (gr) rfl 101 (rd q13) (0, 0) _ (keep ((Below.refl _ _).alloc (Nat.le_refl _) _) rl11) Tryz.underlying101 rfl (rd_info q13) ?_) | (refine wpList_load_part rfl 101 _ rfl (w.heap.size + 1) 0 rfl 105 (r4 (rd A) (rd B) (rd C) (rd D)) (0, 0) (rd A) _ (keep ((Below.refl _ _).alloc (Nat.le_refl _) _) rp1) p_0 Tryz.underlying101 rfl (rd_info A) ?_) | (refine wpList_load_part rfl 101 _ rfl (w.heap.size + 1) 16 rfl 105 (r4 (rd A) (rd B) (rd C) (rd D)) (0, 0) (rd B) _ (keep ((Below.refl _ _).alloc (Nat.le_refl _) _) rp1) (p16_1 (rd_size A)) Tryz.underlying101 rfl (rd_info B) ?_) | (refine wpList_load_part rfl 101 _ rfl (w.heap.size + 1) 32 rfl 105 (r4 (rd A) (rd B) (rd C) (rd D)) (0, 0) (rd C) _ (keep ((Below.refl _ _).alloc (Nat.le_refl _) _) rp1) (p16_2 (rd_size A) (rd_size B)) Tryz.underlying101 rfl (rd_info C) ?_) | (refine wpList_load_part rfl 101 _ rfl (w.heap.size + 1) 48 rfl 105 (r4 (rd A) (rd B) (rd C) (rd D)) (0, 0) (rd D) _ (keep ((Below.refl _ _).alloc (Nat.le_refl _) _) rp1) (p16_3 (rd_size A) (rd_size B) (rd_size C)) Tryz.underlying101 rfl (rd_info D) ?_) | fail)
 have rl12 : (w16.alloc (.cells (rd q15) 101)).heap[w16.heap.size]? = some (.cells (rd q15) 101 (0, 0)) := hp1_0 w16 _
 have hb : Below w16.heap.size w16 (w16.alloc (.cells (rd q15) 101)) := ((Below.refl _ _).alloc (Nat.le_refl _) _)
 generalize (w16.alloc (.cells (rd q15) 101)) = wam at *
 have ygm_0 := lt_of_row rp0
 have ygm_1 := lt_of_row rp1
 have ygm_2 := lt_of_row rp2
 have ygm_3 := lt_of_row rl5
 have ygm_4 := lt_of_row rl6
 have ygm_5 := lt_of_row rl7
 have ygm_6 := lt_of_row rl8
 have ygm_7 := lt_of_row rl9
 have ygm_8 := lt_of_row rl10
 have ygm_9 := lt_of_row rl11
 have ygm := hw.size
 replace rp0 := keep hb rp0
 replace rp1 := keep hb rp1
 replace rp2 := keep hb rp2
 replace rl5 := keep hb rl5
 replace rl6 := keep hb rl6
 replace rl7 := keep hb rl7
 replace rl8 := keep hb rl8
 replace rl9 := keep hb rl9
 replace rl10 := keep hb rl10
 replace rl11 := keep hb rl11
 replace hw := Below.after hw hb
 clear hb
 generalize w16.heap.size = gm at *
 clear w16
 refine (c17.at _).mono ?_
 rintro e w18 ⟨rfl, hb⟩
 replace rp0 := keep hb rp0
 replace rp1 := keep hb rp1
 replace rp2 := keep hb rp2
 replace rl5 := keep hb rl5
 replace rl6 := keep hb rl6
 replace rl7 := keep hb rl7
 replace rl8 := keep hb rl8
 replace rl9 := keep hb rl9
 replace rl10 := keep hb rl10
 replace rl11 := keep hb rl11
 replace rl12 := keep hb rl12
 replace hw := Below.after hw hb
 clear hb
 go_wp2_with (first | (refine wpList_store_row rfl 101 _ _ rfl (w18.heap.size) (rd q17) rfl rfl 101 #[.int .u64 0, .int .u64 0, .int .u64 0, .int .u64 0, .int .u64 0, .int .u64 0, .int .u64 0, .int .u64 0, .int .u64 0, .int .u64 0, .int .u64 0, .int .u64 0, .int .u64 0, .int .u64 0, .int .u64 0, .int .u64 0] (hp1_0 w18 _) (rd_info q17) rfl (rd_one q17) ?_; rw [setRow_alloc_new _ _ _ _ _ _ (by simp)]) | fail | fail)
 have rl13 : (w18.alloc (.cells (rd q17) 101)).heap[w18.heap.size]? = some (.cells (rd q17) 101 (0, 0)) := hp1_0 w18 _
 have hb : Below w18.heap.size w18 (w18.alloc (.cells (rd q17) 101)) := ((Below.refl _ _).alloc (Nat.le_refl _) _)
 generalize (w18.alloc (.cells (rd q17) 101)) = wan at *
 have ygn_0 := lt_of_row rp0
 have ygn_1 := lt_of_row rp1
 have ygn_2 := lt_of_row rp2
 have ygn_3 := lt_of_row rl5
 have ygn_4 := lt_of_row rl6
 have ygn_5 := lt_of_row rl7
 have ygn_6 := lt_of_row rl8
 have ygn_7 := lt_of_row rl9
 have ygn_8 := lt_of_row rl10
 have ygn_9 := lt_of_row rl11
 have ygn_10 := lt_of_row rl12
 have ygn := hw.size
 replace rp0 := keep hb rp0
 replace rp1 := keep hb rp1
 replace rp2 := keep hb rp2
 replace rl5 := keep hb rl5
 replace rl6 := keep hb rl6
 replace rl7 := keep hb rl7
 replace rl8 := keep hb rl8
 replace rl9 := keep hb rl9
 replace rl10 := keep hb rl10
 replace rl11 := keep hb rl11
 replace rl12 := keep hb rl12
 replace hw := Below.after hw hb
 clear hb
 generalize w18.heap.size = gn at *
 clear w18
 try simp only [Act.put]
 have Hrp0 := keepr rp0
 have Hrp1 := keepr rp1
 have Hrp2 := keepr rp2
 have Hrl5 := keepr rl5
 have Hrl6 := keepr rl6
 have Hrl7 := keepr rl7
 have Hrl8 := keepr rl8
 have Hrl9 := keepr rl9
 have Hrl10 := keepr rl10
 have Hrl11 := keepr rl11
 have Hrl12 := keepr rl12
 have Hrl13 := keepr rl13
 refine wp_region_tail (C := fun w' => ∃ p : Regrown, w' = grow (redrawn wan p.d) p.os) 21 _ rfl rfl rfl (by kernel_rfl) (by kernel_rfl) (by kernel_rfl) (by kernel_rfl) ⟨⟨wan.drawn + 1, #[]⟩, by rw [grow_empty]; rfl⟩ ?_
 dsimp only [List.set, idle]
 refine wpQuiet_load_row rfl 101 _ rfl (gy) rfl 101 (rd q9) (0, 0) _ Hrl9.out Tryz.underlying101 rfl (rd_info q9) ?_
 simp only [Act.put, List.setIfInBounds_toArray, List.set_cons_succ, List.set_cons_zero]
 refine wpQuiet_load_row rfl 101 _ rfl (gz) rfl 101 (rd q11) (0, 0) _ Hrl10.out Tryz.underlying101 rfl (rd_info q11) ?_
 simp only [Act.put, List.setIfInBounds_toArray, List.set_cons_succ, List.set_cons_zero]
 go_big_quiet_step (exact c19.re)
 refine wpQuiet_load_row rfl 101 _ rfl (gr) rfl 101 (rd q13) (0, 0) _ Hrl11.out Tryz.underlying101 rfl (rd_info q13) ?_
 simp only [Act.put, List.setIfInBounds_toArray, List.set_cons_succ, List.set_cons_zero]
 refine wpQuiet_load_row rfl 101 _ rfl (gy) rfl 101 (rd q9) (0, 0) _ Hrl9.out Tryz.underlying101 rfl (rd_info q9) ?_
 simp only [Act.put, List.setIfInBounds_toArray, List.set_cons_succ, List.set_cons_zero]
 go_big_quiet_step (exact c20.re)
 refine wpQuiet_load_row rfl 101 _ rfl (gr) rfl 101 (rd q13) (0, 0) _ Hrl11.out Tryz.underlying101 rfl (rd_info q13) ?_
 simp only [Act.put, List.setIfInBounds_toArray, List.set_cons_succ, List.set_cons_zero]
 go_big_quiet_step (exact c21.re)
 go_big_quiet_step (exact c22.re)
 go_big_quiet_step (exact c23.re)
 refine wpQuiet_load_row rfl 101 _ rfl (gm) rfl 101 (rd q15) (0, 0) _ Hrl12.out Tryz.underlying101 rfl (rd_info q15) ?_
 simp only [Act.put, List.setIfInBounds_toArray, List.set_cons_succ, List.set_cons_zero]
 refine wpQuiet_load_row rfl 101 _ rfl (gn) rfl 101 (rd q17) (0, 0) _ Hrl13.out Tryz.underlying101 rfl (rd_info q17) ?_
 simp only [Act.put, List.setIfInBounds_toArray, List.set_cons_succ, List.set_cons_zero]
 go_big_quiet_step (exact c24.re)
 go_big_quiet_step (exact c25.re)
 refine wpQuiet_load_row rfl 101 _ rfl (w.heap.size) rfl 101 (rd X) (0, 0) _ Hrp0.out Tryz.underlying101 rfl (rd_info X) ?_
 simp only [Act.put, List.setIfInBounds_toArray, List.set_cons_succ, List.set_cons_zero]
 refine wpQuiet_load_row rfl 101 _ rfl (gm) rfl 101 (rd q15) (0, 0) _ Hrl12.out Tryz.underlying101 rfl (rd_info q15) ?_
 simp only [Act.put, List.setIfInBounds_toArray, List.set_cons_succ, List.set_cons_zero]
 refine wpQuiet_load_row rfl 101 _ rfl (gn) rfl 101 (rd q17) (0, 0) _ Hrl13.out Tryz.underlying101 rfl (rd_info q17) ?_
 simp only [Act.put, List.setIfInBounds_toArray, List.set_cons_succ, List.set_cons_zero]
 go_big_quiet_step (exact c26.re)
 go_big_quiet_step (exact c27.re)
 go_big_quiet_step (exact c28.re)
 refine wpQuiet_build rfl 105 _ rfl [(0, .agg (rd q19)), (1, .agg (rd q23)), (2, .agg (rd q25)), (3, .agg (rd q28))] rfl (r4 (rd q19) (rd q23) (rd q25) (rd q28)) (refs_built (rd_size q19) (rd_size q23) (rd_size q25) (rd_size q28)) ?_
 simp only [Act.put, List.setIfInBounds_toArray, List.set_cons_succ, List.set_cons_zero]
 refine wpQuiet_idle rfl rfl rfl ?_
 rintro _ ⟨p, rfl⟩
 have hb := below_regrown wan p.d p.os
 generalize grow (redrawn wan p.d) p.os = w29 at *
 replace rp0 := keep hb rp0
 replace rp1 := keep hb rp1
 replace rp2 := keep hb rp2
 replace rl5 := keep hb rl5
 replace rl6 := keep hb rl6
 replace rl7 := keep hb rl7
 replace rl8 := keep hb rl8
 replace rl9 := keep hb rl9
 replace rl10 := keep hb rl10
 replace rl11 := keep hb rl11
 replace rl12 := keep hb rl12
 replace rl13 := keep hb rl13
 replace hw := Below.after hw hb
 clear hb
 clear Hrp0 Hrp1 Hrp2 Hrl5 Hrl6 Hrl7 Hrl8 Hrl9 Hrl10 Hrl11 Hrl12 Hrl13
 go_wp2_with (first | (refine wpList_store_row rfl 105 _ _ rfl (w.heap.size + 1 + 1) (r4 (rd q19) (rd q23) (rd q25) (rd q28)) rfl rfl 105 _ rp2 (refs_info (rd_size q19) (rd_size q23) (rd_size q25) (rd_size q28)) (refs_size (rd_size q19) (rd_size q23) (rd_size q25) (rd_size q28)).symm (r4_one (rd_one q19) (rd_one q23) (rd_one q25) (rd_one q28)) ?_) | fail)
 exact bodyPost_ret (v := .agg (r4 (rd q19) (rd q23) (rd q25) (rd q28))) (results_cell_row Tryz.results57 _ _ (w.heap.size + 1 + 1) _ (r4 (rd q19) (rd q23) (rd q25) (rd q28)) _ _ rfl (setRow_heap _ _ _ _ _ _ rp2) Tryz.underlying105 rfl (refs_info (rd_size q19) (rd_size q23) (rd_size q25) (rd_size q28))) rfl ⟨rfl, below_setRow hw (by omega) _⟩
end Go.Proofs.YtgbkbcgjagcgbaaGreatDoor.Lo
