import Derived.Test.YtkogejglfgghmaaDoorProg
import Derived.WalkKit
import Derived.WalkSpells
import Derived.WalkLawsBesides
import Derived.Lib.QuietBelow
import Derived.BigQuiet
import Derived.Test.YtkogejglfgghmaaDoorSa
import Derived.Test.YtkogejglfgghmaaDoorSj
import Derived.Test.YtkogejglfgghmaaDoorSn
import Derived.Test.YtkogejglfgghmaaDoorSl
import Derived.Test.YtkogejglfgghmaaDoorSh
import Derived.Test.YtkogejglfgghmaaDoorSe
import Derived.Test.YtkogejglfgghmaaDoorSo
namespace Go.Proofs.YtkogejglfgghmaaDoor
open Go.RowKit Go.Sort
attribute [local go_sem] setCell_drewN alloc_drewN


set_option maxRecDepth 100000 in
set_option maxHeartbeats 4000000 in
theorem scales_any {k u : Array Value} {K U : Int} (hk : KeyOf k K) (hu : KeyOf u U) (w : World) (hF : Four w) :
    Calls Tryd.prog 4 #[.agg k, .agg u] w fun e w' => e = .returned (.bool true) ∧ Below w.heap.size w w' := by
  have heq : ∀ (q : Int) W, (Op.equalIn 10000 34 (.agg (kb q)) (.agg (kb q))).run Tryd.prog W = .ok true W := fun q W => by
    have e : kb q = #[.int .u8 (byt q 0), .int .u8 (byt q 1), .int .u8 (byt q 2), .int .u8 (byt q 3), .int .u8 (byt q 4), .int .u8 (byt q 5), .int .u8 (byt q 6), .int .u8 (byt q 7), .int .u8 (byt q 8), .int .u8 (byt q 9), .int .u8 (byt q 10), .int .u8 (byt q 11), .int .u8 (byt q 12), .int .u8 (byt q 13), .int .u8 (byt q 14), .int .u8 (byt q 15), .int .u8 (byt q 16), .int .u8 (byt q 17), .int .u8 (byt q 18), .int .u8 (byt q 19), .int .u8 (byt q 20), .int .u8 (byt q 21), .int .u8 (byt q 22), .int .u8 (byt q 23), .int .u8 (byt q 24), .int .u8 (byt q 25), .int .u8 (byt q 26), .int .u8 (byt q 27), .int .u8 (byt q 28), .int .u8 (byt q 29), .int .u8 (byt q 30), .int .u8 (byt q 31)] := rfl
    rw [e, keys_equal]; simp
  have cA := a_scale hk hu
  have cR := r_scale hk hu
  generalize scl K U = Y at *
  go_enter Tryd.func4, Tryd.ntmps4
  go_wp2
  have rp0 : ((w.alloc (.cells k 34)).alloc (.cells u 34)).heap[w.heap.size]? = some (.cells k 34 (0, 0)) := hp2_0 w _ _
  have rp1 : ((w.alloc (.cells k 34)).alloc (.cells u 34)).heap[w.heap.size + 1]? = some (.cells u 34 (0, 0)) := hp2_1 w _ _
  have hw : Below w.heap.size w ((w.alloc (.cells k 34)).alloc (.cells u 34)) := (((Below.refl _ _).alloc (Nat.le_refl _) _).alloc (by simp) _)
  have hz0 := hF.1
  have f4 : Four ((w.alloc (.cells k 34)).alloc (.cells u 34)) := ((hF.alloc _).alloc _)
  generalize ((w.alloc (.cells k 34)).alloc (.cells u 34)) = w0 at *
  have Hrp0 := keepr rp0
  have Hrp1 := keepr rp1
  refine wp_region_quiet_below (by kernel_rfl) (by kernel_rfl) ?_
  refine wpQuiet_load_row rfl 34 _ rfl (w.heap.size) rfl 34 k (0, 0) _ Hrp0.out Tryd.underlying34 rfl hk.info ?_
  simp only [Act.put, List.setIfInBounds_toArray, List.set_cons_succ, List.set_cons_zero]
  refine wpQuiet_load_row rfl 34 _ rfl (w.heap.size + 1) rfl 34 u (0, 0) _ Hrp1.out Tryd.underlying34 rfl hu.info ?_
  simp only [Act.put, List.setIfInBounds_toArray, List.set_cons_succ, List.set_cons_zero]
  go_big_quiet_step (exact cA.re f4)
  refine wpQuiet_load_row rfl 34 _ rfl (w.heap.size) rfl 34 k (0, 0) _ Hrp0.out Tryd.underlying34 rfl hk.info ?_
  simp only [Act.put, List.setIfInBounds_toArray, List.set_cons_succ, List.set_cons_zero]
  refine wpQuiet_load_row rfl 34 _ rfl (w.heap.size + 1) rfl 34 u (0, 0) _ Hrp1.out Tryd.underlying34 rfl hu.info ?_
  simp only [Act.put, List.setIfInBounds_toArray, List.set_cons_succ, List.set_cons_zero]
  go_big_quiet_step (exact cR.re)
  go_big_quiet_step (fail)
  go_big_quiet_step (fail)
  refine wpQuiet_nil ?_
  rintro _ ⟨p, rfl⟩
  have hb := below_regrown w0 p.d p.os
  generalize grow (redrawn w0 p.d) p.os = w1 at *
  replace rp0 := keep hb rp0
  replace rp1 := keep hb rp1
  replace hw := Below.after hw hb
  replace f4 := f4.below hb
  clear hb
  clear Hrp0 Hrp1
  go_wp2
  go_ret
  exact ⟨rfl, hw⟩

end Go.Proofs.YtkogejglfgghmaaDoor


namespace Go.Proofs.YtkogejglfgghmaaDoor
open Go.RowKit Go.Sort
attribute [local go_sem] setCell_drewN alloc_drewN


theorem key_nine : KeyOf #[.int .u8 9, .int .u8 0, .int .u8 0, .int .u8 0, .int .u8 0, .int .u8 0, .int .u8 0, .int .u8 0, .int .u8 0, .int .u8 0, .int .u8 0, .int .u8 0, .int .u8 0, .int .u8 0, .int .u8 0, .int .u8 0, .int .u8 0, .int .u8 0, .int .u8 0, .int .u8 0, .int .u8 0, .int .u8 0, .int .u8 0, .int .u8 0, .int .u8 0, .int .u8 0, .int .u8 0, .int .u8 0, .int .u8 0, .int .u8 0, .int .u8 0, .int .u8 0] 9 := ⟨9, 0, 0, 0, 0, 0, 0, 0, 0, 0, 0, 0, 0, 0, 0, 0, 0, 0, 0, 0, 0, 0, 0, 0, 0, 0, 0, 0, 0, 0, 0, 0, rfl, by decide, rfl⟩
theorem built9 : Tryd.prog.built 34 [(0, .int .u8 9)] = some #[.int .u8 9, .int .u8 0, .int .u8 0, .int .u8 0, .int .u8 0, .int .u8 0, .int .u8 0, .int .u8 0, .int .u8 0, .int .u8 0, .int .u8 0, .int .u8 0, .int .u8 0, .int .u8 0, .int .u8 0, .int .u8 0, .int .u8 0, .int .u8 0, .int .u8 0, .int .u8 0, .int .u8 0, .int .u8 0, .int .u8 0, .int .u8 0, .int .u8 0, .int .u8 0, .int .u8 0, .int .u8 0, .int .u8 0, .int .u8 0, .int .u8 0, .int .u8 0] := by kernel_rfl
theorem built0 : Tryd.prog.built 34 [] = some #[.int .u8 0, .int .u8 0, .int .u8 0, .int .u8 0, .int .u8 0, .int .u8 0, .int .u8 0, .int .u8 0, .int .u8 0, .int .u8 0, .int .u8 0, .int .u8 0, .int .u8 0, .int .u8 0, .int .u8 0, .int .u8 0, .int .u8 0, .int .u8 0, .int .u8 0, .int .u8 0, .int .u8 0, .int .u8 0, .int .u8 0, .int .u8 0, .int .u8 0, .int .u8 0, .int .u8 0, .int .u8 0, .int .u8 0, .int .u8 0, .int .u8 0, .int .u8 0] := by kernel_rfl
theorem zero_kb : #[.int .u8 0, .int .u8 0, .int .u8 0, .int .u8 0, .int .u8 0, .int .u8 0, .int .u8 0, .int .u8 0, .int .u8 0, .int .u8 0, .int .u8 0, .int .u8 0, .int .u8 0, .int .u8 0, .int .u8 0, .int .u8 0, .int .u8 0, .int .u8 0, .int .u8 0, .int .u8 0, .int .u8 0, .int .u8 0, .int .u8 0, .int .u8 0, .int .u8 0, .int .u8 0, .int .u8 0, .int .u8 0, .int .u8 0, .int .u8 0, .int .u8 0, .int .u8 0] = kb 0 := key_kb key_zero
theorem key_zero_eq (q : Int) (h0 : 0 ≤ q) (h1 : q < 115792089237316195423570985008687907853269984665640564039457584007913129639936) (W : World) : (Op.equalIn 10000 34 (.agg (kb q)) (.agg #[.int .u8 0, .int .u8 0, .int .u8 0, .int .u8 0, .int .u8 0, .int .u8 0, .int .u8 0, .int .u8 0, .int .u8 0, .int .u8 0, .int .u8 0, .int .u8 0, .int .u8 0, .int .u8 0, .int .u8 0, .int .u8 0, .int .u8 0, .int .u8 0, .int .u8 0, .int .u8 0, .int .u8 0, .int .u8 0, .int .u8 0, .int .u8 0, .int .u8 0, .int .u8 0, .int .u8 0, .int .u8 0, .int .u8 0, .int .u8 0, .int .u8 0, .int .u8 0])).run Tryd.prog W = .ok (decide (q = 0)) W := by
  rw [zero_kb]; exact kb_equal q 0 h0 h1 (by decide) (by decide) W


set_option maxRecDepth 100000 in
set_option maxHeartbeats 4000000 in
theorem a_public {k : Array Value} {K : Int} (hk : KeyOf k K) : Gives4 21 #[.agg k] (.agg (kb (scl K 9))) := by
  have cA := a_scale hk key_nine
  have hY : KeyOf (kb (scl K 9)) (scl K 9) := kb_key _ (scl_bd K 9).1 (scl_bd K 9).2
  have hz := key_zero
  generalize scl K 9 = Y at *
  intro w hF
  have rp0 : ((w.alloc (.cells k 34)).alloc (.cells #[.int .u8 0, .int .u8 0, .int .u8 0, .int .u8 0, .int .u8 0, .int .u8 0, .int .u8 0, .int .u8 0, .int .u8 0, .int .u8 0, .int .u8 0, .int .u8 0, .int .u8 0, .int .u8 0, .int .u8 0, .int .u8 0, .int .u8 0, .int .u8 0, .int .u8 0, .int .u8 0, .int .u8 0, .int .u8 0, .int .u8 0, .int .u8 0, .int .u8 0, .int .u8 0, .int .u8 0, .int .u8 0, .int .u8 0, .int .u8 0, .int .u8 0, .int .u8 0] 34)).heap[w.heap.size]? = some (.cells k 34 (0, 0)) := hp2_0 w _ _
  have rp1 : ((w.alloc (.cells k 34)).alloc (.cells #[.int .u8 0, .int .u8 0, .int .u8 0, .int .u8 0, .int .u8 0, .int .u8 0, .int .u8 0, .int .u8 0, .int .u8 0, .int .u8 0, .int .u8 0, .int .u8 0, .int .u8 0, .int .u8 0, .int .u8 0, .int .u8 0, .int .u8 0, .int .u8 0, .int .u8 0, .int .u8 0, .int .u8 0, .int .u8 0, .int .u8 0, .int .u8 0, .int .u8 0, .int .u8 0, .int .u8 0, .int .u8 0, .int .u8 0, .int .u8 0, .int .u8 0, .int .u8 0] 34)).heap[w.heap.size + 1]? = some (.cells #[.int .u8 0, .int .u8 0, .int .u8 0, .int .u8 0, .int .u8 0, .int .u8 0, .int .u8 0, .int .u8 0, .int .u8 0, .int .u8 0, .int .u8 0, .int .u8 0, .int .u8 0, .int .u8 0, .int .u8 0, .int .u8 0, .int .u8 0, .int .u8 0, .int .u8 0, .int .u8 0, .int .u8 0, .int .u8 0, .int .u8 0, .int .u8 0, .int .u8 0, .int .u8 0, .int .u8 0, .int .u8 0, .int .u8 0, .int .u8 0, .int .u8 0, .int .u8 0] 34 (0, 0)) := hp2_1 w _ _
  have hw : Below w.heap.size w ((w.alloc (.cells k 34)).alloc (.cells #[.int .u8 0, .int .u8 0, .int .u8 0, .int .u8 0, .int .u8 0, .int .u8 0, .int .u8 0, .int .u8 0, .int .u8 0, .int .u8 0, .int .u8 0, .int .u8 0, .int .u8 0, .int .u8 0, .int .u8 0, .int .u8 0, .int .u8 0, .int .u8 0, .int .u8 0, .int .u8 0, .int .u8 0, .int .u8 0, .int .u8 0, .int .u8 0, .int .u8 0, .int .u8 0, .int .u8 0, .int .u8 0, .int .u8 0, .int .u8 0, .int .u8 0, .int .u8 0] 34)) := (((Below.refl _ _).alloc (Nat.le_refl _) _).alloc (by simp) _)
  have hz0 := hF.1
  have f4 : Four ((w.alloc (.cells k 34)).alloc (.cells #[.int .u8 0, .int .u8 0, .int .u8 0, .int .u8 0, .int .u8 0, .int .u8 0, .int .u8 0, .int .u8 0, .int .u8 0, .int .u8 0, .int .u8 0, .int .u8 0, .int .u8 0, .int .u8 0, .int .u8 0, .int .u8 0, .int .u8 0, .int .u8 0, .int .u8 0, .int .u8 0, .int .u8 0, .int .u8 0, .int .u8 0, .int .u8 0, .int .u8 0, .int .u8 0, .int .u8 0, .int .u8 0, .int .u8 0, .int .u8 0, .int .u8 0, .int .u8 0] 34)) := ((hF.alloc _).alloc _)
  go_enter Tryd.func21, Tryd.ntmps21
  iterate 9 go_step
  generalize ((w.alloc (.cells k 34)).alloc (.cells #[.int .u8 0, .int .u8 0, .int .u8 0, .int .u8 0, .int .u8 0, .int .u8 0, .int .u8 0, .int .u8 0, .int .u8 0, .int .u8 0, .int .u8 0, .int .u8 0, .int .u8 0, .int .u8 0, .int .u8 0, .int .u8 0, .int .u8 0, .int .u8 0, .int .u8 0, .int .u8 0, .int .u8 0, .int .u8 0, .int .u8 0, .int .u8 0, .int .u8 0, .int .u8 0, .int .u8 0, .int .u8 0, .int .u8 0, .int .u8 0, .int .u8 0, .int .u8 0] 34)) = w0 at *
  go_wp2_with (first | (refine wpList_load_want rfl 34 _ rfl (w.heap.size) rfl 34 k (0, 0) _ rp0 Tryd.underlying34 rfl hk.info ?_) | (refine wpList_load_want rfl 34 _ rfl (w.heap.size + 1) rfl 34 #[.int .u8 0, .int .u8 0, .int .u8 0, .int .u8 0, .int .u8 0, .int .u8 0, .int .u8 0, .int .u8 0, .int .u8 0, .int .u8 0, .int .u8 0, .int .u8 0, .int .u8 0, .int .u8 0, .int .u8 0, .int .u8 0, .int .u8 0, .int .u8 0, .int .u8 0, .int .u8 0, .int .u8 0, .int .u8 0, .int .u8 0, .int .u8 0, .int .u8 0, .int .u8 0, .int .u8 0, .int .u8 0, .int .u8 0, .int .u8 0, .int .u8 0, .int .u8 0] (0, 0) _ rp1 Tryd.underlying34 rfl hz.info ?_) | (refine wpList_build_as rfl 34 _ rfl [(0, .int .u8 9)] rfl #[.int .u8 9, .int .u8 0, .int .u8 0, .int .u8 0, .int .u8 0, .int .u8 0, .int .u8 0, .int .u8 0, .int .u8 0, .int .u8 0, .int .u8 0, .int .u8 0, .int .u8 0, .int .u8 0, .int .u8 0, .int .u8 0, .int .u8 0, .int .u8 0, .int .u8 0, .int .u8 0, .int .u8 0, .int .u8 0, .int .u8 0, .int .u8 0, .int .u8 0, .int .u8 0, .int .u8 0, .int .u8 0, .int .u8 0, .int .u8 0, .int .u8 0, .int .u8 0] built9 ?_) | fail)
  refine (cA.at f4).mono ?_
  rintro e w1 ⟨rfl, hb⟩
  replace rp0 := keep hb rp0
  replace rp1 := keep hb rp1
  replace hw := Below.after hw hb
  replace f4 := f4.below hb
  clear hb
  go_wp2_with (first | (refine wpList_store_row rfl 34 _ _ rfl (w.heap.size + 1) (kb Y) rfl rfl 34 _ rp1 hY.info (hz.size.trans hY.size.symm) hY.one ?_) | fail)
  exact bodyPost_ret (v := .agg (kb Y)) (results_cell_row Tryd.results21 _ _ (w.heap.size + 1) _ (kb Y) _ _ rfl (setRow_heap _ _ _ _ _ _ rp1) Tryd.underlying34 rfl hY.info) rfl ⟨rfl, below_setRow hw (by omega) _⟩


set_option maxRecDepth 100000 in
set_option maxHeartbeats 4000000 in
theorem r_nine : Gives 65 #[] (.agg #[.int .u8 9, .int .u8 0, .int .u8 0, .int .u8 0, .int .u8 0, .int .u8 0, .int .u8 0, .int .u8 0, .int .u8 0, .int .u8 0, .int .u8 0, .int .u8 0, .int .u8 0, .int .u8 0, .int .u8 0, .int .u8 0, .int .u8 0, .int .u8 0, .int .u8 0, .int .u8 0, .int .u8 0, .int .u8 0, .int .u8 0, .int .u8 0, .int .u8 0, .int .u8 0, .int .u8 0, .int .u8 0, .int .u8 0, .int .u8 0, .int .u8 0, .int .u8 0]) := by
  intro w
  have r0 := hp2_0 w (.cells #[.int .u8 0, .int .u8 0, .int .u8 0, .int .u8 0, .int .u8 0, .int .u8 0, .int .u8 0, .int .u8 0, .int .u8 0, .int .u8 0, .int .u8 0, .int .u8 0, .int .u8 0, .int .u8 0, .int .u8 0, .int .u8 0, .int .u8 0, .int .u8 0, .int .u8 0, .int .u8 0, .int .u8 0, .int .u8 0, .int .u8 0, .int .u8 0, .int .u8 0, .int .u8 0, .int .u8 0, .int .u8 0, .int .u8 0, .int .u8 0, .int .u8 0, .int .u8 0] 34) (.cells #[.int .u8 0, .int .u8 0, .int .u8 0, .int .u8 0, .int .u8 0, .int .u8 0, .int .u8 0, .int .u8 0, .int .u8 0, .int .u8 0, .int .u8 0, .int .u8 0, .int .u8 0, .int .u8 0, .int .u8 0, .int .u8 0, .int .u8 0, .int .u8 0, .int .u8 0, .int .u8 0, .int .u8 0, .int .u8 0, .int .u8 0, .int .u8 0, .int .u8 0, .int .u8 0, .int .u8 0, .int .u8 0, .int .u8 0, .int .u8 0, .int .u8 0, .int .u8 0] 34)
  have r1 := hp2_1 w (.cells #[.int .u8 0, .int .u8 0, .int .u8 0, .int .u8 0, .int .u8 0, .int .u8 0, .int .u8 0, .int .u8 0, .int .u8 0, .int .u8 0, .int .u8 0, .int .u8 0, .int .u8 0, .int .u8 0, .int .u8 0, .int .u8 0, .int .u8 0, .int .u8 0, .int .u8 0, .int .u8 0, .int .u8 0, .int .u8 0, .int .u8 0, .int .u8 0, .int .u8 0, .int .u8 0, .int .u8 0, .int .u8 0, .int .u8 0, .int .u8 0, .int .u8 0, .int .u8 0] 34) (.cells #[.int .u8 0, .int .u8 0, .int .u8 0, .int .u8 0, .int .u8 0, .int .u8 0, .int .u8 0, .int .u8 0, .int .u8 0, .int .u8 0, .int .u8 0, .int .u8 0, .int .u8 0, .int .u8 0, .int .u8 0, .int .u8 0, .int .u8 0, .int .u8 0, .int .u8 0, .int .u8 0, .int .u8 0, .int .u8 0, .int .u8 0, .int .u8 0, .int .u8 0, .int .u8 0, .int .u8 0, .int .u8 0, .int .u8 0, .int .u8 0, .int .u8 0, .int .u8 0] 34)
  have hw : Below w.heap.size w ((w.alloc (.cells #[.int .u8 0, .int .u8 0, .int .u8 0, .int .u8 0, .int .u8 0, .int .u8 0, .int .u8 0, .int .u8 0, .int .u8 0, .int .u8 0, .int .u8 0, .int .u8 0, .int .u8 0, .int .u8 0, .int .u8 0, .int .u8 0, .int .u8 0, .int .u8 0, .int .u8 0, .int .u8 0, .int .u8 0, .int .u8 0, .int .u8 0, .int .u8 0, .int .u8 0, .int .u8 0, .int .u8 0, .int .u8 0, .int .u8 0, .int .u8 0, .int .u8 0, .int .u8 0] 34)).alloc (.cells #[.int .u8 0, .int .u8 0, .int .u8 0, .int .u8 0, .int .u8 0, .int .u8 0, .int .u8 0, .int .u8 0, .int .u8 0, .int .u8 0, .int .u8 0, .int .u8 0, .int .u8 0, .int .u8 0, .int .u8 0, .int .u8 0, .int .u8 0, .int .u8 0, .int .u8 0, .int .u8 0, .int .u8 0, .int .u8 0, .int .u8 0, .int .u8 0, .int .u8 0, .int .u8 0, .int .u8 0, .int .u8 0, .int .u8 0, .int .u8 0, .int .u8 0, .int .u8 0] 34)) := ((Below.refl _ _).alloc (Nat.le_refl _) _).alloc (by simp) _
  go_enter Tryd.func65, Tryd.ntmps65
  iterate 14 go_step
  generalize ((w.alloc (.cells #[.int .u8 0, .int .u8 0, .int .u8 0, .int .u8 0, .int .u8 0, .int .u8 0, .int .u8 0, .int .u8 0, .int .u8 0, .int .u8 0, .int .u8 0, .int .u8 0, .int .u8 0, .int .u8 0, .int .u8 0, .int .u8 0, .int .u8 0, .int .u8 0, .int .u8 0, .int .u8 0, .int .u8 0, .int .u8 0, .int .u8 0, .int .u8 0, .int .u8 0, .int .u8 0, .int .u8 0, .int .u8 0, .int .u8 0, .int .u8 0, .int .u8 0, .int .u8 0] 34)).alloc (.cells #[.int .u8 0, .int .u8 0, .int .u8 0, .int .u8 0, .int .u8 0, .int .u8 0, .int .u8 0, .int .u8 0, .int .u8 0, .int .u8 0, .int .u8 0, .int .u8 0, .int .u8 0, .int .u8 0, .int .u8 0, .int .u8 0, .int .u8 0, .int .u8 0, .int .u8 0, .int .u8 0, .int .u8 0, .int .u8 0, .int .u8 0, .int .u8 0, .int .u8 0, .int .u8 0, .int .u8 0, .int .u8 0, .int .u8 0, .int .u8 0, .int .u8 0, .int .u8 0] 34)) = w0 at *
  have c0 : w0.cell? ⟨w.heap.size + 1, 0, none⟩ = some (.int .u8 0) := (cell_of_row _ _ _ _ _ _ r1).trans rfl
  have f0 : w0.frozen? ⟨w.heap.size + 1, 0, none⟩ = false := by simp [World.frozen?, r1]
  have R1 : (w0.setCell ⟨w.heap.size + 1, 0, none⟩ (.int .u8 9)).heap[w.heap.size + 1]? = some (.cells #[.int .u8 9, .int .u8 0, .int .u8 0, .int .u8 0, .int .u8 0, .int .u8 0, .int .u8 0, .int .u8 0, .int .u8 0, .int .u8 0, .int .u8 0, .int .u8 0, .int .u8 0, .int .u8 0, .int .u8 0, .int .u8 0, .int .u8 0, .int .u8 0, .int .u8 0, .int .u8 0, .int .u8 0, .int .u8 0, .int .u8 0, .int .u8 0, .int .u8 0, .int .u8 0, .int .u8 0, .int .u8 0, .int .u8 0, .int .u8 0, .int .u8 0, .int .u8 0] 34 (0, 0)) := heap_setCell_same _ _ _ _ _ _ r1
  have R0 : (w0.setCell ⟨w.heap.size + 1, 0, none⟩ (.int .u8 9)).heap[w.heap.size]? = some (.cells #[.int .u8 0, .int .u8 0, .int .u8 0, .int .u8 0, .int .u8 0, .int .u8 0, .int .u8 0, .int .u8 0, .int .u8 0, .int .u8 0, .int .u8 0, .int .u8 0, .int .u8 0, .int .u8 0, .int .u8 0, .int .u8 0, .int .u8 0, .int .u8 0, .int .u8 0, .int .u8 0, .int .u8 0, .int .u8 0, .int .u8 0, .int .u8 0, .int .u8 0, .int .u8 0, .int .u8 0, .int .u8 0, .int .u8 0, .int .u8 0, .int .u8 0, .int .u8 0] 34 (0, 0)) := (heap_setCell_other _ _ _ _ (by simp)).trans r0
  have hw2 : Below w.heap.size w (w0.setCell ⟨w.heap.size + 1, 0, none⟩ (.int .u8 9)) := hw.setCell (Nat.le_succ _) _
  go_wp2_with (first | (refine wpList_load_want rfl 34 _ rfl (w.heap.size + 1) rfl 34 #[.int .u8 9, .int .u8 0, .int .u8 0, .int .u8 0, .int .u8 0, .int .u8 0, .int .u8 0, .int .u8 0, .int .u8 0, .int .u8 0, .int .u8 0, .int .u8 0, .int .u8 0, .int .u8 0, .int .u8 0, .int .u8 0, .int .u8 0, .int .u8 0, .int .u8 0, .int .u8 0, .int .u8 0, .int .u8 0, .int .u8 0, .int .u8 0, .int .u8 0, .int .u8 0, .int .u8 0, .int .u8 0, .int .u8 0, .int .u8 0, .int .u8 0, .int .u8 0] (0, 0) _ R1 Tryd.underlying34 rfl key_nine.info ?_) | (refine wpList_store_row rfl 34 _ _ rfl (w.heap.size) #[.int .u8 9, .int .u8 0, .int .u8 0, .int .u8 0, .int .u8 0, .int .u8 0, .int .u8 0, .int .u8 0, .int .u8 0, .int .u8 0, .int .u8 0, .int .u8 0, .int .u8 0, .int .u8 0, .int .u8 0, .int .u8 0, .int .u8 0, .int .u8 0, .int .u8 0, .int .u8 0, .int .u8 0, .int .u8 0, .int .u8 0, .int .u8 0, .int .u8 0, .int .u8 0, .int .u8 0, .int .u8 0, .int .u8 0, .int .u8 0, .int .u8 0, .int .u8 0] rfl rfl 34 _ R0 key_nine.info rfl key_nine.one ?_) | fail)
  exact bodyPost_ret (v := .agg #[.int .u8 9, .int .u8 0, .int .u8 0, .int .u8 0, .int .u8 0, .int .u8 0, .int .u8 0, .int .u8 0, .int .u8 0, .int .u8 0, .int .u8 0, .int .u8 0, .int .u8 0, .int .u8 0, .int .u8 0, .int .u8 0, .int .u8 0, .int .u8 0, .int .u8 0, .int .u8 0, .int .u8 0, .int .u8 0, .int .u8 0, .int .u8 0, .int .u8 0, .int .u8 0, .int .u8 0, .int .u8 0, .int .u8 0, .int .u8 0, .int .u8 0, .int .u8 0]) (results_cell_row Tryd.results65 _ _ (w.heap.size) _ #[.int .u8 9, .int .u8 0, .int .u8 0, .int .u8 0, .int .u8 0, .int .u8 0, .int .u8 0, .int .u8 0, .int .u8 0, .int .u8 0, .int .u8 0, .int .u8 0, .int .u8 0, .int .u8 0, .int .u8 0, .int .u8 0, .int .u8 0, .int .u8 0, .int .u8 0, .int .u8 0, .int .u8 0, .int .u8 0, .int .u8 0, .int .u8 0, .int .u8 0, .int .u8 0, .int .u8 0, .int .u8 0, .int .u8 0, .int .u8 0, .int .u8 0, .int .u8 0] _ _ rfl (setRow_heap _ _ _ _ _ _ R0) Tryd.underlying34 rfl key_nine.info) rfl ⟨rfl, below_setRow hw2 (Nat.le_refl _) _⟩


set_option maxRecDepth 100000 in
set_option maxHeartbeats 4000000 in
theorem r_public {k : Array Value} {K : Int} (hk : KeyOf k K) : Gives 22 #[.agg k] (.agg (kb (scl K 9))) := by
  have cA := r_scale hk key_nine
  have c9 := r_nine
  have hY : KeyOf (kb (scl K 9)) (scl K 9) := kb_key _ (scl_bd K 9).1 (scl_bd K 9).2
  have hz := key_zero
  generalize scl K 9 = Y at *
  have h9 := key_nine
  intro w
  go_enter Tryd.func22, Tryd.ntmps22
  go_wp2
  have rp0 : ((w.alloc (.cells k 34)).alloc (.cells #[.int .u8 0, .int .u8 0, .int .u8 0, .int .u8 0, .int .u8 0, .int .u8 0, .int .u8 0, .int .u8 0, .int .u8 0, .int .u8 0, .int .u8 0, .int .u8 0, .int .u8 0, .int .u8 0, .int .u8 0, .int .u8 0, .int .u8 0, .int .u8 0, .int .u8 0, .int .u8 0, .int .u8 0, .int .u8 0, .int .u8 0, .int .u8 0, .int .u8 0, .int .u8 0, .int .u8 0, .int .u8 0, .int .u8 0, .int .u8 0, .int .u8 0, .int .u8 0] 34)).heap[w.heap.size]? = some (.cells k 34 (0, 0)) := hp2_0 w _ _
  have rp1 : ((w.alloc (.cells k 34)).alloc (.cells #[.int .u8 0, .int .u8 0, .int .u8 0, .int .u8 0, .int .u8 0, .int .u8 0, .int .u8 0, .int .u8 0, .int .u8 0, .int .u8 0, .int .u8 0, .int .u8 0, .int .u8 0, .int .u8 0, .int .u8 0, .int .u8 0, .int .u8 0, .int .u8 0, .int .u8 0, .int .u8 0, .int .u8 0, .int .u8 0, .int .u8 0, .int .u8 0, .int .u8 0, .int .u8 0, .int .u8 0, .int .u8 0, .int .u8 0, .int .u8 0, .int .u8 0, .int .u8 0] 34)).heap[w.heap.size + 1]? = some (.cells #[.int .u8 0, .int .u8 0, .int .u8 0, .int .u8 0, .int .u8 0, .int .u8 0, .int .u8 0, .int .u8 0, .int .u8 0, .int .u8 0, .int .u8 0, .int .u8 0, .int .u8 0, .int .u8 0, .int .u8 0, .int .u8 0, .int .u8 0, .int .u8 0, .int .u8 0, .int .u8 0, .int .u8 0, .int .u8 0, .int .u8 0, .int .u8 0, .int .u8 0, .int .u8 0, .int .u8 0, .int .u8 0, .int .u8 0, .int .u8 0, .int .u8 0, .int .u8 0] 34 (0, 0)) := hp2_1 w _ _
  have hw : Below w.heap.size w ((w.alloc (.cells k 34)).alloc (.cells #[.int .u8 0, .int .u8 0, .int .u8 0, .int .u8 0, .int .u8 0, .int .u8 0, .int .u8 0, .int .u8 0, .int .u8 0, .int .u8 0, .int .u8 0, .int .u8 0, .int .u8 0, .int .u8 0, .int .u8 0, .int .u8 0, .int .u8 0, .int .u8 0, .int .u8 0, .int .u8 0, .int .u8 0, .int .u8 0, .int .u8 0, .int .u8 0, .int .u8 0, .int .u8 0, .int .u8 0, .int .u8 0, .int .u8 0, .int .u8 0, .int .u8 0, .int .u8 0] 34)) := (((Below.refl _ _).alloc (Nat.le_refl _) _).alloc (by simp) _)
  generalize ((w.alloc (.cells k 34)).alloc (.cells #[.int .u8 0, .int .u8 0, .int .u8 0, .int .u8 0, .int .u8 0, .int .u8 0, .int .u8 0, .int .u8 0, .int .u8 0, .int .u8 0, .int .u8 0, .int .u8 0, .int .u8 0, .int .u8 0, .int .u8 0, .int .u8 0, .int .u8 0, .int .u8 0, .int .u8 0, .int .u8 0, .int .u8 0, .int .u8 0, .int .u8 0, .int .u8 0, .int .u8 0, .int .u8 0, .int .u8 0, .int .u8 0, .int .u8 0, .int .u8 0, .int .u8 0, .int .u8 0] 34)) = w0 at *
  have Hrp0 := keepr rp0
  have Hrp1 := keepr rp1
  refine wp_region_tail (C := fun w' => ∃ p : Regrown, w' = grow (redrawn w0 p.d) p.os) 3 _ rfl rfl rfl (by kernel_rfl) (by kernel_rfl) (by kernel_rfl) (by kernel_rfl) ⟨⟨w0.drawn + 1, #[]⟩, by rw [grow_empty]; rfl⟩ ?_
  dsimp only [List.set, idle]
  refine wpQuiet_load_row rfl 34 _ rfl (w.heap.size) rfl 34 k (0, 0) _ Hrp0.out Tryd.underlying34 rfl hk.info ?_
  simp only [Act.put, List.setIfInBounds_toArray, List.set_cons_succ, List.set_cons_zero]
  go_big_quiet_step (exact c9.re)
  go_big_quiet_step (exact cA.re)
  refine wpQuiet_idle rfl rfl rfl ?_
  rintro _ ⟨p, rfl⟩
  have hb := below_regrown w0 p.d p.os
  generalize grow (redrawn w0 p.d) p.os = w3 at *
  replace rp0 := keep hb rp0
  replace rp1 := keep hb rp1
  replace hw := Below.after hw hb
  clear hb
  clear Hrp0 Hrp1
  go_wp2_with (first | (refine wpList_store_row rfl 34 _ _ rfl (w.heap.size + 1) (kb Y) rfl rfl 34 _ rp1 hY.info (hz.size.trans hY.size.symm) hY.one ?_) | fail)
  exact bodyPost_ret (v := .agg (kb Y)) (results_cell_row Tryd.results22 _ _ (w.heap.size + 1) _ (kb Y) _ _ rfl (setRow_heap _ _ _ _ _ _ rp1) Tryd.underlying34 rfl hY.info) rfl ⟨rfl, below_setRow hw (by omega) _⟩

end Go.Proofs.YtkogejglfgghmaaDoor


namespace Go.Proofs.YtkogejglfgghmaaDoor
open Go.RowKit Go.Sort
attribute [local go_sem] setCell_drewN alloc_drewN


/-- The error beside a shared secret. -/
def weakE (Y : Int) : Int := if Y = 0 then 20 else 0


set_option maxRecDepth 100000 in
set_option maxHeartbeats 4000000 in
theorem a_shared {k u : Array Value} {K U : Int} (hk : KeyOf k K) (hu : KeyOf u U) : Gives4 23 #[.agg k, .agg u] (.tuple #[.agg (kb (scl K U)), .int .i64 (weakE (scl K U))]) := by
  have cA := a_scale hk hu
  have hY : KeyOf (kb (scl K U)) (scl K U) := kb_key _ (scl_bd K U).1 (scl_bd K U).2
  have heq := key_zero_eq (scl K U) (scl_bd K U).1 (scl_bd K U).2
  have hz := key_zero
  generalize scl K U = Y at *
  intro w hF
  by_cases h0 : Y = 0
  · have hE : (Value.tuple #[.agg (kb Y), .int .i64 (weakE Y)]) = .tuple #[.agg #[.int .u8 0, .int .u8 0, .int .u8 0, .int .u8 0, .int .u8 0, .int .u8 0, .int .u8 0, .int .u8 0, .int .u8 0, .int .u8 0, .int .u8 0, .int .u8 0, .int .u8 0, .int .u8 0, .int .u8 0, .int .u8 0, .int .u8 0, .int .u8 0, .int .u8 0, .int .u8 0, .int .u8 0, .int .u8 0, .int .u8 0, .int .u8 0, .int .u8 0, .int .u8 0, .int .u8 0, .int .u8 0, .int .u8 0, .int .u8 0, .int .u8 0, .int .u8 0], .int .i64 20] := by rw [h0, zero_kb]; rfl
    rw [hE]
    rw [decide_eq_true h0] at heq
    clear hE h0
    have rp0 : (((w.alloc (.cells k 34)).alloc (.cells u 34)).alloc (.cells #[.int .u8 0, .int .u8 0, .int .u8 0, .int .u8 0, .int .u8 0, .int .u8 0, .int .u8 0, .int .u8 0, .int .u8 0, .int .u8 0, .int .u8 0, .int .u8 0, .int .u8 0, .int .u8 0, .int .u8 0, .int .u8 0, .int .u8 0, .int .u8 0, .int .u8 0, .int .u8 0, .int .u8 0, .int .u8 0, .int .u8 0, .int .u8 0, .int .u8 0, .int .u8 0, .int .u8 0, .int .u8 0, .int .u8 0, .int .u8 0, .int .u8 0, .int .u8 0] 34)).heap[w.heap.size]? = some (.cells k 34 (0, 0)) := hp3_0 w _ _ _
    have rp1 : (((w.alloc (.cells k 34)).alloc (.cells u 34)).alloc (.cells #[.int .u8 0, .int .u8 0, .int .u8 0, .int .u8 0, .int .u8 0, .int .u8 0, .int .u8 0, .int .u8 0, .int .u8 0, .int .u8 0, .int .u8 0, .int .u8 0, .int .u8 0, .int .u8 0, .int .u8 0, .int .u8 0, .int .u8 0, .int .u8 0, .int .u8 0, .int .u8 0, .int .u8 0, .int .u8 0, .int .u8 0, .int .u8 0, .int .u8 0, .int .u8 0, .int .u8 0, .int .u8 0, .int .u8 0, .int .u8 0, .int .u8 0, .int .u8 0] 34)).heap[w.heap.size + 1]? = some (.cells u 34 (0, 0)) := hp3_1 w _ _ _
    have rp2 : (((w.alloc (.cells k 34)).alloc (.cells u 34)).alloc (.cells #[.int .u8 0, .int .u8 0, .int .u8 0, .int .u8 0, .int .u8 0, .int .u8 0, .int .u8 0, .int .u8 0, .int .u8 0, .int .u8 0, .int .u8 0, .int .u8 0, .int .u8 0, .int .u8 0, .int .u8 0, .int .u8 0, .int .u8 0, .int .u8 0, .int .u8 0, .int .u8 0, .int .u8 0, .int .u8 0, .int .u8 0, .int .u8 0, .int .u8 0, .int .u8 0, .int .u8 0, .int .u8 0, .int .u8 0, .int .u8 0, .int .u8 0, .int .u8 0] 34)).heap[w.heap.size + 1 + 1]? = some (.cells #[.int .u8 0, .int .u8 0, .int .u8 0, .int .u8 0, .int .u8 0, .int .u8 0, .int .u8 0, .int .u8 0, .int .u8 0, .int .u8 0, .int .u8 0, .int .u8 0, .int .u8 0, .int .u8 0, .int .u8 0, .int .u8 0, .int .u8 0, .int .u8 0, .int .u8 0, .int .u8 0, .int .u8 0, .int .u8 0, .int .u8 0, .int .u8 0, .int .u8 0, .int .u8 0, .int .u8 0, .int .u8 0, .int .u8 0, .int .u8 0, .int .u8 0, .int .u8 0] 34 (0, 0)) := hp3_2 w _ _ _
    have hw : Below w.heap.size w (((w.alloc (.cells k 34)).alloc (.cells u 34)).alloc (.cells #[.int .u8 0, .int .u8 0, .int .u8 0, .int .u8 0, .int .u8 0, .int .u8 0, .int .u8 0, .int .u8 0, .int .u8 0, .int .u8 0, .int .u8 0, .int .u8 0, .int .u8 0, .int .u8 0, .int .u8 0, .int .u8 0, .int .u8 0, .int .u8 0, .int .u8 0, .int .u8 0, .int .u8 0, .int .u8 0, .int .u8 0, .int .u8 0, .int .u8 0, .int .u8 0, .int .u8 0, .int .u8 0, .int .u8 0, .int .u8 0, .int .u8 0, .int .u8 0] 34)) := ((((Below.refl _ _).alloc (Nat.le_refl _) _).alloc (by simp) _).alloc (by simp; omega) _)
    have hz0 := hF.1
    have f4 : Four (((w.alloc (.cells k 34)).alloc (.cells u 34)).alloc (.cells #[.int .u8 0, .int .u8 0, .int .u8 0, .int .u8 0, .int .u8 0, .int .u8 0, .int .u8 0, .int .u8 0, .int .u8 0, .int .u8 0, .int .u8 0, .int .u8 0, .int .u8 0, .int .u8 0, .int .u8 0, .int .u8 0, .int .u8 0, .int .u8 0, .int .u8 0, .int .u8 0, .int .u8 0, .int .u8 0, .int .u8 0, .int .u8 0, .int .u8 0, .int .u8 0, .int .u8 0, .int .u8 0, .int .u8 0, .int .u8 0, .int .u8 0, .int .u8 0] 34)) := (((hF.alloc _).alloc _).alloc _)
    go_enter Tryd.func23, Tryd.ntmps23
    iterate 15 go_step
    generalize (((w.alloc (.cells k 34)).alloc (.cells u 34)).alloc (.cells #[.int .u8 0, .int .u8 0, .int .u8 0, .int .u8 0, .int .u8 0, .int .u8 0, .int .u8 0, .int .u8 0, .int .u8 0, .int .u8 0, .int .u8 0, .int .u8 0, .int .u8 0, .int .u8 0, .int .u8 0, .int .u8 0, .int .u8 0, .int .u8 0, .int .u8 0, .int .u8 0, .int .u8 0, .int .u8 0, .int .u8 0, .int .u8 0, .int .u8 0, .int .u8 0, .int .u8 0, .int .u8 0, .int .u8 0, .int .u8 0, .int .u8 0, .int .u8 0] 34)) = w0 at *
    go_wp2_with (first | (refine wpList_load_want rfl 34 _ rfl (w.heap.size) rfl 34 k (0, 0) _ rp0 Tryd.underlying34 rfl hk.info ?_) | (refine wpList_load_want rfl 34 _ rfl (w.heap.size + 1) rfl 34 u (0, 0) _ rp1 Tryd.underlying34 rfl hu.info ?_) | (refine wpList_load_want rfl 34 _ rfl (w.heap.size + 1 + 1) rfl 34 #[.int .u8 0, .int .u8 0, .int .u8 0, .int .u8 0, .int .u8 0, .int .u8 0, .int .u8 0, .int .u8 0, .int .u8 0, .int .u8 0, .int .u8 0, .int .u8 0, .int .u8 0, .int .u8 0, .int .u8 0, .int .u8 0, .int .u8 0, .int .u8 0, .int .u8 0, .int .u8 0, .int .u8 0, .int .u8 0, .int .u8 0, .int .u8 0, .int .u8 0, .int .u8 0, .int .u8 0, .int .u8 0, .int .u8 0, .int .u8 0, .int .u8 0, .int .u8 0] (0, 0) _ rp2 Tryd.underlying34 rfl hz.info ?_) | fail)
    refine (cA.at f4).mono ?_
    rintro e w2 ⟨rfl, hb⟩
    replace rp0 := keep hb rp0
    replace rp1 := keep hb rp1
    replace rp2 := keep hb rp2
    replace hw := Below.after hw hb
    replace f4 := f4.below hb
    clear hb
    have rs : (w2.alloc (.cells (kb Y) 34)).heap[w2.heap.size]? = some (.cells (kb Y) 34 (0, 0)) := hp1_0 w2 _
    have hb : Below w2.heap.size w2 (w2.alloc (.cells (kb Y) 34)) := (Below.refl _ _).alloc (Nat.le_refl _) _
    have rr : (w2.alloc (.cells (kb Y) 34)).heap[w.heap.size + 1 + 1]? = some (.cells #[.int .u8 0, .int .u8 0, .int .u8 0, .int .u8 0, .int .u8 0, .int .u8 0, .int .u8 0, .int .u8 0, .int .u8 0, .int .u8 0, .int .u8 0, .int .u8 0, .int .u8 0, .int .u8 0, .int .u8 0, .int .u8 0, .int .u8 0, .int .u8 0, .int .u8 0, .int .u8 0, .int .u8 0, .int .u8 0, .int .u8 0, .int .u8 0, .int .u8 0, .int .u8 0, .int .u8 0, .int .u8 0, .int .u8 0, .int .u8 0, .int .u8 0, .int .u8 0] 34 (0, 0)) := keep hb rp2
    have hw' := Below.after hw hb
    go_wp2_with (first | (refine wpList_store_row rfl 34 _ _ rfl (w2.heap.size) (kb Y) rfl rfl 34 #[.int .u8 0, .int .u8 0, .int .u8 0, .int .u8 0, .int .u8 0, .int .u8 0, .int .u8 0, .int .u8 0, .int .u8 0, .int .u8 0, .int .u8 0, .int .u8 0, .int .u8 0, .int .u8 0, .int .u8 0, .int .u8 0, .int .u8 0, .int .u8 0, .int .u8 0, .int .u8 0, .int .u8 0, .int .u8 0, .int .u8 0, .int .u8 0, .int .u8 0, .int .u8 0, .int .u8 0, .int .u8 0, .int .u8 0, .int .u8 0, .int .u8 0, .int .u8 0] (hp1_0 w2 _) hY.info (hz.size.trans hY.size.symm) hY.one ?_; rw [setRow_alloc_new _ _ _ _ _ _ rfl]) | (refine wpList_load_want rfl 34 _ rfl (w2.heap.size) rfl 34 (kb Y) (0, 0) _ rs Tryd.underlying34 rfl hY.info ?_) | (refine wpList_build_as rfl 34 _ rfl [] rfl #[.int .u8 0, .int .u8 0, .int .u8 0, .int .u8 0, .int .u8 0, .int .u8 0, .int .u8 0, .int .u8 0, .int .u8 0, .int .u8 0, .int .u8 0, .int .u8 0, .int .u8 0, .int .u8 0, .int .u8 0, .int .u8 0, .int .u8 0, .int .u8 0, .int .u8 0, .int .u8 0, .int .u8 0, .int .u8 0, .int .u8 0, .int .u8 0, .int .u8 0, .int .u8 0, .int .u8 0, .int .u8 0, .int .u8 0, .int .u8 0, .int .u8 0, .int .u8 0] built0 ?_) | (refine wpList_store_row rfl 34 _ _ rfl (w.heap.size + 1 + 1) #[.int .u8 0, .int .u8 0, .int .u8 0, .int .u8 0, .int .u8 0, .int .u8 0, .int .u8 0, .int .u8 0, .int .u8 0, .int .u8 0, .int .u8 0, .int .u8 0, .int .u8 0, .int .u8 0, .int .u8 0, .int .u8 0, .int .u8 0, .int .u8 0, .int .u8 0, .int .u8 0, .int .u8 0, .int .u8 0, .int .u8 0, .int .u8 0, .int .u8 0, .int .u8 0, .int .u8 0, .int .u8 0, .int .u8 0, .int .u8 0, .int .u8 0, .int .u8 0] rfl rfl 34 _ rr hz.info rfl hz.one ?_) | fail)
    exact bodyPost_ret (v := .tuple #[.agg #[.int .u8 0, .int .u8 0, .int .u8 0, .int .u8 0, .int .u8 0, .int .u8 0, .int .u8 0, .int .u8 0, .int .u8 0, .int .u8 0, .int .u8 0, .int .u8 0, .int .u8 0, .int .u8 0, .int .u8 0, .int .u8 0, .int .u8 0, .int .u8 0, .int .u8 0, .int .u8 0, .int .u8 0, .int .u8 0, .int .u8 0, .int .u8 0, .int .u8 0, .int .u8 0, .int .u8 0, .int .u8 0, .int .u8 0, .int .u8 0, .int .u8 0, .int .u8 0], .int .i64 20]) (results_row_slot Tryd.results23 _ _ (w.heap.size + 1 + 1) _ #[.int .u8 0, .int .u8 0, .int .u8 0, .int .u8 0, .int .u8 0, .int .u8 0, .int .u8 0, .int .u8 0, .int .u8 0, .int .u8 0, .int .u8 0, .int .u8 0, .int .u8 0, .int .u8 0, .int .u8 0, .int .u8 0, .int .u8 0, .int .u8 0, .int .u8 0, .int .u8 0, .int .u8 0, .int .u8 0, .int .u8 0, .int .u8 0, .int .u8 0, .int .u8 0, .int .u8 0, .int .u8 0, .int .u8 0, .int .u8 0, .int .u8 0, .int .u8 0] _ _ (.int .i64 20) rfl (setRow_heap _ _ _ _ _ _ rr) rfl Tryd.underlying34 rfl hz.info) rfl ⟨rfl, below_setRow hw' (by omega) _⟩
  · have hE : weakE Y = 0 := if_neg h0
    rw [hE]
    rw [decide_eq_false h0] at heq
    clear hE h0
    have rp0 : (((w.alloc (.cells k 34)).alloc (.cells u 34)).alloc (.cells #[.int .u8 0, .int .u8 0, .int .u8 0, .int .u8 0, .int .u8 0, .int .u8 0, .int .u8 0, .int .u8 0, .int .u8 0, .int .u8 0, .int .u8 0, .int .u8 0, .int .u8 0, .int .u8 0, .int .u8 0, .int .u8 0, .int .u8 0, .int .u8 0, .int .u8 0, .int .u8 0, .int .u8 0, .int .u8 0, .int .u8 0, .int .u8 0, .int .u8 0, .int .u8 0, .int .u8 0, .int .u8 0, .int .u8 0, .int .u8 0, .int .u8 0, .int .u8 0] 34)).heap[w.heap.size]? = some (.cells k 34 (0, 0)) := hp3_0 w _ _ _
    have rp1 : (((w.alloc (.cells k 34)).alloc (.cells u 34)).alloc (.cells #[.int .u8 0, .int .u8 0, .int .u8 0, .int .u8 0, .int .u8 0, .int .u8 0, .int .u8 0, .int .u8 0, .int .u8 0, .int .u8 0, .int .u8 0, .int .u8 0, .int .u8 0, .int .u8 0, .int .u8 0, .int .u8 0, .int .u8 0, .int .u8 0, .int .u8 0, .int .u8 0, .int .u8 0, .int .u8 0, .int .u8 0, .int .u8 0, .int .u8 0, .int .u8 0, .int .u8 0, .int .u8 0, .int .u8 0, .int .u8 0, .int .u8 0, .int .u8 0] 34)).heap[w.heap.size + 1]? = some (.cells u 34 (0, 0)) := hp3_1 w _ _ _
    have rp2 : (((w.alloc (.cells k 34)).alloc (.cells u 34)).alloc (.cells #[.int .u8 0, .int .u8 0, .int .u8 0, .int .u8 0, .int .u8 0, .int .u8 0, .int .u8 0, .int .u8 0, .int .u8 0, .int .u8 0, .int .u8 0, .int .u8 0, .int .u8 0, .int .u8 0, .int .u8 0, .int .u8 0, .int .u8 0, .int .u8 0, .int .u8 0, .int .u8 0, .int .u8 0, .int .u8 0, .int .u8 0, .int .u8 0, .int .u8 0, .int .u8 0, .int .u8 0, .int .u8 0, .int .u8 0, .int .u8 0, .int .u8 0, .int .u8 0] 34)).heap[w.heap.size + 1 + 1]? = some (.cells #[.int .u8 0, .int .u8 0, .int .u8 0, .int .u8 0, .int .u8 0, .int .u8 0, .int .u8 0, .int .u8 0, .int .u8 0, .int .u8 0, .int .u8 0, .int .u8 0, .int .u8 0, .int .u8 0, .int .u8 0, .int .u8 0, .int .u8 0, .int .u8 0, .int .u8 0, .int .u8 0, .int .u8 0, .int .u8 0, .int .u8 0, .int .u8 0, .int .u8 0, .int .u8 0, .int .u8 0, .int .u8 0, .int .u8 0, .int .u8 0, .int .u8 0, .int .u8 0] 34 (0, 0)) := hp3_2 w _ _ _
    have hw : Below w.heap.size w (((w.alloc (.cells k 34)).alloc (.cells u 34)).alloc (.cells #[.int .u8 0, .int .u8 0, .int .u8 0, .int .u8 0, .int .u8 0, .int .u8 0, .int .u8 0, .int .u8 0, .int .u8 0, .int .u8 0, .int .u8 0, .int .u8 0, .int .u8 0, .int .u8 0, .int .u8 0, .int .u8 0, .int .u8 0, .int .u8 0, .int .u8 0, .int .u8 0, .int .u8 0, .int .u8 0, .int .u8 0, .int .u8 0, .int .u8 0, .int .u8 0, .int .u8 0, .int .u8 0, .int .u8 0, .int .u8 0, .int .u8 0, .int .u8 0] 34)) := ((((Below.refl _ _).alloc (Nat.le_refl _) _).alloc (by simp) _).alloc (by simp; omega) _)
    have hz0 := hF.1
    have f4 : Four (((w.alloc (.cells k 34)).alloc (.cells u 34)).alloc (.cells #[.int .u8 0, .int .u8 0, .int .u8 0, .int .u8 0, .int .u8 0, .int .u8 0, .int .u8 0, .int .u8 0, .int .u8 0, .int .u8 0, .int .u8 0, .int .u8 0, .int .u8 0, .int .u8 0, .int .u8 0, .int .u8 0, .int .u8 0, .int .u8 0, .int .u8 0, .int .u8 0, .int .u8 0, .int .u8 0, .int .u8 0, .int .u8 0, .int .u8 0, .int .u8 0, .int .u8 0, .int .u8 0, .int .u8 0, .int .u8 0, .int .u8 0, .int .u8 0] 34)) := (((hF.alloc _).alloc _).alloc _)
    go_enter Tryd.func23, Tryd.ntmps23
    iterate 15 go_step
    generalize (((w.alloc (.cells k 34)).alloc (.cells u 34)).alloc (.cells #[.int .u8 0, .int .u8 0, .int .u8 0, .int .u8 0, .int .u8 0, .int .u8 0, .int .u8 0, .int .u8 0, .int .u8 0, .int .u8 0, .int .u8 0, .int .u8 0, .int .u8 0, .int .u8 0, .int .u8 0, .int .u8 0, .int .u8 0, .int .u8 0, .int .u8 0, .int .u8 0, .int .u8 0, .int .u8 0, .int .u8 0, .int .u8 0, .int .u8 0, .int .u8 0, .int .u8 0, .int .u8 0, .int .u8 0, .int .u8 0, .int .u8 0, .int .u8 0] 34)) = w0 at *
    go_wp2_with (first | (refine wpList_load_want rfl 34 _ rfl (w.heap.size) rfl 34 k (0, 0) _ rp0 Tryd.underlying34 rfl hk.info ?_) | (refine wpList_load_want rfl 34 _ rfl (w.heap.size + 1) rfl 34 u (0, 0) _ rp1 Tryd.underlying34 rfl hu.info ?_) | (refine wpList_load_want rfl 34 _ rfl (w.heap.size + 1 + 1) rfl 34 #[.int .u8 0, .int .u8 0, .int .u8 0, .int .u8 0, .int .u8 0, .int .u8 0, .int .u8 0, .int .u8 0, .int .u8 0, .int .u8 0, .int .u8 0, .int .u8 0, .int .u8 0, .int .u8 0, .int .u8 0, .int .u8 0, .int .u8 0, .int .u8 0, .int .u8 0, .int .u8 0, .int .u8 0, .int .u8 0, .int .u8 0, .int .u8 0, .int .u8 0, .int .u8 0, .int .u8 0, .int .u8 0, .int .u8 0, .int .u8 0, .int .u8 0, .int .u8 0] (0, 0) _ rp2 Tryd.underlying34 rfl hz.info ?_) | fail)
    refine (cA.at f4).mono ?_
    rintro e w2 ⟨rfl, hb⟩
    replace rp0 := keep hb rp0
    replace rp1 := keep hb rp1
    replace rp2 := keep hb rp2
    replace hw := Below.after hw hb
    replace f4 := f4.below hb
    clear hb
    have rs : (w2.alloc (.cells (kb Y) 34)).heap[w2.heap.size]? = some (.cells (kb Y) 34 (0, 0)) := hp1_0 w2 _
    have hb : Below w2.heap.size w2 (w2.alloc (.cells (kb Y) 34)) := (Below.refl _ _).alloc (Nat.le_refl _) _
    have rr : (w2.alloc (.cells (kb Y) 34)).heap[w.heap.size + 1 + 1]? = some (.cells #[.int .u8 0, .int .u8 0, .int .u8 0, .int .u8 0, .int .u8 0, .int .u8 0, .int .u8 0, .int .u8 0, .int .u8 0, .int .u8 0, .int .u8 0, .int .u8 0, .int .u8 0, .int .u8 0, .int .u8 0, .int .u8 0, .int .u8 0, .int .u8 0, .int .u8 0, .int .u8 0, .int .u8 0, .int .u8 0, .int .u8 0, .int .u8 0, .int .u8 0, .int .u8 0, .int .u8 0, .int .u8 0, .int .u8 0, .int .u8 0, .int .u8 0, .int .u8 0] 34 (0, 0)) := keep hb rp2
    have hw' := Below.after hw hb
    go_wp2_with (first | (refine wpList_store_row rfl 34 _ _ rfl (w2.heap.size) (kb Y) rfl rfl 34 #[.int .u8 0, .int .u8 0, .int .u8 0, .int .u8 0, .int .u8 0, .int .u8 0, .int .u8 0, .int .u8 0, .int .u8 0, .int .u8 0, .int .u8 0, .int .u8 0, .int .u8 0, .int .u8 0, .int .u8 0, .int .u8 0, .int .u8 0, .int .u8 0, .int .u8 0, .int .u8 0, .int .u8 0, .int .u8 0, .int .u8 0, .int .u8 0, .int .u8 0, .int .u8 0, .int .u8 0, .int .u8 0, .int .u8 0, .int .u8 0, .int .u8 0, .int .u8 0] (hp1_0 w2 _) hY.info (hz.size.trans hY.size.symm) hY.one ?_; rw [setRow_alloc_new _ _ _ _ _ _ rfl]) | (refine wpList_load_want rfl 34 _ rfl (w2.heap.size) rfl 34 (kb Y) (0, 0) _ rs Tryd.underlying34 rfl hY.info ?_) | (refine wpList_build_as rfl 34 _ rfl [] rfl #[.int .u8 0, .int .u8 0, .int .u8 0, .int .u8 0, .int .u8 0, .int .u8 0, .int .u8 0, .int .u8 0, .int .u8 0, .int .u8 0, .int .u8 0, .int .u8 0, .int .u8 0, .int .u8 0, .int .u8 0, .int .u8 0, .int .u8 0, .int .u8 0, .int .u8 0, .int .u8 0, .int .u8 0, .int .u8 0, .int .u8 0, .int .u8 0, .int .u8 0, .int .u8 0, .int .u8 0, .int .u8 0, .int .u8 0, .int .u8 0, .int .u8 0, .int .u8 0] built0 ?_) | (refine wpList_store_row rfl 34 _ _ rfl (w.heap.size + 1 + 1) (kb Y) rfl rfl 34 _ rr hY.info (hz.size.trans hY.size.symm) hY.one ?_) | fail)
    exact bodyPost_ret (v := .tuple #[.agg (kb Y), .int .i64 0]) (results_row_slot Tryd.results23 _ _ (w.heap.size + 1 + 1) _ (kb Y) _ _ (.int .i64 0) rfl (setRow_heap _ _ _ _ _ _ rr) rfl Tryd.underlying34 rfl hY.info) rfl ⟨rfl, below_setRow hw' (by omega) _⟩


set_option maxRecDepth 100000 in
set_option maxHeartbeats 4000000 in
theorem r_shared {k u : Array Value} {K U : Int} (hk : KeyOf k K) (hu : KeyOf u U) : Gives 24 #[.agg k, .agg u] (.tuple #[.agg (kb (scl K U)), .int .i64 (weakE (scl K U))]) := by
  have cA := r_scale hk hu
  have hY : KeyOf (kb (scl K U)) (scl K U) := kb_key _ (scl_bd K U).1 (scl_bd K U).2
  have heq := key_zero_eq (scl K U) (scl_bd K U).1 (scl_bd K U).2
  have hz := key_zero
  generalize scl K U = Y at *
  intro w
  by_cases h0 : Y = 0
  · have hE : (Value.tuple #[.agg (kb Y), .int .i64 (weakE Y)]) = .tuple #[.agg #[.int .u8 0, .int .u8 0, .int .u8 0, .int .u8 0, .int .u8 0, .int .u8 0, .int .u8 0, .int .u8 0, .int .u8 0, .int .u8 0, .int .u8 0, .int .u8 0, .int .u8 0, .int .u8 0, .int .u8 0, .int .u8 0, .int .u8 0, .int .u8 0, .int .u8 0, .int .u8 0, .int .u8 0, .int .u8 0, .int .u8 0, .int .u8 0, .int .u8 0, .int .u8 0, .int .u8 0, .int .u8 0, .int .u8 0, .int .u8 0, .int .u8 0, .int .u8 0], .int .i64 20] := by rw [h0, zero_kb]; rfl
    rw [hE]
    rw [decide_eq_true h0] at heq
    clear hE h0
    have rp0 : (((w.alloc (.cells k 34)).alloc (.cells u 34)).alloc (.cells #[.int .u8 0, .int .u8 0, .int .u8 0, .int .u8 0, .int .u8 0, .int .u8 0, .int .u8 0, .int .u8 0, .int .u8 0, .int .u8 0, .int .u8 0, .int .u8 0, .int .u8 0, .int .u8 0, .int .u8 0, .int .u8 0, .int .u8 0, .int .u8 0, .int .u8 0, .int .u8 0, .int .u8 0, .int .u8 0, .int .u8 0, .int .u8 0, .int .u8 0, .int .u8 0, .int .u8 0, .int .u8 0, .int .u8 0, .int .u8 0, .int .u8 0, .int .u8 0] 34)).heap[w.heap.size]? = some (.cells k 34 (0, 0)) := hp3_0 w _ _ _
    have rp1 : (((w.alloc (.cells k 34)).alloc (.cells u 34)).alloc (.cells #[.int .u8 0, .int .u8 0, .int .u8 0, .int .u8 0, .int .u8 0, .int .u8 0, .int .u8 0, .int .u8 0, .int .u8 0, .int .u8 0, .int .u8 0, .int .u8 0, .int .u8 0, .int .u8 0, .int .u8 0, .int .u8 0, .int .u8 0, .int .u8 0, .int .u8 0, .int .u8 0, .int .u8 0, .int .u8 0, .int .u8 0, .int .u8 0, .int .u8 0, .int .u8 0, .int .u8 0, .int .u8 0, .int .u8 0, .int .u8 0, .int .u8 0, .int .u8 0] 34)).heap[w.heap.size + 1]? = some (.cells u 34 (0, 0)) := hp3_1 w _ _ _
    have rp2 : (((w.alloc (.cells k 34)).alloc (.cells u 34)).alloc (.cells #[.int .u8 0, .int .u8 0, .int .u8 0, .int .u8 0, .int .u8 0, .int .u8 0, .int .u8 0, .int .u8 0, .int .u8 0, .int .u8 0, .int .u8 0, .int .u8 0, .int .u8 0, .int .u8 0, .int .u8 0, .int .u8 0, .int .u8 0, .int .u8 0, .int .u8 0, .int .u8 0, .int .u8 0, .int .u8 0, .int .u8 0, .int .u8 0, .int .u8 0, .int .u8 0, .int .u8 0, .int .u8 0, .int .u8 0, .int .u8 0, .int .u8 0, .int .u8 0] 34)).heap[w.heap.size + 1 + 1]? = some (.cells #[.int .u8 0, .int .u8 0, .int .u8 0, .int .u8 0, .int .u8 0, .int .u8 0, .int .u8 0, .int .u8 0, .int .u8 0, .int .u8 0, .int .u8 0, .int .u8 0, .int .u8 0, .int .u8 0, .int .u8 0, .int .u8 0, .int .u8 0, .int .u8 0, .int .u8 0, .int .u8 0, .int .u8 0, .int .u8 0, .int .u8 0, .int .u8 0, .int .u8 0, .int .u8 0, .int .u8 0, .int .u8 0, .int .u8 0, .int .u8 0, .int .u8 0, .int .u8 0] 34 (0, 0)) := hp3_2 w _ _ _
    have hw : Below w.heap.size w (((w.alloc (.cells k 34)).alloc (.cells u 34)).alloc (.cells #[.int .u8 0, .int .u8 0, .int .u8 0, .int .u8 0, .int .u8 0, .int .u8 0, .int .u8 0, .int .u8 0, .int .u8 0, .int .u8 0, .int .u8 0, .int .u8 0, .int .u8 0, .int .u8 0, .int .u8 0, .int .u8 0, .int .u8 0, .int .u8 0, .int .u8 0, .int .u8 0, .int .u8 0, .int .u8 0, .int .u8 0, .int .u8 0, .int .u8 0, .int .u8 0, .int .u8 0, .int .u8 0, .int .u8 0, .int .u8 0, .int .u8 0, .int .u8 0] 34)) := ((((Below.refl _ _).alloc (Nat.le_refl _) _).alloc (by simp) _).alloc (by simp; omega) _)
    go_enter Tryd.func24, Tryd.ntmps24
    iterate 15 go_step
    generalize (((w.alloc (.cells k 34)).alloc (.cells u 34)).alloc (.cells #[.int .u8 0, .int .u8 0, .int .u8 0, .int .u8 0, .int .u8 0, .int .u8 0, .int .u8 0, .int .u8 0, .int .u8 0, .int .u8 0, .int .u8 0, .int .u8 0, .int .u8 0, .int .u8 0, .int .u8 0, .int .u8 0, .int .u8 0, .int .u8 0, .int .u8 0, .int .u8 0, .int .u8 0, .int .u8 0, .int .u8 0, .int .u8 0, .int .u8 0, .int .u8 0, .int .u8 0, .int .u8 0, .int .u8 0, .int .u8 0, .int .u8 0, .int .u8 0] 34)) = w0 at *
    go_wp2_with (first | (refine wpList_load_want rfl 34 _ rfl (w.heap.size) rfl 34 k (0, 0) _ rp0 Tryd.underlying34 rfl hk.info ?_) | (refine wpList_load_want rfl 34 _ rfl (w.heap.size + 1) rfl 34 u (0, 0) _ rp1 Tryd.underlying34 rfl hu.info ?_) | (refine wpList_load_want rfl 34 _ rfl (w.heap.size + 1 + 1) rfl 34 #[.int .u8 0, .int .u8 0, .int .u8 0, .int .u8 0, .int .u8 0, .int .u8 0, .int .u8 0, .int .u8 0, .int .u8 0, .int .u8 0, .int .u8 0, .int .u8 0, .int .u8 0, .int .u8 0, .int .u8 0, .int .u8 0, .int .u8 0, .int .u8 0, .int .u8 0, .int .u8 0, .int .u8 0, .int .u8 0, .int .u8 0, .int .u8 0, .int .u8 0, .int .u8 0, .int .u8 0, .int .u8 0, .int .u8 0, .int .u8 0, .int .u8 0, .int .u8 0] (0, 0) _ rp2 Tryd.underlying34 rfl hz.info ?_) | fail)
    refine (cA.at _).mono ?_
    rintro e w2 ⟨rfl, hb⟩
    replace rp0 := keep hb rp0
    replace rp1 := keep hb rp1
    replace rp2 := keep hb rp2
    replace hw := Below.after hw hb
    clear hb
    have rs : (w2.alloc (.cells (kb Y) 34)).heap[w2.heap.size]? = some (.cells (kb Y) 34 (0, 0)) := hp1_0 w2 _
    have hb : Below w2.heap.size w2 (w2.alloc (.cells (kb Y) 34)) := (Below.refl _ _).alloc (Nat.le_refl _) _
    have rr : (w2.alloc (.cells (kb Y) 34)).heap[w.heap.size + 1 + 1]? = some (.cells #[.int .u8 0, .int .u8 0, .int .u8 0, .int .u8 0, .int .u8 0, .int .u8 0, .int .u8 0, .int .u8 0, .int .u8 0, .int .u8 0, .int .u8 0, .int .u8 0, .int .u8 0, .int .u8 0, .int .u8 0, .int .u8 0, .int .u8 0, .int .u8 0, .int .u8 0, .int .u8 0, .int .u8 0, .int .u8 0, .int .u8 0, .int .u8 0, .int .u8 0, .int .u8 0, .int .u8 0, .int .u8 0, .int .u8 0, .int .u8 0, .int .u8 0, .int .u8 0] 34 (0, 0)) := keep hb rp2
    have hw' := Below.after hw hb
    go_wp2_with (first | (refine wpList_store_row rfl 34 _ _ rfl (w2.heap.size) (kb Y) rfl rfl 34 #[.int .u8 0, .int .u8 0, .int .u8 0, .int .u8 0, .int .u8 0, .int .u8 0, .int .u8 0, .int .u8 0, .int .u8 0, .int .u8 0, .int .u8 0, .int .u8 0, .int .u8 0, .int .u8 0, .int .u8 0, .int .u8 0, .int .u8 0, .int .u8 0, .int .u8 0, .int .u8 0, .int .u8 0, .int .u8 0, .int .u8 0, .int .u8 0, .int .u8 0, .int .u8 0, .int .u8 0, .int .u8 0, .int .u8 0, .int .u8 0, .int .u8 0, .int .u8 0] (hp1_0 w2 _) hY.info (hz.size.trans hY.size.symm) hY.one ?_; rw [setRow_alloc_new _ _ _ _ _ _ rfl]) | (refine wpList_load_want rfl 34 _ rfl (w2.heap.size) rfl 34 (kb Y) (0, 0) _ rs Tryd.underlying34 rfl hY.info ?_) | (refine wpList_build_as rfl 34 _ rfl [] rfl #[.int .u8 0, .int .u8 0, .int .u8 0, .int .u8 0, .int .u8 0, .int .u8 0, .int .u8 0, .int .u8 0, .int .u8 0, .int .u8 0, .int .u8 0, .int .u8 0, .int .u8 0, .int .u8 0, .int .u8 0, .int .u8 0, .int .u8 0, .int .u8 0, .int .u8 0, .int .u8 0, .int .u8 0, .int .u8 0, .int .u8 0, .int .u8 0, .int .u8 0, .int .u8 0, .int .u8 0, .int .u8 0, .int .u8 0, .int .u8 0, .int .u8 0, .int .u8 0] built0 ?_) | (refine wpList_store_row rfl 34 _ _ rfl (w.heap.size + 1 + 1) #[.int .u8 0, .int .u8 0, .int .u8 0, .int .u8 0, .int .u8 0, .int .u8 0, .int .u8 0, .int .u8 0, .int .u8 0, .int .u8 0, .int .u8 0, .int .u8 0, .int .u8 0, .int .u8 0, .int .u8 0, .int .u8 0, .int .u8 0, .int .u8 0, .int .u8 0, .int .u8 0, .int .u8 0, .int .u8 0, .int .u8 0, .int .u8 0, .int .u8 0, .int .u8 0, .int .u8 0, .int .u8 0, .int .u8 0, .int .u8 0, .int .u8 0, .int .u8 0] rfl rfl 34 _ rr hz.info rfl hz.one ?_) | fail)
    exact bodyPost_ret (v := .tuple #[.agg #[.int .u8 0, .int .u8 0, .int .u8 0, .int .u8 0, .int .u8 0, .int .u8 0, .int .u8 0, .int .u8 0, .int .u8 0, .int .u8 0, .int .u8 0, .int .u8 0, .int .u8 0, .int .u8 0, .int .u8 0, .int .u8 0, .int .u8 0, .int .u8 0, .int .u8 0, .int .u8 0, .int .u8 0, .int .u8 0, .int .u8 0, .int .u8 0, .int .u8 0, .int .u8 0, .int .u8 0, .int .u8 0, .int .u8 0, .int .u8 0, .int .u8 0, .int .u8 0], .int .i64 20]) (results_row_slot Tryd.results24 _ _ (w.heap.size + 1 + 1) _ #[.int .u8 0, .int .u8 0, .int .u8 0, .int .u8 0, .int .u8 0, .int .u8 0, .int .u8 0, .int .u8 0, .int .u8 0, .int .u8 0, .int .u8 0, .int .u8 0, .int .u8 0, .int .u8 0, .int .u8 0, .int .u8 0, .int .u8 0, .int .u8 0, .int .u8 0, .int .u8 0, .int .u8 0, .int .u8 0, .int .u8 0, .int .u8 0, .int .u8 0, .int .u8 0, .int .u8 0, .int .u8 0, .int .u8 0, .int .u8 0, .int .u8 0, .int .u8 0] _ _ (.int .i64 20) rfl (setRow_heap _ _ _ _ _ _ rr) rfl Tryd.underlying34 rfl hz.info) rfl ⟨rfl, below_setRow hw' (by omega) _⟩
  · have hE : weakE Y = 0 := if_neg h0
    rw [hE]
    rw [decide_eq_false h0] at heq
    clear hE h0
    have rp0 : (((w.alloc (.cells k 34)).alloc (.cells u 34)).alloc (.cells #[.int .u8 0, .int .u8 0, .int .u8 0, .int .u8 0, .int .u8 0, .int .u8 0, .int .u8 0, .int .u8 0, .int .u8 0, .int .u8 0, .int .u8 0, .int .u8 0, .int .u8 0, .int .u8 0, .int .u8 0, .int .u8 0, .int .u8 0, .int .u8 0, .int .u8 0, .int .u8 0, .int .u8 0, .int .u8 0, .int .u8 0, .int .u8 0, .int .u8 0, .int .u8 0, .int .u8 0, .int .u8 0, .int .u8 0, .int .u8 0, .int .u8 0, .int .u8 0] 34)).heap[w.heap.size]? = some (.cells k 34 (0, 0)) := hp3_0 w _ _ _
    have rp1 : (((w.alloc (.cells k 34)).alloc (.cells u 34)).alloc (.cells #[.int .u8 0, .int .u8 0, .int .u8 0, .int .u8 0, .int .u8 0, .int .u8 0, .int .u8 0, .int .u8 0, .int .u8 0, .int .u8 0, .int .u8 0, .int .u8 0, .int .u8 0, .int .u8 0, .int .u8 0, .int .u8 0, .int .u8 0, .int .u8 0, .int .u8 0, .int .u8 0, .int .u8 0, .int .u8 0, .int .u8 0, .int .u8 0, .int .u8 0, .int .u8 0, .int .u8 0, .int .u8 0, .int .u8 0, .int .u8 0, .int .u8 0, .int .u8 0] 34)).heap[w.heap.size + 1]? = some (.cells u 34 (0, 0)) := hp3_1 w _ _ _
    have rp2 : (((w.alloc (.cells k 34)).alloc (.cells u 34)).alloc (.cells #[.int .u8 0, .int .u8 0, .int .u8 0, .int .u8 0, .int .u8 0, .int .u8 0, .int .u8 0, .int .u8 0, .int .u8 0, .int .u8 0, .int .u8 0, .int .u8 0, .int .u8 0, .int .u8 0, .int .u8 0, .int .u8 0, .int .u8 0, .int .u8 0, .int .u8 0, .int .u8 0, .int .u8 0, .int .u8 0, .int .u8 0, .int .u8 0, .int .u8 0, .int .u8 0, .int .u8 0, .int .u8 0, .int .u8 0, .int .u8 0, .int .u8 0, .int .u8 0] 34)).heap[w.heap.size + 1 + 1]? = some (.cells #[.int .u8 0, .int .u8 0, .int .u8 0, .int .u8 0, .int .u8 0, .int .u8 0, .int .u8 0, .int .u8 0, .int .u8 0, .int .u8 0, .int .u8 0, .int .u8 0, .int .u8 0, .int .u8 0, .int .u8 0, .int .u8 0, .int .u8 0, .int .u8 0, .int .u8 0, .int .u8 0, .int .u8 0, .int .u8 0, .int .u8 0, .int .u8 0, .int .u8 0, .int .u8 0, .int .u8 0, .int .u8 0, .int .u8 0, .int .u8 0, .int .u8 0, .int .u8 0] 34 (0, 0)) := hp3_2 w _ _ _
    have hw : Below w.heap.size w (((w.alloc (.cells k 34)).alloc (.cells u 34)).alloc (.cells #[.int .u8 0, .int .u8 0, .int .u8 0, .int .u8 0, .int .u8 0, .int .u8 0, .int .u8 0, .int .u8 0, .int .u8 0, .int .u8 0, .int .u8 0, .int .u8 0, .int .u8 0, .int .u8 0, .int .u8 0, .int .u8 0, .int .u8 0, .int .u8 0, .int .u8 0, .int .u8 0, .int .u8 0, .int .u8 0, .int .u8 0, .int .u8 0, .int .u8 0, .int .u8 0, .int .u8 0, .int .u8 0, .int .u8 0, .int .u8 0, .int .u8 0, .int .u8 0] 34)) := ((((Below.refl _ _).alloc (Nat.le_refl _) _).alloc (by simp) _).alloc (by simp; omega) _)
    go_enter Tryd.func24, Tryd.ntmps24
    iterate 15 go_step
    generalize (((w.alloc (.cells k 34)).alloc (.cells u 34)).alloc (.cells #[.int .u8 0, .int .u8 0, .int .u8 0, .int .u8 0, .int .u8 0, .int .u8 0, .int .u8 0, .int .u8 0, .int .u8 0, .int .u8 0, .int .u8 0, .int .u8 0, .int .u8 0, .int .u8 0, .int .u8 0, .int .u8 0, .int .u8 0, .int .u8 0, .int .u8 0, .int .u8 0, .int .u8 0, .int .u8 0, .int .u8 0, .int .u8 0, .int .u8 0, .int .u8 0, .int .u8 0, .int .u8 0, .int .u8 0, .int .u8 0, .int .u8 0, .int .u8 0] 34)) = w0 at *
    go_wp2_with (first | (refine wpList_load_want rfl 34 _ rfl (w.heap.size) rfl 34 k (0, 0) _ rp0 Tryd.underlying34 rfl hk.info ?_) | (refine wpList_load_want rfl 34 _ rfl (w.heap.size + 1) rfl 34 u (0, 0) _ rp1 Tryd.underlying34 rfl hu.info ?_) | (refine wpList_load_want rfl 34 _ rfl (w.heap.size + 1 + 1) rfl 34 #[.int .u8 0, .int .u8 0, .int .u8 0, .int .u8 0, .int .u8 0, .int .u8 0, .int .u8 0, .int .u8 0, .int .u8 0, .int .u8 0, .int .u8 0, .int .u8 0, .int .u8 0, .int .u8 0, .int .u8 0, .int .u8 0, .int .u8 0, .int .u8 0, .int .u8 0, .int .u8 0, .int .u8 0, .int .u8 0, .int .u8 0, .int .u8 0, .int .u8 0, .int .u8 0, .int .u8 0, .int .u8 0, .int .u8 0, .int .u8 0, .int .u8 0, .int .u8 0] (0, 0) _ rp2 Tryd.underlying34 rfl hz.info ?_) | fail)
    refine (cA.at _).mono ?_
    rintro e w2 ⟨rfl, hb⟩
    replace rp0 := keep hb rp0
    replace rp1 := keep hb rp1
    replace rp2 := keep hb rp2
    replace hw := Below.after hw hb
    clear hb
    have rs : (w2.alloc (.cells (kb Y) 34)).heap[w2.heap.size]? = some (.cells (kb Y) 34 (0, 0)) := hp1_0 w2 _
    have hb : Below w2.heap.size w2 (w2.alloc (.cells (kb Y) 34)) := (Below.refl _ _).alloc (Nat.le_refl _) _
    have rr : (w2.alloc (.cells (kb Y) 34)).heap[w.heap.size + 1 + 1]? = some (.cells #[.int .u8 0, .int .u8 0, .int .u8 0, .int .u8 0, .int .u8 0, .int .u8 0, .int .u8 0, .int .u8 0, .int .u8 0, .int .u8 0, .int .u8 0, .int .u8 0, .int .u8 0, .int .u8 0, .int .u8 0, .int .u8 0, .int .u8 0, .int .u8 0, .int .u8 0, .int .u8 0, .int .u8 0, .int .u8 0, .int .u8 0, .int .u8 0, .int .u8 0, .int .u8 0, .int .u8 0, .int .u8 0, .int .u8 0, .int .u8 0, .int .u8 0, .int .u8 0] 34 (0, 0)) := keep hb rp2
    have hw' := Below.after hw hb
    go_wp2_with (first | (refine wpList_store_row rfl 34 _ _ rfl (w2.heap.size) (kb Y) rfl rfl 34 #[.int .u8 0, .int .u8 0, .int .u8 0, .int .u8 0, .int .u8 0, .int .u8 0, .int .u8 0, .int .u8 0, .int .u8 0, .int .u8 0, .int .u8 0, .int .u8 0, .int .u8 0, .int .u8 0, .int .u8 0, .int .u8 0, .int .u8 0, .int .u8 0, .int .u8 0, .int .u8 0, .int .u8 0, .int .u8 0, .int .u8 0, .int .u8 0, .int .u8 0, .int .u8 0, .int .u8 0, .int .u8 0, .int .u8 0, .int .u8 0, .int .u8 0, .int .u8 0] (hp1_0 w2 _) hY.info (hz.size.trans hY.size.symm) hY.one ?_; rw [setRow_alloc_new _ _ _ _ _ _ rfl]) | (refine wpList_load_want rfl 34 _ rfl (w2.heap.size) rfl 34 (kb Y) (0, 0) _ rs Tryd.underlying34 rfl hY.info ?_) | (refine wpList_build_as rfl 34 _ rfl [] rfl #[.int .u8 0, .int .u8 0, .int .u8 0, .int .u8 0, .int .u8 0, .int .u8 0, .int .u8 0, .int .u8 0, .int .u8 0, .int .u8 0, .int .u8 0, .int .u8 0, .int .u8 0, .int .u8 0, .int .u8 0, .int .u8 0, .int .u8 0, .int .u8 0, .int .u8 0, .int .u8 0, .int .u8 0, .int .u8 0, .int .u8 0, .int .u8 0, .int .u8 0, .int .u8 0, .int .u8 0, .int .u8 0, .int .u8 0, .int .u8 0, .int .u8 0, .int .u8 0] built0 ?_) | (refine wpList_store_row rfl 34 _ _ rfl (w.heap.size + 1 + 1) (kb Y) rfl rfl 34 _ rr hY.info (hz.size.trans hY.size.symm) hY.one ?_) | fail)
    exact bodyPost_ret (v := .tuple #[.agg (kb Y), .int .i64 0]) (results_row_slot Tryd.results24 _ _ (w.heap.size + 1 + 1) _ (kb Y) _ _ (.int .i64 0) rfl (setRow_heap _ _ _ _ _ _ rr) rfl Tryd.underlying34 rfl hY.info) rfl ⟨rfl, below_setRow hw' (by omega) _⟩


set_option maxRecDepth 100000 in
set_option maxHeartbeats 4000000 in
theorem publics_any {k : Array Value} {K : Int} (hk : KeyOf k K) (w : World) (hF : Four w) :
    Calls Tryd.prog 5 #[.agg k] w fun e w' => e = .returned (.bool true) ∧ Below w.heap.size w w' := by
  have heq : ∀ (q : Int) W, (Op.equalIn 10000 34 (.agg (kb q)) (.agg (kb q))).run Tryd.prog W = .ok true W := fun q W => by
    have e : kb q = #[.int .u8 (byt q 0), .int .u8 (byt q 1), .int .u8 (byt q 2), .int .u8 (byt q 3), .int .u8 (byt q 4), .int .u8 (byt q 5), .int .u8 (byt q 6), .int .u8 (byt q 7), .int .u8 (byt q 8), .int .u8 (byt q 9), .int .u8 (byt q 10), .int .u8 (byt q 11), .int .u8 (byt q 12), .int .u8 (byt q 13), .int .u8 (byt q 14), .int .u8 (byt q 15), .int .u8 (byt q 16), .int .u8 (byt q 17), .int .u8 (byt q 18), .int .u8 (byt q 19), .int .u8 (byt q 20), .int .u8 (byt q 21), .int .u8 (byt q 22), .int .u8 (byt q 23), .int .u8 (byt q 24), .int .u8 (byt q 25), .int .u8 (byt q 26), .int .u8 (byt q 27), .int .u8 (byt q 28), .int .u8 (byt q 29), .int .u8 (byt q 30), .int .u8 (byt q 31)] := rfl
    rw [e, keys_equal]; simp
  have cA := a_public hk
  have cR := r_public hk
  generalize scl K 9 = Y at *
  go_enter Tryd.func5, Tryd.ntmps5
  go_wp2
  have rp0 : (w.alloc (.cells k 34)).heap[w.heap.size]? = some (.cells k 34 (0, 0)) := hp1_0 w _
  have hw : Below w.heap.size w (w.alloc (.cells k 34)) := ((Below.refl _ _).alloc (Nat.le_refl _) _)
  have hz0 := hF.1
  have f4 : Four (w.alloc (.cells k 34)) := (hF.alloc _)
  generalize (w.alloc (.cells k 34)) = w0 at *
  have Hrp0 := keepr rp0
  refine wp_region_quiet_below (by kernel_rfl) (by kernel_rfl) ?_
  refine wpQuiet_load_row rfl 34 _ rfl (w.heap.size) rfl 34 k (0, 0) _ Hrp0.out Tryd.underlying34 rfl hk.info ?_
  simp only [Act.put, List.setIfInBounds_toArray, List.set_cons_succ, List.set_cons_zero]
  go_big_quiet_step (exact cA.re f4)
  refine wpQuiet_load_row rfl 34 _ rfl (w.heap.size) rfl 34 k (0, 0) _ Hrp0.out Tryd.underlying34 rfl hk.info ?_
  simp only [Act.put, List.setIfInBounds_toArray, List.set_cons_succ, List.set_cons_zero]
  go_big_quiet_step (exact cR.re)
  go_big_quiet_step (fail)
  go_big_quiet_step (fail)
  refine wpQuiet_nil ?_
  rintro _ ⟨p, rfl⟩
  have hb := below_regrown w0 p.d p.os
  generalize grow (redrawn w0 p.d) p.os = w1 at *
  replace rp0 := keep hb rp0
  replace hw := Below.after hw hb
  replace f4 := f4.below hb
  clear hb
  clear Hrp0
  go_wp2
  go_ret
  exact ⟨rfl, hw⟩


set_option maxRecDepth 100000 in
set_option maxHeartbeats 4000000 in
theorem shareds_any {k u : Array Value} {K U : Int} (hk : KeyOf k K) (hu : KeyOf u U) (w : World) (hF : Four w) :
    Calls Tryd.prog 6 #[.agg k, .agg u] w fun e w' => e = .returned (.bool true) ∧ Below w.heap.size w w' := by
  have heq : ∀ (q : Int) W, (Op.equalIn 10000 34 (.agg (kb q)) (.agg (kb q))).run Tryd.prog W = .ok true W := fun q W => by
    have e : kb q = #[.int .u8 (byt q 0), .int .u8 (byt q 1), .int .u8 (byt q 2), .int .u8 (byt q 3), .int .u8 (byt q 4), .int .u8 (byt q 5), .int .u8 (byt q 6), .int .u8 (byt q 7), .int .u8 (byt q 8), .int .u8 (byt q 9), .int .u8 (byt q 10), .int .u8 (byt q 11), .int .u8 (byt q 12), .int .u8 (byt q 13), .int .u8 (byt q 14), .int .u8 (byt q 15), .int .u8 (byt q 16), .int .u8 (byt q 17), .int .u8 (byt q 18), .int .u8 (byt q 19), .int .u8 (byt q 20), .int .u8 (byt q 21), .int .u8 (byt q 22), .int .u8 (byt q 23), .int .u8 (byt q 24), .int .u8 (byt q 25), .int .u8 (byt q 26), .int .u8 (byt q 27), .int .u8 (byt q 28), .int .u8 (byt q 29), .int .u8 (byt q 30), .int .u8 (byt q 31)] := rfl
    rw [e, keys_equal]; simp
  have cA := a_shared hk hu
  have cR := r_shared hk hu
  have hY : KeyOf (kb (scl K U)) (scl K U) := kb_key _ (scl_bd K U).1 (scl_bd K U).2
  have hz := key_zero
  generalize weakE (scl K U) = E at *
  generalize scl K U = Y at *
  have rp0 : ((w.alloc (.cells k 34)).alloc (.cells u 34)).heap[w.heap.size]? = some (.cells k 34 (0, 0)) := hp2_0 w _ _
  have rp1 : ((w.alloc (.cells k 34)).alloc (.cells u 34)).heap[w.heap.size + 1]? = some (.cells u 34 (0, 0)) := hp2_1 w _ _
  have hw : Below w.heap.size w ((w.alloc (.cells k 34)).alloc (.cells u 34)) := (((Below.refl _ _).alloc (Nat.le_refl _) _).alloc (by simp) _)
  have hz0 := hF.1
  have f4 : Four ((w.alloc (.cells k 34)).alloc (.cells u 34)) := ((hF.alloc _).alloc _)
  go_enter Tryd.func6, Tryd.ntmps6
  iterate 12 go_step
  generalize ((w.alloc (.cells k 34)).alloc (.cells u 34)) = w0 at *
  go_wp2_with (first | (refine wpList_load_want rfl 34 _ rfl (w.heap.size) rfl 34 k (0, 0) _ rp0 Tryd.underlying34 rfl hk.info ?_) | (refine wpList_load_want rfl 34 _ rfl (w.heap.size + 1) rfl 34 u (0, 0) _ rp1 Tryd.underlying34 rfl hu.info ?_) | fail)
  refine (cA.at f4).mono ?_
  rintro e w2 ⟨rfl, hb⟩
  replace rp0 := keep hb rp0
  replace rp1 := keep hb rp1
  replace hw := Below.after hw hb
  replace f4 := f4.below hb
  clear hb
  go_wp2_with (first | (refine wpList_store_row rfl 34 _ _ rfl (w2.heap.size) (kb Y) rfl rfl 34 #[.int .u8 0, .int .u8 0, .int .u8 0, .int .u8 0, .int .u8 0, .int .u8 0, .int .u8 0, .int .u8 0, .int .u8 0, .int .u8 0, .int .u8 0, .int .u8 0, .int .u8 0, .int .u8 0, .int .u8 0, .int .u8 0, .int .u8 0, .int .u8 0, .int .u8 0, .int .u8 0, .int .u8 0, .int .u8 0, .int .u8 0, .int .u8 0, .int .u8 0, .int .u8 0, .int .u8 0, .int .u8 0, .int .u8 0, .int .u8 0, .int .u8 0, .int .u8 0] (hp1_0 w2 _) hY.info (hz.size.trans hY.size.symm) hY.one ?_; rw [setRow_alloc_new _ _ _ _ _ _ (by simp)]) | (refine wpList_load_want rfl 34 _ rfl (w2.heap.size) rfl 34 (kb Y) (0, 0) _ (hp1_0 w2 _) Tryd.underlying34 rfl hY.info ?_) | (refine wpList_load_want rfl 34 _ rfl (w.heap.size) rfl 34 k (0, 0) _ (keep ((Below.refl _ _).alloc (Nat.le_refl _) _) rp0) Tryd.underlying34 rfl hk.info ?_) | (refine wpList_load_want rfl 34 _ rfl (w.heap.size + 1) rfl 34 u (0, 0) _ (keep ((Below.refl _ _).alloc (Nat.le_refl _) _) rp1) Tryd.underlying34 rfl hu.info ?_) | fail)
  have rl5 : (w2.alloc (.cells (kb Y) 34)).heap[w2.heap.size]? = some (.cells (kb Y) 34 (0, 0)) := hp1_0 w2 _
  have hb : Below w2.heap.size w2 (w2.alloc (.cells (kb Y) 34)) := ((Below.refl _ _).alloc (Nat.le_refl _) _)
  generalize (w2.alloc (.cells (kb Y) 34)) = wa at *
  have ygs_0 := lt_of_row rp0
  have ygs_1 := lt_of_row rp1
  have ygs := hw.size
  have zgs := f4.1
  replace rp0 := keep hb rp0
  replace rp1 := keep hb rp1
  replace hw := Below.after hw hb
  replace f4 := f4.below hb
  clear hb
  generalize w2.heap.size = gs at *
  clear w2
  refine (cR.at _).mono ?_
  rintro e w4 ⟨rfl, hb⟩
  replace rp0 := keep hb rp0
  replace rp1 := keep hb rp1
  replace rl5 := keep hb rl5
  replace hw := Below.after hw hb
  replace f4 := f4.below hb
  clear hb
  have rs : (w4.alloc (.cells (kb Y) 34)).heap[w4.heap.size]? = some (.cells (kb Y) 34 (0, 0)) := hp1_0 w4 _
  have hb : Below w4.heap.size w4 (w4.alloc (.cells (kb Y) 34)) := (Below.refl _ _).alloc (Nat.le_refl _) _
  have rr : (w4.alloc (.cells (kb Y) 34)).heap[gs]? = some (.cells (kb Y) 34 (0, 0)) := keep hb rl5
  have hw' := Below.after hw hb
  go_wp2_with (first | (refine wpList_store_row rfl 34 _ _ rfl (w4.heap.size) (kb Y) rfl rfl 34 #[.int .u8 0, .int .u8 0, .int .u8 0, .int .u8 0, .int .u8 0, .int .u8 0, .int .u8 0, .int .u8 0, .int .u8 0, .int .u8 0, .int .u8 0, .int .u8 0, .int .u8 0, .int .u8 0, .int .u8 0, .int .u8 0, .int .u8 0, .int .u8 0, .int .u8 0, .int .u8 0, .int .u8 0, .int .u8 0, .int .u8 0, .int .u8 0, .int .u8 0, .int .u8 0, .int .u8 0, .int .u8 0, .int .u8 0, .int .u8 0, .int .u8 0, .int .u8 0] (hp1_0 w4 _) hY.info (hz.size.trans hY.size.symm) hY.one ?_; rw [setRow_alloc_new _ _ _ _ _ _ rfl]) | (refine wpList_load_want rfl 34 _ rfl (w4.heap.size) rfl 34 (kb Y) (0, 0) _ rs Tryd.underlying34 rfl hY.info ?_) | (refine wpList_load_want rfl 34 _ rfl gs rfl 34 (kb Y) (0, 0) _ rr Tryd.underlying34 rfl hY.info ?_) | fail)
  go_ret
  exact ⟨by simp, hw'⟩

end Go.Proofs.YtkogejglfgghmaaDoor


namespace Go.Proofs.YtkogejglfgghmaaDoor
open Go.RowKit Go.Sort
attribute [local go_sem] setCell_drewN alloc_drewN


/-- What the curve's equation has on its right. -/
def cvn (X : Int) : Int := X * (((X * X % prm + 486662 * X % prm) % prm + 1) % prm) % prm


theorem cvn_comm (X : Int) : (((X * X % prm + 486662 * X % prm) % prm + 1) % prm * X % prm) % prm = cvn X % prm := by
  unfold cvn
  rw [Int.mul_comm]
set_option maxRecDepth 100000 in
set_option maxHeartbeats 4000000 in
theorem a_on {u : Array Value} {U : Int} (hu : KeyOf u U) : Gives5 27 #[.agg u] (.bool (rok (cvn (num U)))) := by
  obtain ⟨xr, hx0, cF⟩ := a_from hu
  have hx : NumOf xr (num U) := hx0.congr (Int.emod_emod _ _).symm
  clear hx0
  have hcv := cvn_comm (num U)
  generalize num U = X at *
  obtain ⟨x4, h4, c4⟩ := b_square hx
  obtain ⟨x5, h5, c5⟩ := b_times hx 486662 (by decide) (by decide)
  obtain ⟨x6, h6, c6⟩ := b_add h4 h5
  obtain ⟨x7, h7, c7⟩ := a_small 1 (by decide) (by decide)
  obtain ⟨x8, h8, c8⟩ := b_add h6 h7
  obtain ⟨x9, h9, c9⟩ := b_mul h8 hx
  obtain ⟨s, hs, cR⟩ := a_root (h9.congr hcv)
  clear hcv
  generalize rok (cvn X) = O at *
  intro w hF
  have rp0 : (w.alloc (.cells u 34)).heap[w.heap.size]? = some (.cells u 34 (0, 0)) := hp1_0 w _
  have hw : Below w.heap.size w (w.alloc (.cells u 34)) := ((Below.refl _ _).alloc (Nat.le_refl _) _)
  have hz0 := hF.sz
  have f4 : Both (w.alloc (.cells u 34)) := (hF.alloc _)
  go_enter Tryd.func27, Tryd.ntmps27
  iterate 9 go_step
  generalize (w.alloc (.cells u 34)) = w0 at *
  go_wp2_with (first | (refine wpList_load_want rfl 34 _ rfl (w.heap.size) rfl 34 u (0, 0) _ rp0 Tryd.underlying34 rfl hu.info ?_) | fail)
  refine (cF.at _).mono ?_
  rintro e w2 ⟨rfl, hb⟩
  replace rp0 := keep hb rp0
  replace hw := Below.after hw hb
  replace f4 := f4.below hb
  clear hb
  go_wp2_with (first | (refine wpList_store_row rfl 26 _ _ rfl (w2.heap.size) xr rfl rfl 26 #[.int .u64 0, .int .u64 0, .int .u64 0, .int .u64 0, .int .u64 0] (hp1_0 w2 _) hx.info (hx.fits rfl) hx.one ?_; rw [setRow_alloc_new _ _ _ _ _ _ (by simp)]) | fail | fail)
  have rl3 : (w2.alloc (.cells xr 26)).heap[w2.heap.size]? = some (.cells xr 26 (0, 0)) := hp1_0 w2 _
  have hb : Below w2.heap.size w2 (w2.alloc (.cells xr 26)) := ((Below.refl _ _).alloc (Nat.le_refl _) _)
  generalize (w2.alloc (.cells xr 26)) = wx at *
  have ygx_0 := lt_of_row rp0
  have ygx := hw.size
  have zgx := f4.sz
  replace rp0 := keep hb rp0
  replace hw := Below.after hw hb
  replace f4 := f4.below hb
  clear hb
  generalize w2.heap.size = gx at *
  clear w2
  try simp only [Act.put]
  refine wp_region_alloc_ex 9 10 [4] (fun _ => .cells #[.int .u64 0, .int .u64 0, .int .u64 0, .int .u64 0, .int .u64 0] 26 (0, 0)) (by kernel_rfl) (by decide) (by decide) (by kernel_rfl) (by kernel_rfl) (by kernel_rfl) (by kernel_rfl) (by kernel_rfl) (by kernel_rfl) (by kernel_rfl) (by kernel_rfl) (by decide) (by decide) ?_ ?_
  · intro s l u
    rcases (by omega : s = 9) with rfl <;> exact ⟨_, _, rfl, rfl, rfl, rfl, fun a w => by kernel_rfl⟩
  apply Exists.intro
  constructor
  · intro v3 hb
    have Hrp0 := keepr (keep hb rp0)
    have Hrl3 := keepr (keep hb rl3)
    have F4 := f4.below hb
    clear hb; dsimp only [List.take]
    refine wpQuiet_load_row rfl 26 _ rfl (gx) rfl 26 xr (0, 0) _ Hrl3.out Tryd.underlying26 rfl hx.info ?_
    simp only [Act.put, List.setIfInBounds_toArray, List.set_cons_succ, List.set_cons_zero]
    go_big_quiet_step (exact c4.re)
    refine wpQuiet_load_row rfl 26 _ rfl (gx) rfl 26 xr (0, 0) _ Hrl3.out Tryd.underlying26 rfl hx.info ?_
    simp only [Act.put, List.setIfInBounds_toArray, List.set_cons_succ, List.set_cons_zero]
    go_big_quiet_step (exact c5.re)
    go_big_quiet_step (exact c6.re)
    go_big_quiet_step (exact c7.re)
    go_big_quiet_step (exact c8.re)
    refine wpQuiet_load_row rfl 26 _ rfl (gx) rfl 26 xr (0, 0) _ Hrl3.out Tryd.underlying26 rfl hx.info ?_
    simp only [Act.put, List.setIfInBounds_toArray, List.set_cons_succ, List.set_cons_zero]
    go_big_quiet_step (exact c9.re)
    refine wpQuiet_nil ?_
    rfl
  intro w10 g hb hg hd
  obtain ⟨lg4, rg4⟩ := hg 4 (by simp)
  replace rg4 : w10.heap[g 4]? = some (.cells #[.int .u64 0, .int .u64 0, .int .u64 0, .int .u64 0, .int .u64 0] 26 (0, 0)) := rg4
  simp only [List.drop, puts, ptrs, List.map, List.foldl, Act.put, List.setIfInBounds_toArray, List.set_cons_succ, List.set_cons_zero]
  clear hg hd
  generalize g 4 = gw at *
  have lrp0 := lt_of_row rp0
  have lrl3 := lt_of_row rl3
  have hs := hw.size
  have hz := f4.sz
  replace rp0 := keep hb rp0
  replace rl3 := keep hb rl3
  replace hw := Below.after hw hb
  replace f4 := f4.below hb
  clear hb
  refine wpList_store_row rfl 26 _ _ rfl gw x9 rfl rfl 26 _ rg4 h9.info (h9.fits rfl) h9.one ?_
  simp only [Act.put]
  replace rp0 := (setRow_other w10 gw (w.heap.size) x9 (by omega)).trans rp0
  replace rl3 := (setRow_other w10 gw (gx) x9 (by omega)).trans rl3
  replace rg4 := setRow_heap w10 gw _ x9 _ _ rg4
  replace hw := below_setRow hw (show w.heap.size ≤ gw by omega) x9
  replace f4 := f4.setRow (show 1 < gw by omega) x9
  generalize w10.setRow gw x9 = w11 at *
  have ygw_0 : w.heap.size < gw := by omega
  have ygw_1 : gx < gw := by omega
  have ygw : w.heap.size ≤ gw := by omega
  have zgw : 1 < gw := by omega
  clear hs hz lrp0 lrl3 lg4
  go_wp2_with (first | (refine wpList_load_want rfl 34 _ rfl (w.heap.size) rfl 34 u (0, 0) _ rp0 Tryd.underlying34 rfl hu.info ?_) | (refine wpList_load_want rfl 26 _ rfl (gx) rfl 26 xr (0, 0) _ rl3 Tryd.underlying26 rfl hx.info ?_) | (refine wpList_load_want rfl 26 _ rfl (gw) rfl 26 x9 (0, 0) _ rg4 Tryd.underlying26 rfl h9.info ?_) | fail)
  refine (cR.at f4).mono ?_
  rintro e w13 ⟨rfl, hb⟩
  replace rp0 := keep hb rp0
  replace rl3 := keep hb rl3
  replace rg4 := keep hb rg4
  replace hw := Below.after hw hb
  replace f4 := f4.below hb
  clear hb
  have hb : Below w13.heap.size w13 (w13.alloc (.cells s 26)) := (Below.refl _ _).alloc (Nat.le_refl _) _
  have hw' := Below.after hw hb
  go_wp2_with (first | (refine wpList_store_row rfl 26 _ _ rfl (w13.heap.size) s rfl rfl 26 #[.int .u64 0, .int .u64 0, .int .u64 0, .int .u64 0, .int .u64 0] (hp1_0 w13 _) hs.info (hs.fits rfl) hs.one ?_; rw [setRow_alloc_new _ _ _ _ _ _ rfl]) | fail)
  go_ret
  exact ⟨rfl, hw'⟩


set_option maxRecDepth 100000 in
set_option maxHeartbeats 4000000 in
theorem r_curve {X : Int} (hX : inP X) : Gives 66 #[.agg (rd X)] (.agg (rd (cvn X))) := by
  have c1 := r_square hX
  have i1 := inP_mod (X * X)
  generalize e1 : (X * X) % prm = q1 at c1 i1
  have c2 := r_small 486662 (by decide) (by decide)
  have i2 : inP 486662 := ⟨by decide, by decide⟩
  have c3 := r_mul i2 hX
  have i3 := inP_mod (486662 * X)
  generalize e3 : (486662 * X) % prm = q3 at c3 i3
  have c4 := r_add i1 i3
  have i4 := inP_mod (q1 + q3)
  generalize e4 : (q1 + q3) % prm = q4 at c4 i4
  have c5 := r_small 1 (by decide) (by decide)
  have i5 : inP 1 := ⟨by decide, by decide⟩
  have c6 := r_add i4 i5
  have i6 := inP_mod (q4 + 1)
  generalize e6 : (q4 + 1) % prm = q6 at c6 i6
  have c7 := r_mul hX i6
  have i7 := inP_mod (X * q6)
  generalize e7 : (X * q6) % prm = q7 at c7 i7
  have hst : cvn X = q7 := by simp only [cvn, e1, e3, e4, e6, e7]
  rw [hst]
  clear hst e1 e3 e4 e6 e7
  intro w
  go_enter Tryd.func66, Tryd.ntmps66
  go_wp2
  have rp0 : ((w.alloc (.cells (rd X) 30)).alloc (.cells #[.int .u64 0, .int .u64 0, .int .u64 0, .int .u64 0, .int .u64 0, .int .u64 0, .int .u64 0, .int .u64 0, .int .u64 0, .int .u64 0, .int .u64 0, .int .u64 0, .int .u64 0, .int .u64 0, .int .u64 0, .int .u64 0] 30)).heap[w.heap.size]? = some (.cells (rd X) 30 (0, 0)) := hp2_0 w _ _
  have rp1 : ((w.alloc (.cells (rd X) 30)).alloc (.cells #[.int .u64 0, .int .u64 0, .int .u64 0, .int .u64 0, .int .u64 0, .int .u64 0, .int .u64 0, .int .u64 0, .int .u64 0, .int .u64 0, .int .u64 0, .int .u64 0, .int .u64 0, .int .u64 0, .int .u64 0, .int .u64 0] 30)).heap[w.heap.size + 1]? = some (.cells #[.int .u64 0, .int .u64 0, .int .u64 0, .int .u64 0, .int .u64 0, .int .u64 0, .int .u64 0, .int .u64 0, .int .u64 0, .int .u64 0, .int .u64 0, .int .u64 0, .int .u64 0, .int .u64 0, .int .u64 0, .int .u64 0] 30 (0, 0)) := hp2_1 w _ _
  have hw : Below w.heap.size w ((w.alloc (.cells (rd X) 30)).alloc (.cells #[.int .u64 0, .int .u64 0, .int .u64 0, .int .u64 0, .int .u64 0, .int .u64 0, .int .u64 0, .int .u64 0, .int .u64 0, .int .u64 0, .int .u64 0, .int .u64 0, .int .u64 0, .int .u64 0, .int .u64 0, .int .u64 0] 30)) := (((Below.refl _ _).alloc (Nat.le_refl _) _).alloc (by simp) _)
  generalize ((w.alloc (.cells (rd X) 30)).alloc (.cells #[.int .u64 0, .int .u64 0, .int .u64 0, .int .u64 0, .int .u64 0, .int .u64 0, .int .u64 0, .int .u64 0, .int .u64 0, .int .u64 0, .int .u64 0, .int .u64 0, .int .u64 0, .int .u64 0, .int .u64 0, .int .u64 0] 30)) = w0 at *
  have Hrp0 := keepr rp0
  have Hrp1 := keepr rp1
  refine wp_region_tail (C := fun w' => ∃ p : Regrown, w' = grow (redrawn w0 p.d) p.os) 10 _ rfl rfl rfl (by kernel_rfl) (by kernel_rfl) (by kernel_rfl) (by kernel_rfl) ⟨⟨w0.drawn + 1, #[]⟩, by rw [grow_empty]; rfl⟩ ?_
  dsimp only [List.set, idle]
  refine wpQuiet_load_row rfl 30 _ rfl (w.heap.size) rfl 30 (rd X) (0, 0) _ Hrp0.out Tryd.underlying30 rfl (rd_info X) ?_
  simp only [Act.put, List.setIfInBounds_toArray, List.set_cons_succ, List.set_cons_zero]
  refine wpQuiet_load_row rfl 30 _ rfl (w.heap.size) rfl 30 (rd X) (0, 0) _ Hrp0.out Tryd.underlying30 rfl (rd_info X) ?_
  simp only [Act.put, List.setIfInBounds_toArray, List.set_cons_succ, List.set_cons_zero]
  go_big_quiet_step (exact c1.re)
  go_big_quiet_step (exact c2.re)
  refine wpQuiet_load_row rfl 30 _ rfl (w.heap.size) rfl 30 (rd X) (0, 0) _ Hrp0.out Tryd.underlying30 rfl (rd_info X) ?_
  simp only [Act.put, List.setIfInBounds_toArray, List.set_cons_succ, List.set_cons_zero]
  go_big_quiet_step (exact c3.re)
  go_big_quiet_step (exact c4.re)
  go_big_quiet_step (exact c5.re)
  go_big_quiet_step (exact c6.re)
  go_big_quiet_step (exact c7.re)
  refine wpQuiet_idle rfl rfl rfl ?_
  rintro _ ⟨p, rfl⟩
  have hb := below_regrown w0 p.d p.os
  generalize grow (redrawn w0 p.d) p.os = w8 at *
  replace rp0 := keep hb rp0
  replace rp1 := keep hb rp1
  replace hw := Below.after hw hb
  clear hb
  clear Hrp0 Hrp1
  go_wp2_with (first | (refine wpList_store_row rfl 30 _ _ rfl (w.heap.size + 1) (rd q7) rfl rfl 30 _ rp1 (rd_info _) rfl (rd_one _) ?_) | fail)
  exact bodyPost_ret (v := .agg (rd q7)) (results_cell_row Tryd.results66 _ _ (w.heap.size + 1) _ (rd q7) _ _ rfl (setRow_heap _ _ _ _ _ _ rp1) Tryd.underlying30 rfl (rd_info _)) rfl ⟨rfl, below_setRow hw (by omega) _⟩


set_option maxRecDepth 100000 in
set_option maxHeartbeats 4000000 in
theorem r_on {u : Array Value} {U : Int} (hu : KeyOf u U) : Gives 28 #[.agg u] (.bool (rok (cvn (num U)))) := by
  have cF := r_from hu
  have hX : inP (num U) := inP_mod _
  change Gives _ _ (.agg (rd (num U))) at cF
  have cC := r_curve hX
  have hV : inP (cvn (num U)) := inP_mod _
  have cR := r_root hV
  generalize rval (cvn (num U)) % prm = Y at *
  generalize rok (cvn (num U)) = O at *
  generalize cvn (num U) = V at *
  generalize num U = X at *
  intro w
  have rp0 : (w.alloc (.cells u 34)).heap[w.heap.size]? = some (.cells u 34 (0, 0)) := hp1_0 w _
  have hw : Below w.heap.size w (w.alloc (.cells u 34)) := ((Below.refl _ _).alloc (Nat.le_refl _) _)
  go_enter Tryd.func28, Tryd.ntmps28
  iterate 9 go_step
  generalize (w.alloc (.cells u 34)) = w0 at *
  go_wp2_with (first | (refine wpList_load_want rfl 34 _ rfl (w.heap.size) rfl 34 u (0, 0) _ rp0 Tryd.underlying34 rfl hu.info ?_) | fail)
  refine (cF.at _).mono ?_
  rintro e w2 ⟨rfl, hb⟩
  replace rp0 := keep hb rp0
  replace hw := Below.after hw hb
  clear hb
  go_wp2_with (first | (refine wpList_load_want rfl 34 _ rfl (w.heap.size) rfl 34 u (0, 0) _ rp0 Tryd.underlying34 rfl hu.info ?_) | fail)
  refine (cC.at _).mono ?_
  rintro e w4 ⟨rfl, hb⟩
  replace rp0 := keep hb rp0
  replace hw := Below.after hw hb
  clear hb
  go_wp2_with (first | (refine wpList_load_want rfl 34 _ rfl (w.heap.size) rfl 34 u (0, 0) _ rp0 Tryd.underlying34 rfl hu.info ?_) | fail)
  refine (cR.at _).mono ?_
  rintro e w6 ⟨rfl, hb⟩
  replace rp0 := keep hb rp0
  replace hw := Below.after hw hb
  clear hb
  have hb : Below w6.heap.size w6 (w6.alloc (.cells (rd Y) 30)) := (Below.refl _ _).alloc (Nat.le_refl _) _
  have hw' := Below.after hw hb
  go_wp2_with (first | (refine wpList_store_row rfl 30 _ _ rfl (w6.heap.size) (rd Y) rfl rfl 30 #[.int .u64 0, .int .u64 0, .int .u64 0, .int .u64 0, .int .u64 0, .int .u64 0, .int .u64 0, .int .u64 0, .int .u64 0, .int .u64 0, .int .u64 0, .int .u64 0, .int .u64 0, .int .u64 0, .int .u64 0, .int .u64 0] (hp1_0 w6 _) (rd_info _) rfl (rd_one _) ?_; rw [setRow_alloc_new _ _ _ _ _ _ rfl]) | fail)
  go_ret
  exact ⟨rfl, hw'⟩


set_option maxRecDepth 100000 in
set_option maxHeartbeats 4000000 in
theorem ons_any {u : Array Value} {U : Int} (hu : KeyOf u U) (w : World) (hF : Both w) :
    Calls Tryd.prog 8 #[.agg u] w fun e w' => e = .returned (.bool true) ∧ Below w.heap.size w w' := by
  have cA := a_on hu
  have cR := r_on hu
  generalize rok (cvn (num U)) = O at *
  go_enter Tryd.func8, Tryd.ntmps8
  go_wp2
  have rp0 : (w.alloc (.cells u 34)).heap[w.heap.size]? = some (.cells u 34 (0, 0)) := hp1_0 w _
  have hw : Below w.heap.size w (w.alloc (.cells u 34)) := ((Below.refl _ _).alloc (Nat.le_refl _) _)
  have hz0 := hF.sz
  have f4 : Both (w.alloc (.cells u 34)) := (hF.alloc _)
  generalize (w.alloc (.cells u 34)) = w0 at *
  have Hrp0 := keepr rp0
  refine wp_region_quiet_below (by kernel_rfl) (by kernel_rfl) ?_
  refine wpQuiet_load_row rfl 34 _ rfl (w.heap.size) rfl 34 u (0, 0) _ Hrp0.out Tryd.underlying34 rfl hu.info ?_
  simp only [Act.put, List.setIfInBounds_toArray, List.set_cons_succ, List.set_cons_zero]
  go_big_quiet_step (exact cA.re f4)
  refine wpQuiet_load_row rfl 34 _ rfl (w.heap.size) rfl 34 u (0, 0) _ Hrp0.out Tryd.underlying34 rfl hu.info ?_
  simp only [Act.put, List.setIfInBounds_toArray, List.set_cons_succ, List.set_cons_zero]
  go_big_quiet_step (exact cR.re)
  go_big_quiet_step (fail)
  go_big_quiet_step (fail)
  refine wpQuiet_nil ?_
  rintro _ ⟨p, rfl⟩
  have hb := below_regrown w0 p.d p.os
  generalize grow (redrawn w0 p.d) p.os = w1 at *
  replace rp0 := keep hb rp0
  replace hw := Below.after hw hb
  replace f4 := f4.below hb
  clear hb
  clear Hrp0
  go_wp2
  go_ret
  exact ⟨by simp, hw⟩

end Go.Proofs.YtkogejglfgghmaaDoor

