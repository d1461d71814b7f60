import Derived.Test.YtjofbnilhkmpeaaDoorProg
import Derived.WalkKit
import Derived.WalkSpells
import Derived.WalkLawsBesides
import Derived.Lib.QuietBelow
import Derived.BigQuiet
import Derived.OrdersHeld
import Derived.Deep.RegionHeld3
import Derived.OwnWalk
import Derived.Test.YtjofbnilhkmpeaaDoorKa
import Derived.Test.YtjofbnilhkmpeaaDoorRtl
namespace Go.Proofs.YtjofbnilhkmpeaaDoor
set_option maxRecDepth 100000
open Go Go.RowKit Go.Sort Go.ChangeMaps Go.MapKept
attribute [local go_sem] setCell_drewN alloc_drewN

set_option maxRecDepth 100000 in
set_option maxHeartbeats 4000000 in
theorem r_Alice (v k c : Int) (sh pe hA hB : List Int) (l_sh : sh.length = 32) (l_pe : pe.length = 32) (l_hA : hA.length = 32) (l_hB : hB.length = 32) (w : World) : Calls Tryd.prog 13 #[.agg (irow .u8 sh), .agg (irow .u8 hA), .agg (irow .u8 hB), .agg (irow .u8 pe), .agg (cfrow v k c)] w fun e w' => RfR (alS v k c sh pe hA hB) e ∧ Below w.heap.size w w' := by
  unfold RfR
  have R0 := hp6_0 w (.cells (irow .u8 sh) 23) (.cells (irow .u8 hA) 23) (.cells (irow .u8 hB) 23) (.cells (irow .u8 pe) 23) (.cells (cfrow v k c) 27) (.cells (strow zst) 38)
  have R1 := hp6_1 w (.cells (irow .u8 sh) 23) (.cells (irow .u8 hA) 23) (.cells (irow .u8 hB) 23) (.cells (irow .u8 pe) 23) (.cells (cfrow v k c) 27) (.cells (strow zst) 38)
  have R2 := hp6_2 w (.cells (irow .u8 sh) 23) (.cells (irow .u8 hA) 23) (.cells (irow .u8 hB) 23) (.cells (irow .u8 pe) 23) (.cells (cfrow v k c) 27) (.cells (strow zst) 38)
  have R3 := hp6_3 w (.cells (irow .u8 sh) 23) (.cells (irow .u8 hA) 23) (.cells (irow .u8 hB) 23) (.cells (irow .u8 pe) 23) (.cells (cfrow v k c) 27) (.cells (strow zst) 38)
  have R4 := hp6_4 w (.cells (irow .u8 sh) 23) (.cells (irow .u8 hA) 23) (.cells (irow .u8 hB) 23) (.cells (irow .u8 pe) 23) (.cells (cfrow v k c) 27) (.cells (strow zst) 38)
  have R5 := hp6_5 w (.cells (irow .u8 sh) 23) (.cells (irow .u8 hA) 23) (.cells (irow .u8 hB) 23) (.cells (irow .u8 pe) 23) (.cells (cfrow v k c) 27) (.cells (strow zst) 38)
  have hw : Below w.heap.size w ((((((w.alloc (.cells (irow .u8 sh) 23)).alloc (.cells (irow .u8 hA) 23)).alloc (.cells (irow .u8 hB) 23)).alloc (.cells (irow .u8 pe) 23)).alloc (.cells (cfrow v k c) 27)).alloc (.cells (strow zst) 38)) := (((((((Below.refl _ _).alloc (Nat.le_refl _) _).alloc (by simp) _).alloc (by simp; omega) _).alloc (by simp; omega) _).alloc (by simp; omega) _).alloc (by simp; omega) _)
  go_enter Tryd.func13, Tryd.ntmps13
  go_upto_region 1 with (first | (refine wpList_box rfl 23 _ rfl _ rfl (bKy _) ?_) | (refine wpList_box rfl 27 _ rfl _ rfl (bCfA _) ?_) | (refine wpList_alloc rfl 38 rfl (strow zst) zStA ?_) | fail)
  try simp only [size_alloc1, Act.put, List.setIfInBounds_toArray, List.set_cons_succ, List.set_cons_zero]
  generalize ((((((w.alloc (.cells (irow .u8 sh) 23)).alloc (.cells (irow .u8 hA) 23)).alloc (.cells (irow .u8 hB) 23)).alloc (.cells (irow .u8 pe) 23)).alloc (.cells (cfrow v k c) 27)).alloc (.cells (strow zst) 38)) = w6 at *
  have cC := r_Config v k c w6
  obtain ⟨E, hE⟩ : ∃ E_, cfE v k c = E_ := ⟨_, rfl⟩
  rw [hE] at cC
  replace hE := hide hE
  repeat ((fail_if_success (refine wpList_load_want rfl 27 _ rfl (w.heap.size + 1 + 1 + 1 + 1) rfl 27 (cfrow v k c) (0, 0) _ R4 Tryd.underlying27 rfl infoCf ?_)); first | go_skip | go_step)
  refine wpList_load_want rfl 27 _ rfl (w.heap.size + 1 + 1 + 1 + 1) rfl 27 (cfrow v k c) (0, 0) _ R4 Tryd.underlying27 rfl infoCf ?_
  go_wp2_with (fail)
  refine cC.mono ?_
  rintro e_ w7 ⟨rfl, hb⟩
  replace R0 := keep hb R0
  replace R1 := keep hb R1
  replace R2 := keep hb R2
  replace R3 := keep hb R3
  replace R4 := keep hb R4
  replace R5 := keep hb R5
  replace hw := Below.after hw hb
  clear hb
  clear cC
  by_cases h0 : E = 0
  · subst h0
    have hk : Hid (rck (alS v k c sh pe hA hB) [] = 0) := hide (by rw [rck_al v k c sh pe hA hB, hE.out])
    go_upto_region 4 with fail
    repeat ((fail_if_success (refine wpList_load_want rfl 27 _ rfl (w.heap.size + 1 + 1 + 1 + 1) rfl 27 (cfrow v k c) (0, 0) _ R4 Tryd.underlying27 rfl infoCf ?_)); first | go_skip | go_step)
    refine wpList_load_want rfl 27 _ rfl (w.heap.size + 1 + 1 + 1 + 1) rfl 27 (cfrow v k c) (0, 0) _ R4 Tryd.underlying27 rfl infoCf ?_
    repeat ((fail_if_success (refine wpList_load_want rfl 23 _ rfl (w.heap.size) rfl 23 (irow .u8 sh) (0, 0) _ R0 Tryd.underlying23 rfl (infok8 _ l_sh) ?_)); first | go_skip | go_step)
    refine wpList_load_want rfl 23 _ rfl (w.heap.size) rfl 23 (irow .u8 sh) (0, 0) _ R0 Tryd.underlying23 rfl (infok8 _ l_sh) ?_
    repeat ((fail_if_success (refine wpList_load_want rfl 23 _ rfl (w.heap.size + 1 + 1 + 1) rfl 23 (irow .u8 pe) (0, 0) _ R3 Tryd.underlying23 rfl (infok8 _ l_pe) ?_)); first | go_skip | go_step)
    refine wpList_load_want rfl 23 _ rfl (w.heap.size + 1 + 1 + 1) rfl 23 (irow .u8 pe) (0, 0) _ R3 Tryd.underlying23 rfl (infok8 _ l_pe) ?_
    repeat ((fail_if_success (refine wpList_load_want rfl 23 _ rfl (w.heap.size + 1) rfl 23 (irow .u8 hA) (0, 0) _ R1 Tryd.underlying23 rfl (infok8 _ l_hA) ?_)); first | go_skip | go_step)
    refine wpList_load_want rfl 23 _ rfl (w.heap.size + 1) rfl 23 (irow .u8 hA) (0, 0) _ R1 Tryd.underlying23 rfl (infok8 _ l_hA) ?_
    repeat ((fail_if_success (refine wpList_load_want rfl 23 _ rfl (w.heap.size + 1 + 1) rfl 23 (irow .u8 hB) (0, 0) _ R2 Tryd.underlying23 rfl (infok8 _ l_hB) ?_)); first | go_skip | go_step)
    refine wpList_load_want rfl 23 _ rfl (w.heap.size + 1 + 1) rfl 23 (irow .u8 hB) (0, 0) _ R2 Tryd.underlying23 rfl (infok8 _ l_hB) ?_
    try simp only [Act.put, List.setIfInBounds_toArray, List.set_cons_succ, List.set_cons_zero]
    refine wpList_build_as rfl 38 _ rfl [(0, .agg (cfrow v k c)), (1, .agg (irow .u8 sh)), (3, .agg (irow .u8 pe)), (5, .bool true), (6, .bool true), (9, .agg (irow .u8 hA)), (15, .agg (irow .u8 hB))] rfl (strow (alS v k c sh pe hA hB)) (builtA v k c sh pe hA hB l_sh l_pe l_hA l_hB) ?_
    try simp only [Act.put, List.setIfInBounds_toArray, List.set_cons_succ, List.set_cons_zero]
    refine wpList_store_row rfl 38 _ _ rfl (w.heap.size + 1 + 1 + 1 + 1 + 1) (strow (alS v k c sh pe hA hB)) rfl rfl 38 _ R5 (infoSt (alS_ok l_sh l_pe l_hA l_hB)) (by rw [strow_size zst_ok, strow_size (alS_ok l_sh l_pe l_hA l_hB)]) (strow_one (alS_ok l_sh l_pe l_hA l_hB)) ?_
    go_wp2_with (fail)
    exact bodyPost_ret (v := .tuple #[.agg (strow (alS v k c sh pe hA hB)), .int .i64 (0)]) (results_cell_slot Tryd.results13 _ _ (w.heap.size + 1 + 1 + 1 + 1 + 1) _ _ _ _ rfl (setRow_heap w7 (w.heap.size + 1 + 1 + 1 + 1 + 1) _ (strow (alS v k c sh pe hA hB)) _ _ R5) Tryd.underlying38 rfl (infoSt (alS_ok l_sh l_pe l_hA l_hB))) rfl ⟨.inr ⟨hk.out, rfl⟩, below_setRow hw (by omega) (strow (alS v k c sh pe hA hB))⟩
  · have hk : Hid (rck (alS v k c sh pe hA hB) [] = E) := hide (by rw [rck_al v k c sh pe hA hB, hE.out])
    have hd : (E != 0) = true := by simpa using h0
    have h0p := hide h0
    clear h0
    go_upto_region 3 with fail
    repeat ((fail_if_success (refine wpList_build_want rfl 38 _ rfl [] rfl (strow zst) builtZs ?_)); first | go_skip | go_step)
    refine wpList_build_want rfl 38 _ rfl [] rfl (strow zst) builtZs ?_
    repeat ((fail_if_success (refine wpList_store_row rfl 38 _ _ rfl (w.heap.size + 1 + 1 + 1 + 1 + 1) (strow zst) rfl rfl 38 _ R5 (infoSt zst_ok) rfl (strow_one zst_ok) ?_)); first | go_skip | go_step)
    refine wpList_store_row rfl 38 _ _ rfl (w.heap.size + 1 + 1 + 1 + 1 + 1) (strow zst) rfl rfl 38 _ R5 (infoSt zst_ok) rfl (strow_one zst_ok) ?_
    go_wp2_with (fail)
    exact bodyPost_ret (v := .tuple #[.agg (strow zst), .int .i64 (E)]) (results_cell_slot Tryd.results13 _ _ (w.heap.size + 1 + 1 + 1 + 1 + 1) _ _ _ _ rfl (setRow_heap w7 (w.heap.size + 1 + 1 + 1 + 1 + 1) _ (strow zst) _ _ R5) Tryd.underlying38 rfl (infoSt zst_ok)) rfl ⟨.inl ⟨by rw [hk.out]; exact h0p.out, by rw [hk.out]⟩, below_setRow hw (by omega) (strow zst)⟩
set_option maxRecDepth 100000 in
set_option maxHeartbeats 4000000 in
theorem r_Bob (v k c : Int) (sh opr opu hA hB : List Int) (l_sh : sh.length = 32) (l_opr : opr.length = 32) (l_opu : opu.length = 32) (l_hA : hA.length = 32) (l_hB : hB.length = 32) (ha : K8 opr) (w : World) : Calls Tryd.prog 15 #[.agg (irow .u8 sh), .agg (irow .u8 hA), .agg (irow .u8 hB), .agg (prow opr opu), .agg (cfrow v k c)] w fun e w' => RfR (boS v k c sh opr opu hA hB) e ∧ Below w.heap.size w w' := by
  unfold RfR
  have R0 := hp6_0 w (.cells (irow .u8 sh) 23) (.cells (irow .u8 hA) 23) (.cells (irow .u8 hB) 23) (.cells (prow opr opu) 25) (.cells (cfrow v k c) 27) (.cells (strow zst) 38)
  have R1 := hp6_1 w (.cells (irow .u8 sh) 23) (.cells (irow .u8 hA) 23) (.cells (irow .u8 hB) 23) (.cells (prow opr opu) 25) (.cells (cfrow v k c) 27) (.cells (strow zst) 38)
  have R2 := hp6_2 w (.cells (irow .u8 sh) 23) (.cells (irow .u8 hA) 23) (.cells (irow .u8 hB) 23) (.cells (prow opr opu) 25) (.cells (cfrow v k c) 27) (.cells (strow zst) 38)
  have R3 := hp6_3 w (.cells (irow .u8 sh) 23) (.cells (irow .u8 hA) 23) (.cells (irow .u8 hB) 23) (.cells (prow opr opu) 25) (.cells (cfrow v k c) 27) (.cells (strow zst) 38)
  have R4 := hp6_4 w (.cells (irow .u8 sh) 23) (.cells (irow .u8 hA) 23) (.cells (irow .u8 hB) 23) (.cells (prow opr opu) 25) (.cells (cfrow v k c) 27) (.cells (strow zst) 38)
  have R5 := hp6_5 w (.cells (irow .u8 sh) 23) (.cells (irow .u8 hA) 23) (.cells (irow .u8 hB) 23) (.cells (prow opr opu) 25) (.cells (cfrow v k c) 27) (.cells (strow zst) 38)
  have hw : Below w.heap.size w ((((((w.alloc (.cells (irow .u8 sh) 23)).alloc (.cells (irow .u8 hA) 23)).alloc (.cells (irow .u8 hB) 23)).alloc (.cells (prow opr opu) 25)).alloc (.cells (cfrow v k c) 27)).alloc (.cells (strow zst) 38)) := (((((((Below.refl _ _).alloc (Nat.le_refl _) _).alloc (by simp) _).alloc (by simp; omega) _).alloc (by simp; omega) _).alloc (by simp; omega) _).alloc (by simp; omega) _)
  go_enter Tryd.func15, Tryd.ntmps15
  go_upto_region 1 with (first | (refine wpList_box rfl 23 _ rfl _ rfl (bKy _) ?_) | (refine wpList_box rfl 25 _ rfl _ rfl (bPrA _) ?_) | (refine wpList_box rfl 27 _ rfl _ rfl (bCfA _) ?_) | (refine wpList_alloc rfl 38 rfl (strow zst) zStA ?_) | fail)
  try simp only [size_alloc1, Act.put, List.setIfInBounds_toArray, List.set_cons_succ, List.set_cons_zero]
  generalize ((((((w.alloc (.cells (irow .u8 sh) 23)).alloc (.cells (irow .u8 hA) 23)).alloc (.cells (irow .u8 hB) 23)).alloc (.cells (prow opr opu) 25)).alloc (.cells (cfrow v k c) 27)).alloc (.cells (strow zst) 38)) = w6 at *
  have cC := r_Config v k c w6
  obtain ⟨E, hE⟩ : ∃ E_, cfE v k c = E_ := ⟨_, rfl⟩
  rw [hE] at cC
  replace hE := hide hE
  repeat ((fail_if_success (refine wpList_load_want rfl 27 _ rfl (w.heap.size + 1 + 1 + 1 + 1) rfl 27 (cfrow v k c) (0, 0) _ R4 Tryd.underlying27 rfl infoCf ?_)); first | go_skip | go_step)
  refine wpList_load_want rfl 27 _ rfl (w.heap.size + 1 + 1 + 1 + 1) rfl 27 (cfrow v k c) (0, 0) _ R4 Tryd.underlying27 rfl infoCf ?_
  go_wp2_with (fail)
  refine cC.mono ?_
  rintro e_ w7 ⟨rfl, hb⟩
  replace R0 := keep hb R0
  replace R1 := keep hb R1
  replace R2 := keep hb R2
  replace R3 := keep hb R3
  replace R4 := keep hb R4
  replace R5 := keep hb R5
  replace hw := Below.after hw hb
  clear hb
  clear cC
  by_cases h0 : E = 0
  · subst h0
    have cI := r_isPair ha l_opu w7
    obtain ⟨bi, hbi⟩ : ∃ b_, ipr opr opu = b_ := ⟨_, rfl⟩
    rw [hbi] at cI
    replace hbi := hide hbi
    go_upto_region 4 with fail
    repeat ((fail_if_success (refine wpList_load_want rfl 25 _ rfl (w.heap.size + 1 + 1 + 1) rfl 25 (prow opr opu) (0, 0) _ R3 Tryd.underlying25 rfl (infoPr l_opr l_opu) ?_)); first | go_skip | go_step)
    refine wpList_load_want rfl 25 _ rfl (w.heap.size + 1 + 1 + 1) rfl 25 (prow opr opu) (0, 0) _ R3 Tryd.underlying25 rfl (infoPr l_opr l_opu) ?_
    go_wp2_with (fail)
    refine cI.mono ?_
    rintro e_ w8 ⟨rfl, hb⟩
    replace R0 := keep hb R0
    replace R1 := keep hb R1
    replace R2 := keep hb R2
    replace R3 := keep hb R3
    replace R4 := keep hb R4
    replace R5 := keep hb R5
    replace hw := Below.after hw hb
    clear hb
    clear cI
    cases bi
    · have hk : Hid (rck (boS v k c sh opr opu hA hB) [] = 130) := hide (by rw [rck_bo v k c sh opr opu hA hB, if_neg (by rw [hE.out]; decide), hbi.out]; rfl)
      go_upto_region 5 with fail
      repeat ((fail_if_success (refine wpList_build_want rfl 38 _ rfl [] rfl (strow zst) builtZs ?_)); first | go_skip | go_step)
      refine wpList_build_want rfl 38 _ rfl [] rfl (strow zst) builtZs ?_
      repeat ((fail_if_success (refine wpList_store_row rfl 38 _ _ rfl (w.heap.size + 1 + 1 + 1 + 1 + 1) (strow zst) rfl rfl 38 _ R5 (infoSt zst_ok) rfl (strow_one zst_ok) ?_)); first | go_skip | go_step)
      refine wpList_store_row rfl 38 _ _ rfl (w.heap.size + 1 + 1 + 1 + 1 + 1) (strow zst) rfl rfl 38 _ R5 (infoSt zst_ok) rfl (strow_one zst_ok) ?_
      go_wp2_with (fail)
      exact bodyPost_ret (v := .tuple #[.agg (strow zst), .int .i64 (130)]) (results_cell_slot Tryd.results15 _ _ (w.heap.size + 1 + 1 + 1 + 1 + 1) _ _ _ _ rfl (setRow_heap w8 (w.heap.size + 1 + 1 + 1 + 1 + 1) _ (strow zst) _ _ R5) Tryd.underlying38 rfl (infoSt zst_ok)) rfl ⟨.inl ⟨by rw [hk.out]; decide, by rw [hk.out]⟩, below_setRow hw (by omega) (strow zst)⟩
    · have hk : Hid (rck (boS v k c sh opr opu hA hB) [] = 0) := hide (by rw [rck_bo v k c sh opr opu hA hB, if_neg (by rw [hE.out]; decide), hbi.out]; rfl)
      go_upto_region 6 with fail
      repeat ((fail_if_success (refine wpList_load_want rfl 27 _ rfl (w.heap.size + 1 + 1 + 1 + 1) rfl 27 (cfrow v k c) (0, 0) _ R4 Tryd.underlying27 rfl infoCf ?_)); first | go_skip | go_step)
      refine wpList_load_want rfl 27 _ rfl (w.heap.size + 1 + 1 + 1 + 1) rfl 27 (cfrow v k c) (0, 0) _ R4 Tryd.underlying27 rfl infoCf ?_
      repeat ((fail_if_success (refine wpList_load_want rfl 23 _ rfl (w.heap.size) rfl 23 (irow .u8 sh) (0, 0) _ R0 Tryd.underlying23 rfl (infok8 _ l_sh) ?_)); first | go_skip | go_step)
      refine wpList_load_want rfl 23 _ rfl (w.heap.size) rfl 23 (irow .u8 sh) (0, 0) _ R0 Tryd.underlying23 rfl (infok8 _ l_sh) ?_
      repeat ((fail_if_success (refine wpList_load_want rfl 25 _ rfl (w.heap.size + 1 + 1 + 1) rfl 25 (prow opr opu) (0, 0) _ R3 Tryd.underlying25 rfl (infoPr l_opr l_opu) ?_)); first | go_skip | go_step)
      refine wpList_load_want rfl 25 _ rfl (w.heap.size + 1 + 1 + 1) rfl 25 (prow opr opu) (0, 0) _ R3 Tryd.underlying25 rfl (infoPr l_opr l_opu) ?_
      repeat ((fail_if_success (refine wpList_load_want rfl 23 _ rfl (w.heap.size + 1 + 1) rfl 23 (irow .u8 hB) (0, 0) _ R2 Tryd.underlying23 rfl (infok8 _ l_hB) ?_)); first | go_skip | go_step)
      refine wpList_load_want rfl 23 _ rfl (w.heap.size + 1 + 1) rfl 23 (irow .u8 hB) (0, 0) _ R2 Tryd.underlying23 rfl (infok8 _ l_hB) ?_
      repeat ((fail_if_success (refine wpList_load_want rfl 23 _ rfl (w.heap.size + 1) rfl 23 (irow .u8 hA) (0, 0) _ R1 Tryd.underlying23 rfl (infok8 _ l_hA) ?_)); first | go_skip | go_step)
      refine wpList_load_want rfl 23 _ rfl (w.heap.size + 1) rfl 23 (irow .u8 hA) (0, 0) _ R1 Tryd.underlying23 rfl (infok8 _ l_hA) ?_
      try simp only [Act.put, List.setIfInBounds_toArray, List.set_cons_succ, List.set_cons_zero]
      refine wpList_build_as rfl 38 _ rfl [(0, .agg (cfrow v k c)), (1, .agg (irow .u8 sh)), (2, .agg (prow opr opu)), (4, .bool true), (9, .agg (irow .u8 hB)), (15, .agg (irow .u8 hA))] rfl (strow (boS v k c sh opr opu hA hB)) (builtB v k c sh opr opu hA hB l_sh l_opr l_opu l_hA l_hB) ?_
      try simp only [Act.put, List.setIfInBounds_toArray, List.set_cons_succ, List.set_cons_zero]
      refine wpList_store_row rfl 38 _ _ rfl (w.heap.size + 1 + 1 + 1 + 1 + 1) (strow (boS v k c sh opr opu hA hB)) rfl rfl 38 _ R5 (infoSt (boS_ok l_sh l_opr l_opu l_hA l_hB)) (by rw [strow_size zst_ok, strow_size (boS_ok l_sh l_opr l_opu l_hA l_hB)]) (strow_one (boS_ok l_sh l_opr l_opu l_hA l_hB)) ?_
      go_wp2_with (fail)
      exact bodyPost_ret (v := .tuple #[.agg (strow (boS v k c sh opr opu hA hB)), .int .i64 (0)]) (results_cell_slot Tryd.results15 _ _ (w.heap.size + 1 + 1 + 1 + 1 + 1) _ _ _ _ rfl (setRow_heap w8 (w.heap.size + 1 + 1 + 1 + 1 + 1) _ (strow (boS v k c sh opr opu hA hB)) _ _ R5) Tryd.underlying38 rfl (infoSt (boS_ok l_sh l_opr l_opu l_hA l_hB))) rfl ⟨.inr ⟨hk.out, rfl⟩, below_setRow hw (by omega) (strow (boS v k c sh opr opu hA hB))⟩
  · have hk : Hid (rck (boS v k c sh opr opu hA hB) [] = E) := hide (by rw [rck_bo v k c sh opr opu hA hB, if_pos (by rw [hE.out]; exact h0), hE.out])
    have hd : (E != 0) = true := by simpa using h0
    have h0p := hide h0
    clear h0
    go_upto_region 3 with fail
    repeat ((fail_if_success (refine wpList_build_want rfl 38 _ rfl [] rfl (strow zst) builtZs ?_)); first | go_skip | go_step)
    refine wpList_build_want rfl 38 _ rfl [] rfl (strow zst) builtZs ?_
    repeat ((fail_if_success (refine wpList_store_row rfl 38 _ _ rfl (w.heap.size + 1 + 1 + 1 + 1 + 1) (strow zst) rfl rfl 38 _ R5 (infoSt zst_ok) rfl (strow_one zst_ok) ?_)); first | go_skip | go_step)
    refine wpList_store_row rfl 38 _ _ rfl (w.heap.size + 1 + 1 + 1 + 1 + 1) (strow zst) rfl rfl 38 _ R5 (infoSt zst_ok) rfl (strow_one zst_ok) ?_
    go_wp2_with (fail)
    exact bodyPost_ret (v := .tuple #[.agg (strow zst), .int .i64 (E)]) (results_cell_slot Tryd.results15 _ _ (w.heap.size + 1 + 1 + 1 + 1 + 1) _ _ _ _ rfl (setRow_heap w7 (w.heap.size + 1 + 1 + 1 + 1 + 1) _ (strow zst) _ _ R5) Tryd.underlying38 rfl (infoSt zst_ok)) rfl ⟨.inl ⟨by rw [hk.out]; exact h0p.out, by rw [hk.out]⟩, below_setRow hw (by omega) (strow zst)⟩

end Go.Proofs.YtjofbnilhkmpeaaDoor
