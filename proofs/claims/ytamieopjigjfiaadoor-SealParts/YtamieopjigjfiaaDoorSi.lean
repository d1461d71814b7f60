import Derived.Test.YtamieopjigjfiaaDoorProg
import Derived.WalkKit
import Derived.WalkSpells
import Derived.WalkLawsBesides
import Derived.Lib.QuietBelow
import Derived.BigQuiet
import Derived.OrdersHeld
import Derived.OwnWalk
import Derived.Deep.RegionHeld3
import Derived.Test.YtamieopjigjfiaaDoorKa
import Derived.Test.YtamieopjigjfiaaDoorSh
namespace Go.Proofs.YtamieopjigjfiaaDoor
set_option maxRecDepth 100000
open Go Go.RowKit Go.Sort
attribute [local go_sem] setCell_drewN alloc_drewN


set_option maxRecDepth 100000 in
set_option maxHeartbeats 4000000 in
theorem q_tag (key nonce extra text : List B) (hk : key.length = 32) (hno : nonce.length = 16) (w : World) (ve vt : Value) (hE : BysB w ve extra) (hT : BysB w vt text) (hl : extra.length + text.length ≤ 140737488351000) : Calls Tryd.prog 29 #[.agg (irow .u8 (bl key)), .agg (irow .u8 (bl nonce)), ve, vt] w fun e w' => ∃ v, e = .returned v ∧ ∃ g, v = .slice (some ⟨g, 0, none⟩) 16 32 ∧ w.heap.size ≤ g ∧ w'.heap[g]? = some (.cells (irow .u8 (su key nonce extra text)) 23 (0, 0)) ∧ Below w.heap.size w w' := by
  have hkl : (bl key).length = 32 := by rw [bl_len, hk]
  have hcl : (bl (ck key)).length = 32 := by rw [bl_len, ck_len]
  have hdl : (bl (tk key)).length = 32 := by rw [bl_len, tk_len]
  have hiN := info_bl infoN nonce hno
  obtain ⟨ue, uec, rfl⟩ : ∃ ao cap, ve = .slice ao extra.length cap := by
    obtain ⟨⟨ao, cap, h, _⟩, _⟩ := hE
    rw [bl_len] at h
    exact ⟨ao, cap, h⟩
  obtain ⟨ut, utc, rfl⟩ : ∃ ao cap, vt = .slice ao text.length cap := by
    obtain ⟨⟨ao, cap, h, _⟩, _⟩ := hT
    rw [bl_len] at h
    exact ⟨ao, cap, h⟩
  have R0 := hp2_0 w (.cells (irow .u8 (bl key)) 23) (.cells (irow .u8 (bl nonce)) 28)
  have R1 := hp2_1 w (.cells (irow .u8 (bl key)) 23) (.cells (irow .u8 (bl nonce)) 28)
  have hw : Below w.heap.size w ((w.alloc (.cells (irow .u8 (bl key)) 23)).alloc (.cells (irow .u8 (bl nonce)) 28)) := (((Below.refl _ _).alloc (Nat.le_refl _) _).alloc (by simp) _)
  have hEh : Hid (∀ V, Below w.heap.size w V → BysB V (.slice ue extra.length uec) extra) := hide (fun V h => hE.keep h)
  have hTh : Hid (∀ V, Below w.heap.size w V → BysB V (.slice ut text.length utc) text) := hide (fun V h => hT.keep h)
  clear hE hT
  have hHl := su_len key nonce extra text
  have hul := undB_len nonce extra text
  replace hul := hide hul
  go_enter Tryd.func29, Tryd.ntmps29
  go_wp2_with (first | (refine wpList_box rfl 23 _ rfl _ rfl (bK _) ?_) | (refine wpList_box rfl 28 _ rfl _ rfl (bNo _) ?_) | (refine wpList_load_want rfl 23 _ rfl (w.heap.size) rfl 23 (irow .u8 (bl key)) (0, 0) _ R0 Tryd.underlying23 rfl (infok8 _ hkl) ?_) | fail)
  try simp only [size_alloc1, Act.put, List.setIfInBounds_toArray, List.set_cons_succ, List.set_cons_zero]
  generalize ((w.alloc (.cells (irow .u8 (bl key)) 23)).alloc (.cells (irow .u8 (bl nonce)) 28)) = w0 at *
  refine (q_keys key hk w0).mono ?_
  rintro e_ w1 ⟨rfl, hb⟩
  replace R0 := keep hb R0
  replace R1 := keep hb R1
  replace hw := Below.after hw hb
  clear hb
  have l1g_ := lt_of_row R1
  have z1 := hp2_0 w1 (.cells (irow .u8 (zr 32)) 23) (.cells (irow .u8 (zr 32)) 23)
  have z2 := hp2_1 w1 (.cells (irow .u8 (zr 32)) 23) (.cells (irow .u8 (zr 32)) 23)
  have z3 := (setRow_other ((w1.alloc (.cells (irow .u8 (zr 32)) 23)).alloc (.cells (irow .u8 (zr 32)) 23)) (w1.heap.size) (w1.heap.size + 1) (irow .u8 (bl (ck key))) (by omega)).trans z2
  have rC := (setRow_other (((w1.alloc (.cells (irow .u8 (zr 32)) 23)).alloc (.cells (irow .u8 (zr 32)) 23)).setRow (w1.heap.size) (irow .u8 (bl (ck key)))) (w1.heap.size + 1) (w1.heap.size) (irow .u8 (bl (tk key))) (by omega)).trans (setRow_heap ((w1.alloc (.cells (irow .u8 (zr 32)) 23)).alloc (.cells (irow .u8 (zr 32)) 23)) (w1.heap.size) _ (irow .u8 (bl (ck key))) _ _ z1)
  have rD := setRow_heap (((w1.alloc (.cells (irow .u8 (zr 32)) 23)).alloc (.cells (irow .u8 (zr 32)) 23)).setRow (w1.heap.size) (irow .u8 (bl (ck key)))) (w1.heap.size + 1) _ (irow .u8 (bl (tk key))) _ _ z3
  have hbF : Below w1.heap.size w1 ((((w1.alloc (.cells (irow .u8 (zr 32)) 23)).alloc (.cells (irow .u8 (zr 32)) 23)).setRow (w1.heap.size) (irow .u8 (bl (ck key)))).setRow (w1.heap.size + 1) (irow .u8 (bl (tk key)))) := below_setRow (below_setRow (((Below.refl _ _).alloc (Nat.le_refl _) _).alloc (by simp) _) (Nat.le_refl _) (irow .u8 (bl (ck key)))) (Nat.le_succ _) (irow .u8 (bl (tk key)))
  replace R0 := keep hbF R0
  replace R1 := keep hbF R1
  go_wp2_with (first | (refine wpList_alloc rfl 23 rfl (irow .u8 (zr 32)) zkey ?_) | (refine wpList_store_row rfl 23 _ _ rfl (w1.heap.size) (irow .u8 (bl (ck key))) rfl rfl 23 _ z1 (infok8 _ hcl) (fit32 _ _ (zr_len 32) hcl) (irow_one _ _) ?_; refine wpList_stay ?_) | fail)
  unfold WpStay
  go_wp2_with (first | (refine wpList_store_row rfl 23 _ _ rfl (w1.heap.size + 1) (irow .u8 (bl (tk key))) rfl rfl 23 _ z3 (infok8 _ hdl) (fit32 _ _ (zr_len 32) hdl) (irow_one _ _) ?_; refine wpList_stay ?_) | fail)
  unfold WpStay
  clear z1 z2 z3
  generalize ((((w1.alloc (.cells (irow .u8 (zr 32)) 23)).alloc (.cells (irow .u8 (zr 32)) 23)).setRow (w1.heap.size) (irow .u8 (bl (ck key)))).setRow (w1.heap.size + 1) (irow .u8 (bl (tk key)))) = w2 at *
  have l1g : w.heap.size + 1 < w1.heap.size := l1g_
  clear l1g_
  replace hw := Below.after hw hbF
  clear hbF
  generalize w1.heap.size = g1 at *
  have sk := slice_k (g1 + 1)
  clear rC R0
  have l2g := lt_of_row rD
  go_wp2_with (fail)
  have hbd : Below w2.heap.size w2 w2.drew := below_drN (Below.refl _ _) 1
  replace R1 := keep hbd R1
  replace rD := keep hbd rD
  replace hw := Below.after hw hbd
  clear hbd
  refine wp_region_noPanic ?_
  refine wp_region_held (S := fun W => W.heap[w.heap.size + 1]? = some (.cells (irow .u8 (bl nonce)) 28 (0, 0))) (by kernel_rfl) ?_
  change wpAnyH _ _ _ _ _ _ _ _ (World.drew _)
  generalize w2.drew = w3 at *
  refine wpAnyH_take (i := 0) (v := ?v1) rfl (by kernel_rfl) (by kernel_rfl) (by kernel_rfl) (fun _ _ _ h => h) (Or.inl ⟨by rfl, ?y1⟩) (R1) ?r1
  case y1 =>
    intro w_ hS_
    go_simp
    try with_reducible rfl
  simp only [Act.put, List.getElem_toArray, List.getElem_cons_zero, List.setIfInBounds_toArray, List.set_cons_succ, List.set_cons_zero]
  refine wpAnyH_take (i := 1) (v := .agg (irow .u8 (bl nonce))) rfl (by kernel_rfl) (by kernel_rfl) (by kernel_rfl) (fun _ _ _ h => h) (Or.inl ⟨by rfl, ?y2⟩) (R1) ?r2
  case y2 =>
    intro w_ hS_
    simp only [List.getElem_toArray, List.getElem_cons_succ, List.getElem_cons_zero]
    exact run_load_part 28 _ (by rfl) (w.heap.size + 1) 0 (by rfl) 28 (irow .u8 (bl nonce)) (0, 0) (irow .u8 (bl nonce)) _ (hS_) (all_row _) Tryd.underlying28 rfl hiN
  simp only [Act.put, List.getElem_toArray, List.getElem_cons_succ, List.getElem_cons_zero, List.setIfInBounds_toArray, List.set_cons_succ, List.set_cons_zero]
  refine wpAnyH_take (i := 2) (v := ?v3) rfl (by kernel_rfl) (by kernel_rfl) (by kernel_rfl) (fun _ _ _ h => h) (Or.inl ⟨by rfl, ?y3⟩) (R1) ?r3
  case y3 =>
    intro w_ hS_
    go_simp
    try with_reducible rfl
  simp only [Act.put, List.getElem_toArray, List.getElem_cons_succ, List.getElem_cons_zero, List.setIfInBounds_toArray, List.set_cons_succ, List.set_cons_zero]
  refine wpAnyH_take (i := 3) (v := ?v4) rfl (by kernel_rfl) (by kernel_rfl) (by kernel_rfl) (fun _ _ _ h => h) (Or.inl ⟨by rfl, ?y4⟩) (R1) ?r4
  case y4 =>
    intro w_ hS_
    go_simp
    try with_reducible rfl
  simp only [Act.put, List.getElem_toArray, List.getElem_cons_succ, List.getElem_cons_zero, List.setIfInBounds_toArray, List.set_cons_succ, List.set_cons_zero]
  refine wpAnyH_two (j := 4) (k := 6) (fuel := 3) (by kernel_rfl) rfl rfl (by kernel_rfl) (by kernel_rfl) (fun K_ hK_ => ?_) (fun K_ hK_ => ?_)
  · refine wp_call_ex (f := 48) (by kernel_rfl) (q_under nonce extra text hno w3 _ _ (hEh.out _ hw) (hTh.out _ hw) hl) (fun v_ q1 hX_ => ?_)
    obtain ⟨hU, hb_⟩ := hX_
    replace R1 := keep hb_ R1
    replace rD := keep hb_ rD
    replace hw := Below.after hw hb_
    clear hb_
    refine hK_ _ _ (R1) ?_
    simp only [Act.put, List.getElem_toArray, List.getElem_cons_succ, List.getElem_cons_zero, List.setIfInBounds_toArray, List.set_cons_succ, List.set_cons_zero]
    clear hK_
    refine wpAnyH_two (j := 5) (k := 6) (fuel := 2) (by kernel_rfl) rfl rfl (by kernel_rfl) (by kernel_rfl) (fun K_ hK_ => ?_) (fun K_ hK_ => ?_)
    · have hM1 : BysM q1 (.slice (some ⟨g1 + 1, 0, none⟩) 32 32) (bl (tk key)) := by
        have h := Bys.of_row rD (by omega) (bl_bnd _) 32
        rw [hdl] at h
        exact ⟨h, by omega, fun a l c h h2 => by cases h; cases h2⟩
      have hM2 : BysM q1 v_ (und nonce extra text) := by
        have h := hU.bysB (by rw [hul.out]; omega)
        rw [← bl_undB]
        exact ⟨h.1, by rw [bl_len, hul.out]; omega, h.2.2⟩
      have cU : Calls Tryd.prog 39 #[.slice (some ⟨g1 + 1, 0, none⟩) 32 32, v_] q1 fun e w' => e = .returned (.agg (irow .u8 (su key nonce extra text))) ∧ Below q1.heap.size q1 w' := r_sum4 (bl (tk key)) (und nonce extra text) q1 _ _ hM1 hM2 (by rw [← bl_undB, bl_len, hul.out]; omega)
      clear hM1 hM2
      clear hU
      refine wp_call_ex (f := 39) (by kernel_rfl) (ex1s cU) (fun v_ q2 hX_ => ?_)
      obtain ⟨rfl, hb_⟩ := hX_
      replace R1 := keep hb_ R1
      replace rD := keep hb_ rD
      replace hw := Below.after hw hb_
      clear hb_
      clear cU
      refine hK_ _ _ (R1) ?_
      simp only [Act.put, List.getElem_toArray, List.getElem_cons_succ, List.getElem_cons_zero, List.setIfInBounds_toArray, List.set_cons_succ, List.set_cons_zero]
      clear hK_
      refine wpAnyH_one (k := 6) (fuel := 1) (by kernel_rfl) rfl (by kernel_rfl) (fun K_ hK_ => ?_)
      refine wp_world_op (.pointer (some ⟨q2.heap.size, 0, none⟩)) (q2.alloc (.cells (irow .u8 (zr 32)) 23)) (by kernel_rfl) ?_
      have hb_ : Below q2.heap.size q2 (q2.alloc (.cells (irow .u8 (zr 32)) 23)) := (Below.refl _ _).alloc (Nat.le_refl _) _
      have sz_g4 : w.heap.size ≤ q2.heap.size := hw.size
      have lt_R1_g4 := lt_of_row R1
      have lt_rD_g4 := lt_of_row rD
      have rA := hp1_0 q2 (.cells (irow .u8 (zr 32)) 23)
      replace R1 := keep hb_ R1
      replace rD := keep hb_ rD
      replace hw := Below.after hw hb_
      clear hb_
      refine hK_ _ _ (R1) ?_
      simp only [Act.put, List.getElem_toArray, List.getElem_cons_succ, List.getElem_cons_zero, List.setIfInBounds_toArray, List.set_cons_succ, List.set_cons_zero]
      clear hK_
      generalize q2.alloc (.cells (irow .u8 (zr 32)) 23) = q3 at *
      generalize q2.heap.size = g4 at *
      refine wpAnyH_one (k := 7) (fuel := 0) (by kernel_rfl) rfl (by kernel_rfl) (fun K_ hK_ => ?_)
      refine wp_store_row 23 _ _ rfl (g4) (irow .u8 (su key nonce extra text)) rfl rfl 23 _ rA (infok8 _ hHl) (fit32 _ _ (zr_len 32) hHl) (irow_one _ _) ?_
      replace R1 := (setRow_other q3 (g4) (w.heap.size + 1) (irow .u8 (su key nonce extra text)) (by omega)).trans R1
      replace rA := setRow_heap q3 (g4) _ (irow .u8 (su key nonce extra text)) _ _ rA
      replace hw := below_setRow hw (show w.heap.size ≤ g4 by omega) (irow .u8 (su key nonce extra text))
      refine hK_ _ _ (R1) ?_
      simp only [Act.put]
      clear hK_
      generalize q3.setRow (g4) (irow .u8 (su key nonce extra text)) = q5 at *
      refine wpAnyH_done (by kernel_rfl) ?_ _
      refine NoPanic.normal ?_
      have s16 := slice_16 g4
      go_wp2
      go_ret
      exact ⟨_, rfl, g4, rfl, by omega, rA, hw⟩
    · refine wp_world_op (.pointer (some ⟨q1.heap.size, 0, none⟩)) (q1.alloc (.cells (irow .u8 (zr 32)) 23)) (by kernel_rfl) ?_
      have hb_ : Below q1.heap.size q1 (q1.alloc (.cells (irow .u8 (zr 32)) 23)) := (Below.refl _ _).alloc (Nat.le_refl _) _
      have sz_g7 : w.heap.size ≤ q1.heap.size := hw.size
      have lt_R1_g7 := lt_of_row R1
      have lt_rD_g7 := lt_of_row rD
      have rA := hp1_0 q1 (.cells (irow .u8 (zr 32)) 23)
      replace R1 := keep hb_ R1
      replace rD := keep hb_ rD
      replace hU := hU.keep hb_
      replace hw := Below.after hw hb_
      clear hb_
      refine hK_ _ _ (R1) ?_
      simp only [Act.put, List.getElem_toArray, List.getElem_cons_succ, List.getElem_cons_zero, List.setIfInBounds_toArray, List.set_cons_succ, List.set_cons_zero]
      clear hK_
      generalize q1.alloc (.cells (irow .u8 (zr 32)) 23) = q6 at *
      generalize q1.heap.size = g7 at *
      refine wpAnyH_one (k := 5) (fuel := 1) (by kernel_rfl) rfl (by kernel_rfl) (fun K_ hK_ => ?_)
      have hM1 : BysM q6 (.slice (some ⟨g1 + 1, 0, none⟩) 32 32) (bl (tk key)) := by
        have h := Bys.of_row rD (by omega) (bl_bnd _) 32
        rw [hdl] at h
        exact ⟨h, by omega, fun a l c h h2 => by cases h; cases h2⟩
      have hM2 : BysM q6 v_ (und nonce extra text) := by
        have h := hU.bysB (by rw [hul.out]; omega)
        rw [← bl_undB]
        exact ⟨h.1, by rw [bl_len, hul.out]; omega, h.2.2⟩
      have cU : Calls Tryd.prog 39 #[.slice (some ⟨g1 + 1, 0, none⟩) 32 32, v_] q6 fun e w' => e = .returned (.agg (irow .u8 (su key nonce extra text))) ∧ Below q6.heap.size q6 w' := r_sum4 (bl (tk key)) (und nonce extra text) q6 _ _ hM1 hM2 (by rw [← bl_undB, bl_len, hul.out]; omega)
      clear hM1 hM2
      clear hU
      refine wp_call_ex (f := 39) (by kernel_rfl) (ex1s cU) (fun v_ q8 hX_ => ?_)
      obtain ⟨rfl, hb_⟩ := hX_
      replace R1 := keep hb_ R1
      replace rD := keep hb_ rD
      replace rA := keep hb_ rA
      replace hw := Below.after hw hb_
      clear hb_
      clear cU
      refine hK_ _ _ (R1) ?_
      simp only [Act.put, List.getElem_toArray, List.getElem_cons_succ, List.getElem_cons_zero, List.setIfInBounds_toArray, List.set_cons_succ, List.set_cons_zero]
      clear hK_
      refine wpAnyH_one (k := 7) (fuel := 0) (by kernel_rfl) rfl (by kernel_rfl) (fun K_ hK_ => ?_)
      refine wp_store_row 23 _ _ rfl (g7) (irow .u8 (su key nonce extra text)) rfl rfl 23 _ rA (infok8 _ hHl) (fit32 _ _ (zr_len 32) hHl) (irow_one _ _) ?_
      replace R1 := (setRow_other q8 (g7) (w.heap.size + 1) (irow .u8 (su key nonce extra text)) (by omega)).trans R1
      replace rA := setRow_heap q8 (g7) _ (irow .u8 (su key nonce extra text)) _ _ rA
      replace hw := below_setRow hw (show w.heap.size ≤ g7 by omega) (irow .u8 (su key nonce extra text))
      refine hK_ _ _ (R1) ?_
      simp only [Act.put]
      clear hK_
      generalize q8.setRow (g7) (irow .u8 (su key nonce extra text)) = q9 at *
      refine wpAnyH_done (by kernel_rfl) ?_ _
      refine NoPanic.normal ?_
      have s16 := slice_16 g7
      go_wp2
      go_ret
      exact ⟨_, rfl, g7, rfl, by omega, rA, hw⟩
  · refine wp_world_op (.pointer (some ⟨w3.heap.size, 0, none⟩)) (w3.alloc (.cells (irow .u8 (zr 32)) 23)) (by kernel_rfl) ?_
    have hb_ : Below w3.heap.size w3 (w3.alloc (.cells (irow .u8 (zr 32)) 23)) := (Below.refl _ _).alloc (Nat.le_refl _) _
    have sz_g11 : w.heap.size ≤ w3.heap.size := hw.size
    have lt_R1_g11 := lt_of_row R1
    have lt_rD_g11 := lt_of_row rD
    have rA := hp1_0 w3 (.cells (irow .u8 (zr 32)) 23)
    replace R1 := keep hb_ R1
    replace rD := keep hb_ rD
    replace hw := Below.after hw hb_
    clear hb_
    refine hK_ _ _ (R1) ?_
    simp only [Act.put, List.getElem_toArray, List.getElem_cons_succ, List.getElem_cons_zero, List.setIfInBounds_toArray, List.set_cons_succ, List.set_cons_zero]
    clear hK_
    generalize w3.alloc (.cells (irow .u8 (zr 32)) 23) = q10 at *
    generalize w3.heap.size = g11 at *
    refine wpAnyH_one (k := 4) (fuel := 2) (by kernel_rfl) rfl (by kernel_rfl) (fun K_ hK_ => ?_)
    refine wp_call_ex (f := 48) (by kernel_rfl) (q_under nonce extra text hno q10 _ _ (hEh.out _ hw) (hTh.out _ hw) hl) (fun v_ q12 hX_ => ?_)
    obtain ⟨hU, hb_⟩ := hX_
    replace R1 := keep hb_ R1
    replace rD := keep hb_ rD
    replace rA := keep hb_ rA
    replace hw := Below.after hw hb_
    clear hb_
    refine hK_ _ _ (R1) ?_
    simp only [Act.put, List.getElem_toArray, List.getElem_cons_succ, List.getElem_cons_zero, List.setIfInBounds_toArray, List.set_cons_succ, List.set_cons_zero]
    clear hK_
    refine wpAnyH_one (k := 5) (fuel := 1) (by kernel_rfl) rfl (by kernel_rfl) (fun K_ hK_ => ?_)
    have hM1 : BysM q12 (.slice (some ⟨g1 + 1, 0, none⟩) 32 32) (bl (tk key)) := by
      have h := Bys.of_row rD (by omega) (bl_bnd _) 32
      rw [hdl] at h
      exact ⟨h, by omega, fun a l c h h2 => by cases h; cases h2⟩
    have hM2 : BysM q12 v_ (und nonce extra text) := by
      have h := hU.bysB (by rw [hul.out]; omega)
      rw [← bl_undB]
      exact ⟨h.1, by rw [bl_len, hul.out]; omega, h.2.2⟩
    have cU : Calls Tryd.prog 39 #[.slice (some ⟨g1 + 1, 0, none⟩) 32 32, v_] q12 fun e w' => e = .returned (.agg (irow .u8 (su key nonce extra text))) ∧ Below q12.heap.size q12 w' := r_sum4 (bl (tk key)) (und nonce extra text) q12 _ _ hM1 hM2 (by rw [← bl_undB, bl_len, hul.out]; omega)
    clear hM1 hM2
    clear hU
    refine wp_call_ex (f := 39) (by kernel_rfl) (ex1s cU) (fun v_ q13 hX_ => ?_)
    obtain ⟨rfl, hb_⟩ := hX_
    replace R1 := keep hb_ R1
    replace rD := keep hb_ rD
    replace rA := keep hb_ rA
    replace hw := Below.after hw hb_
    clear hb_
    clear cU
    refine hK_ _ _ (R1) ?_
    simp only [Act.put, List.getElem_toArray, List.getElem_cons_succ, List.getElem_cons_zero, List.setIfInBounds_toArray, List.set_cons_succ, List.set_cons_zero]
    clear hK_
    refine wpAnyH_one (k := 7) (fuel := 0) (by kernel_rfl) rfl (by kernel_rfl) (fun K_ hK_ => ?_)
    refine wp_store_row 23 _ _ rfl (g11) (irow .u8 (su key nonce extra text)) rfl rfl 23 _ rA (infok8 _ hHl) (fit32 _ _ (zr_len 32) hHl) (irow_one _ _) ?_
    replace R1 := (setRow_other q13 (g11) (w.heap.size + 1) (irow .u8 (su key nonce extra text)) (by omega)).trans R1
    replace rA := setRow_heap q13 (g11) _ (irow .u8 (su key nonce extra text)) _ _ rA
    replace hw := below_setRow hw (show w.heap.size ≤ g11 by omega) (irow .u8 (su key nonce extra text))
    refine hK_ _ _ (R1) ?_
    simp only [Act.put]
    clear hK_
    generalize q13.setRow (g11) (irow .u8 (su key nonce extra text)) = q14 at *
    refine wpAnyH_done (by kernel_rfl) ?_ _
    refine NoPanic.normal ?_
    have s16 := slice_16 g11
    go_wp2
    go_ret
    exact ⟨_, rfl, g11, rfl, by omega, rA, hw⟩
set_option maxRecDepth 100000 in
set_option maxHeartbeats 4000000 in
theorem q_seal_long (key nonce extra plain : List B) (w : World) (ve vp : Value) (hE : BysB w ve extra) (hP : BysB w vp plain) (hlong : 2097216 < extra.length ∨ 2097216 < plain.length) : Calls Tryd.prog 13 #[.agg (irow .u8 (bl key)), .agg (irow .u8 (bl nonce)), ve, vp] w fun e w' => e = .returned (.tuple #[.slice none 0 0, .int .i64 2]) ∧ Below w.heap.size w w' := by
  obtain ⟨ue, uec, rfl⟩ : ∃ ao cap, ve = .slice ao extra.length cap := by
    obtain ⟨⟨ao, cap, h, _⟩, _⟩ := hE
    rw [bl_len] at h
    exact ⟨ao, cap, h⟩
  obtain ⟨up, upc, rfl⟩ : ∃ ao cap, vp = .slice ao plain.length cap := by
    obtain ⟨⟨ao, cap, h, _⟩, _⟩ := hP
    rw [bl_len] at h
    exact ⟨ao, cap, h⟩
  have R0 := hp2_0 w (.cells (irow .u8 (bl key)) 23) (.cells (irow .u8 (bl nonce)) 28)
  have R1 := hp2_1 w (.cells (irow .u8 (bl key)) 23) (.cells (irow .u8 (bl nonce)) 28)
  have hw : Below w.heap.size w ((w.alloc (.cells (irow .u8 (bl key)) 23)).alloc (.cells (irow .u8 (bl nonce)) 28)) := (((Below.refl _ _).alloc (Nat.le_refl _) _).alloc (by simp) _)
  by_cases h1 : 2097216 < extra.length
  · have q1 : decide ((2097216 : Int) < (extra.length : Int)) = true := by simp; omega
    clear hlong hE hP
    go_enter Tryd.func13, Tryd.ntmps13
    go_wp2_with (first | (refine wpList_box rfl 23 _ rfl _ rfl (bK _) ?_) | (refine wpList_box rfl 28 _ rfl _ rfl (bNo _) ?_) | fail)
    go_ret2
    exact ⟨rfl, hw⟩
  · have q1 : decide ((2097216 : Int) < (extra.length : Int)) = false := by simp; omega
    have q2 : decide ((2097216 : Int) < (plain.length : Int)) = true := by simp; omega
    clear hlong hE hP
    go_enter Tryd.func13, Tryd.ntmps13
    go_wp2_with (first | (refine wpList_box rfl 23 _ rfl _ rfl (bK _) ?_) | (refine wpList_box rfl 28 _ rfl _ rfl (bNo _) ?_) | fail)
    go_ret2
    exact ⟨rfl, hw⟩
set_option maxRecDepth 100000 in
set_option maxHeartbeats 4000000 in
theorem q_seal_ok (key nonce extra plain : List B) (hk : key.length = 32) (hno : nonce.length = 16) (w : World) (ve vp : Value) (hE : BysB w ve extra) (hP : BysB w vp plain) (hel : extra.length ≤ 2097216) (hpl : plain.length ≤ 2097216) : Calls Tryd.prog 13 #[.agg (irow .u8 (bl key)), .agg (irow .u8 (bl nonce)), ve, vp] w fun e w' => ∃ v, e = .returned (.tuple #[v, .int .i64 0]) ∧ Own w' w.heap.size v (bx key nonce extra plain) ∧ Below w.heap.size w w' := by
  have hkl : (bl key).length = 32 := by rw [bl_len, hk]
  have hcl : (bl (ck key)).length = 32 := by rw [bl_len, ck_len]
  have hdl : (bl (tk key)).length = 32 := by rw [bl_len, tk_len]
  have hiN := info_bl infoN nonce hno
  obtain ⟨ue, uec, rfl⟩ : ∃ ao cap, ve = .slice ao extra.length cap := by
    obtain ⟨⟨ao, cap, h, _⟩, _⟩ := hE
    rw [bl_len] at h
    exact ⟨ao, cap, h⟩
  obtain ⟨up, upc, rfl⟩ : ∃ ao cap, vp = .slice ao plain.length cap := by
    obtain ⟨⟨ao, cap, h, _⟩, _⟩ := hP
    rw [bl_len] at h
    exact ⟨ao, cap, h⟩
  have R0 := hp2_0 w (.cells (irow .u8 (bl key)) 23) (.cells (irow .u8 (bl nonce)) 28)
  have R1 := hp2_1 w (.cells (irow .u8 (bl key)) 23) (.cells (irow .u8 (bl nonce)) 28)
  have hw : Below w.heap.size w ((w.alloc (.cells (irow .u8 (bl key)) 23)).alloc (.cells (irow .u8 (bl nonce)) 28)) := (((Below.refl _ _).alloc (Nat.le_refl _) _).alloc (by simp) _)
  have q1 : decide ((2097216 : Int) < (extra.length : Int)) = false := by simp; omega
  have q2 : decide ((2097216 : Int) < (plain.length : Int)) = false := by simp; omega
  have hEh : Hid (∀ V, Below w.heap.size w V → BysB V (.slice ue extra.length uec) extra) := hide (fun V h => hE.keep h)
  have hPh : Hid (∀ V, Below w.heap.size w V → BysB V (.slice up plain.length upc) plain) := hide (fun V h => hP.keep h)
  clear hE hP
  go_enter Tryd.func13, Tryd.ntmps13
  go_wp2_with (first | (refine wpList_box rfl 23 _ rfl _ rfl (bK _) ?_) | (refine wpList_box rfl 28 _ rfl _ rfl (bNo _) ?_) | (refine wpList_load_want rfl 23 _ rfl (w.heap.size) rfl 23 (irow .u8 (bl key)) (0, 0) _ R0 Tryd.underlying23 rfl (infok8 _ hkl) ?_) | fail)
  try simp only [size_alloc1, Act.put, List.setIfInBounds_toArray, List.set_cons_succ, List.set_cons_zero]
  clear q1 q2
  generalize ((w.alloc (.cells (irow .u8 (bl key)) 23)).alloc (.cells (irow .u8 (bl nonce)) 28)) = w0 at *
  refine (q_keys key hk w0).mono ?_
  rintro e_ w1 ⟨rfl, hb⟩
  replace R0 := keep hb R0
  replace R1 := keep hb R1
  replace hw := Below.after hw hb
  clear hb
  have l1g_ := lt_of_row R1
  have z1 := hp2_0 w1 (.cells (irow .u8 (zr 32)) 23) (.cells (irow .u8 (zr 32)) 23)
  have z2 := hp2_1 w1 (.cells (irow .u8 (zr 32)) 23) (.cells (irow .u8 (zr 32)) 23)
  have z3 := (setRow_other ((w1.alloc (.cells (irow .u8 (zr 32)) 23)).alloc (.cells (irow .u8 (zr 32)) 23)) (w1.heap.size) (w1.heap.size + 1) (irow .u8 (bl (ck key))) (by omega)).trans z2
  have rC := (setRow_other (((w1.alloc (.cells (irow .u8 (zr 32)) 23)).alloc (.cells (irow .u8 (zr 32)) 23)).setRow (w1.heap.size) (irow .u8 (bl (ck key)))) (w1.heap.size + 1) (w1.heap.size) (irow .u8 (bl (tk key))) (by omega)).trans (setRow_heap ((w1.alloc (.cells (irow .u8 (zr 32)) 23)).alloc (.cells (irow .u8 (zr 32)) 23)) (w1.heap.size) _ (irow .u8 (bl (ck key))) _ _ z1)
  have rD := setRow_heap (((w1.alloc (.cells (irow .u8 (zr 32)) 23)).alloc (.cells (irow .u8 (zr 32)) 23)).setRow (w1.heap.size) (irow .u8 (bl (ck key)))) (w1.heap.size + 1) _ (irow .u8 (bl (tk key))) _ _ z3
  have hbF : Below w1.heap.size w1 ((((w1.alloc (.cells (irow .u8 (zr 32)) 23)).alloc (.cells (irow .u8 (zr 32)) 23)).setRow (w1.heap.size) (irow .u8 (bl (ck key)))).setRow (w1.heap.size + 1) (irow .u8 (bl (tk key)))) := below_setRow (below_setRow (((Below.refl _ _).alloc (Nat.le_refl _) _).alloc (by simp) _) (Nat.le_refl _) (irow .u8 (bl (ck key)))) (Nat.le_succ _) (irow .u8 (bl (tk key)))
  replace R0 := keep hbF R0
  replace R1 := keep hbF R1
  go_wp2_with (first | (refine wpList_alloc rfl 23 rfl (irow .u8 (zr 32)) zkey ?_) | (refine wpList_store_row rfl 23 _ _ rfl (w1.heap.size) (irow .u8 (bl (ck key))) rfl rfl 23 _ z1 (infok8 _ hcl) (fit32 _ _ (zr_len 32) hcl) (irow_one _ _) ?_; refine wpList_stay ?_) | fail)
  unfold WpStay
  go_wp2_with (first | (refine wpList_store_row rfl 23 _ _ rfl (w1.heap.size + 1) (irow .u8 (bl (tk key))) rfl rfl 23 _ z3 (infok8 _ hdl) (fit32 _ _ (zr_len 32) hdl) (irow_one _ _) ?_; refine wpList_stay ?_) | fail)
  unfold WpStay
  clear z1 z2 z3
  generalize ((((w1.alloc (.cells (irow .u8 (zr 32)) 23)).alloc (.cells (irow .u8 (zr 32)) 23)).setRow (w1.heap.size) (irow .u8 (bl (ck key)))).setRow (w1.heap.size + 1) (irow .u8 (bl (tk key)))) = w2 at *
  have l1g : w.heap.size + 1 < w1.heap.size := l1g_
  clear l1g_
  replace hw := Below.after hw hbF
  clear hbF
  generalize w1.heap.size = g1 at *
  clear rD
  go_wp2_with (first | (refine wpList_load_want rfl 23 _ rfl (g1) rfl 23 (irow .u8 (bl (ck key))) (0, 0) _ rC Tryd.underlying23 rfl (infok8 _ hcl) ?_) | (refine wpList_load_want rfl 28 _ rfl (w.heap.size + 1) rfl 28 (irow .u8 (bl nonce)) (0, 0) _ R1 Tryd.underlying28 rfl hiN ?_) | fail)
  refine (r_crypt (ck key) nonce (ck_len _) hno 0 (by decide) plain w2 _ (hPh.out _ hw)).mono ?_
  rintro e_ w3 ⟨vt, rfl, hT, hb⟩
  replace hT : Own w3 w2.heap.size vt (cfx key nonce plain) := hT
  have hbx : Hid (bx key nonce extra plain = cfx key nonce plain ++ lb ((su key nonce extra (cfx key nonce plain)).take 16)) := hide rfl
  have hTl : Hid ((cfx key nonce plain).length = plain.length) := hide (cfx_len _ _ _)
  generalize cfx key nonce plain = T at *
  obtain ⟨aot, act, rfl⟩ := slen_own hT
  replace R0 := keep hb R0
  replace R1 := keep hb R1
  replace hw := Below.after hw hb
  clear hb
  clear rC
  have hs3 := hw.size
  have hba : Below w3.heap.size w3 (w3.alloc (.cells #[] 5)) := (Below.refl _ _).alloc (Nat.le_refl _) _
  have hO0 := own_nil5 w3
  go_wp2_with (at_builtin; refine wpList_append_B rfl (.tmp 31) (.tmp 32) rfl w3.heap.size _ [] rfl hO0 _ T rfl ((hT.keep hba).bysB (by rw [hTl.out]; omega)) (by rw [List.length_nil, hTl.out]; omega) hba.size ?_)
  intro v4 w4 hX hgr
  replace hX : Own w4 w3.heap.size v4 T := hX
  have hb : Below w3.heap.size w3 w4 := hba.grown hgr hba.size (own_low hO0)
  have hs34 := hb.size
  obtain ⟨ao4, ac4, rfl⟩ := slen_own hX
  clear hba hO0 hgr
  replace R0 := keep hb R0
  replace R1 := keep hb R1
  replace hT := hT.keep hb
  replace hw := Below.after hw hb
  clear hb
  go_wp2_with (first | (refine wpList_load_want rfl 23 _ rfl (w.heap.size) rfl 23 (irow .u8 (bl key)) (0, 0) _ R0 Tryd.underlying23 rfl (infok8 _ hkl) ?_) | (refine wpList_load_want rfl 28 _ rfl (w.heap.size + 1) rfl 28 (irow .u8 (bl nonce)) (0, 0) _ R1 Tryd.underlying28 rfl hiN ?_) | fail)
  refine (q_tag key nonce extra T hk hno w4 _ _ (hEh.out _ hw) (hT.bysB (by rw [hTl.out]; omega)) (by rw [hTl.out]; omega)).mono ?_
  rintro e_ w5 ⟨_, rfl, gt, rfl, lgt, rt, hb⟩
  have hs4 := hb.size
  replace hX := hX.keep hb
  replace hw := Below.after hw hb
  clear hb
  clear R0 R1 hT
  have hHl := su_len key nonce extra T
  have hHz := su_bd key nonce extra T
  generalize su key nonce extra T = H at *
  have hBt := tag_bys rt hHl hHz
  have htl : Hid ((lb (H.take 16)).length = 16) := hide (by rw [lb_len, List.length_take]; omega)
  generalize lb (H.take 16) = G at *
  go_wp2_with (at_builtin; refine wpList_append_B rfl (.tmp 34) (.tmp 39) rfl w3.heap.size _ T rfl hX _ G rfl hBt (by rw [hTl.out, htl.out]; omega) (by omega) ?_)
  intro v6 w6 hY hgr
  replace hw := hw.grown hgr hw.size (fun k h => by have := own_low hX k h; omega)
  rw [← hbx.out] at hY
  generalize eY : bx key nonce extra plain = Y at *
  replace eY := hide eY
  obtain ⟨ao6, ac6, rfl⟩ := slen_own hY
  clear hgr hX hBt rt
  go_wp2
  go_ret2
  exact ⟨_, rfl, by rw [eY.out]; exact own_down hY hs3, hw⟩
theorem q_seal (key nonce extra plain : List B) (hk : key.length = 32) (hno : nonce.length = 16) (w : World) (ve vp : Value) (hE : BysB w ve extra) (hP : BysB w vp plain) : Calls Tryd.prog 13 #[.agg (irow .u8 (bl key)), .agg (irow .u8 (bl nonce)), ve, vp] w fun e w' => ∃ u, e = .returned u ∧ (∃ v, u = .tuple #[v, .int .i64 (sle extra plain)] ∧ Own w' w.heap.size v (slr key nonce extra plain)) ∧ Below w.heap.size w w' := by
  by_cases h : 2097216 < extra.length ∨ 2097216 < plain.length
  · rw [sle, slr, if_pos h, if_pos h]
    exact (q_seal_long key nonce extra plain w ve vp hE hP h).mono fun _ w' ⟨h1, h2⟩ => ⟨_, h1, ⟨_, rfl, own_none w' _⟩, h2⟩
  · rw [sle, slr, if_neg h, if_neg h]
    exact (q_seal_ok key nonce extra plain hk hno w ve vp hE hP (by omega) (by omega)).mono fun _ w' ⟨v, h1, h2, h3⟩ => ⟨_, h1, ⟨v, rfl, h2⟩, h3⟩

end Go.Proofs.YtamieopjigjfiaaDoor
