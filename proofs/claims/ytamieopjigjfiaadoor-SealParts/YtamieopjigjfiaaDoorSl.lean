import Derived.Test.YtamieopjigjfiaaDoorProg
import Derived.WalkKit
import Derived.WalkSpells
import Derived.WalkLawsBesides
import Derived.Lib.QuietBelow
import Derived.BigQuiet
import Derived.OrdersHeld
import Derived.OwnWalk
import Derived.Deep.RegionHeld3
import Derived.Test.YtamieopjigjfiaaDoorKa
import Derived.Test.YtamieopjigjfiaaDoorSy
import Derived.Test.YtamieopjigjfiaaDoorSi
import Derived.Test.YtamieopjigjfiaaDoorWo
namespace Go.Proofs.YtamieopjigjfiaaDoor
set_option maxRecDepth 100000
open Go Go.RowKit Go.Sort
attribute [local go_sem] setCell_drewN alloc_drewN

set_option maxRecDepth 100000 in
set_option maxHeartbeats 4000000 in
theorem q_open_long (key nonce extra box : List B) (w : World) (ve vb : Value) (hE : BysB w ve extra) (hB : BysB w vb box) (hlong : 2097216 < extra.length ∨ 2097232 < box.length) : Calls Tryd.prog 19 #[.agg (irow .u8 (bl key)), .agg (irow .u8 (bl nonce)), ve, vb] w fun e w' => e = .returned (.tuple #[.slice none 0 0, .int .i64 2]) ∧ Below w.heap.size w w' := by
  obtain ⟨ue, uec, rfl⟩ : ∃ ao cap, ve = .slice ao extra.length cap := by
    obtain ⟨⟨ao, cap, h, _⟩, _⟩ := hE
    rw [bl_len] at h
    exact ⟨ao, cap, h⟩
  obtain ⟨ub, ubc, rfl⟩ : ∃ ao cap, vb = .slice ao box.length cap := by
    obtain ⟨⟨ao, cap, h, _⟩, _⟩ := hB
    rw [bl_len] at h
    exact ⟨ao, cap, h⟩
  have R0 := hp2_0 w (.cells (irow .u8 (bl key)) 23) (.cells (irow .u8 (bl nonce)) 28)
  have R1 := hp2_1 w (.cells (irow .u8 (bl key)) 23) (.cells (irow .u8 (bl nonce)) 28)
  have hw : Below w.heap.size w ((w.alloc (.cells (irow .u8 (bl key)) 23)).alloc (.cells (irow .u8 (bl nonce)) 28)) := (((Below.refl _ _).alloc (Nat.le_refl _) _).alloc (by simp) _)
  by_cases h1 : 2097216 < extra.length
  · have q1 : decide ((2097216 : Int) < (extra.length : Int)) = true := by simp; omega
    clear hlong hE hB
    go_enter Tryd.func19, Tryd.ntmps19
    go_wp2_with (first | (refine wpList_box rfl 23 _ rfl _ rfl (bK _) ?_) | (refine wpList_box rfl 28 _ rfl _ rfl (bNo _) ?_) | fail)
    go_ret2
    exact ⟨rfl, hw⟩
  · have q1 : decide ((2097216 : Int) < (extra.length : Int)) = false := by simp; omega
    have q2 : decide ((2097232 : Int) < (box.length : Int)) = true := by simp; omega
    clear hlong hE hB
    go_enter Tryd.func19, Tryd.ntmps19
    go_wp2_with (first | (refine wpList_box rfl 23 _ rfl _ rfl (bK _) ?_) | (refine wpList_box rfl 28 _ rfl _ rfl (bNo _) ?_) | fail)
    go_ret2
    exact ⟨rfl, hw⟩
set_option maxRecDepth 100000 in
set_option maxHeartbeats 4000000 in
theorem q_open_short (key nonce extra box : List B) (w : World) (ve vb : Value) (hE : BysB w ve extra) (hB : BysB w vb box) (hel : extra.length ≤ 2097216) (hsh : box.length < 16) : Calls Tryd.prog 19 #[.agg (irow .u8 (bl key)), .agg (irow .u8 (bl nonce)), ve, vb] w fun e w' => e = .returned (.tuple #[.slice none 0 0, .int .i64 60]) ∧ Below w.heap.size w w' := by
  obtain ⟨ue, uec, rfl⟩ : ∃ ao cap, ve = .slice ao extra.length cap := by
    obtain ⟨⟨ao, cap, h, _⟩, _⟩ := hE
    rw [bl_len] at h
    exact ⟨ao, cap, h⟩
  obtain ⟨ub, ubc, rfl⟩ : ∃ ao cap, vb = .slice ao box.length cap := by
    obtain ⟨⟨ao, cap, h, _⟩, _⟩ := hB
    rw [bl_len] at h
    exact ⟨ao, cap, h⟩
  have R0 := hp2_0 w (.cells (irow .u8 (bl key)) 23) (.cells (irow .u8 (bl nonce)) 28)
  have R1 := hp2_1 w (.cells (irow .u8 (bl key)) 23) (.cells (irow .u8 (bl nonce)) 28)
  have hw : Below w.heap.size w ((w.alloc (.cells (irow .u8 (bl key)) 23)).alloc (.cells (irow .u8 (bl nonce)) 28)) := (((Below.refl _ _).alloc (Nat.le_refl _) _).alloc (by simp) _)
  have q1 : decide ((2097216 : Int) < (extra.length : Int)) = false := by simp; omega
  have q2 : decide ((2097232 : Int) < (box.length : Int)) = false := by simp; omega
  have q3 : decide ((box.length : Int) < 16) = true := by simp; omega
  clear hE hB
  go_enter Tryd.func19, Tryd.ntmps19
  go_wp2_with (first | (refine wpList_box rfl 23 _ rfl _ rfl (bK _) ?_) | (refine wpList_box rfl 28 _ rfl _ rfl (bNo _) ?_) | fail)
  go_ret2
  exact ⟨rfl, hw⟩
set_option maxRecDepth 100000 in
set_option maxHeartbeats 4000000 in
theorem q_open_ok (key nonce extra box : List B) (hk : key.length = 32) (hno : nonce.length = 16) (w : World) (ve vb : Value) (hE : BysB w ve extra) (hB : BysB w vb box) (qB : ∀ a l c, vb = .slice a l c → l ≤ c) (hel : extra.length ≤ 2097216) (hbl : box.length ≤ 2097232) (h16 : 16 ≤ box.length) (hq : otg box = tg key nonce extra (obx box)) : Calls Tryd.prog 19 #[.agg (irow .u8 (bl key)), .agg (irow .u8 (bl nonce)), ve, vb] w fun e w' => ∃ v, e = .returned (.tuple #[v, .int .i64 0]) ∧ Own w' w.heap.size v (cfx key nonce (obx box)) ∧ Below w.heap.size w w' := by
  have hkl : (bl key).length = 32 := by rw [bl_len, hk]
  have hcl : (bl (ck key)).length = 32 := by rw [bl_len, ck_len]
  have hdl : (bl (tk key)).length = 32 := by rw [bl_len, tk_len]
  have hiN := info_bl infoN nonce hno
  obtain ⟨bb, bo, ubc, rfl⟩ := bysB_some hB (by omega)
  replace qB := qB _ _ _ rfl
  obtain ⟨ue, uec, rfl⟩ : ∃ ao cap, ve = .slice ao extra.length cap := by
    obtain ⟨⟨ao, cap, h, _⟩, _⟩ := hE
    rw [bl_len] at h
    exact ⟨ao, cap, h⟩
  have R0 := hp2_0 w (.cells (irow .u8 (bl key)) 23) (.cells (irow .u8 (bl nonce)) 28)
  have R1 := hp2_1 w (.cells (irow .u8 (bl key)) 23) (.cells (irow .u8 (bl nonce)) 28)
  have hw : Below w.heap.size w ((w.alloc (.cells (irow .u8 (bl key)) 23)).alloc (.cells (irow .u8 (bl nonce)) 28)) := (((Below.refl _ _).alloc (Nat.le_refl _) _).alloc (by simp) _)
  have q1 : decide ((2097216 : Int) < (extra.length : Int)) = false := by simp; omega
  have q2 : decide ((2097232 : Int) < (box.length : Int)) = false := by simp; omega
  have q3 : decide ((box.length : Int) < 16) = false := by simp; omega
  have hwr : IntKind.i64.wrap ((box.length : Int) - 16) = (box.length : Int) - 16 := by rw [IntKind.wrap_i64]; omega
  have sh := sl_head (some ⟨bb, bo, none⟩) box.length ubc h16 qB
  have st_ := sl_tail bb bo box.length ubc h16 qB
  have hEh : Hid (∀ V, Below w.heap.size w V → BysB V (.slice ue extra.length uec) extra) := hide (fun V h => hE.keep h)
  have hXh : Hid (∀ V, Below w.heap.size w V → BysB V (.slice (some ⟨bb, bo, none⟩) (box.length - 16) ubc) (obx box)) := hide (fun V h => bysB_take (hB.keep h) (by omega))
  have hBT : Bys w (.slice (some ⟨bb, bo + (box.length - 16), none⟩) 16 (ubc - (box.length - 16))) (bl (otg box)) := (bysB_drop hB (by omega) (by omega) _).1
  have hd : ((strOfNums (bl (lb ((su key nonce extra (obx box)).take 16)))).toList == (strOfNums (bl (otg box))).toList) = true := by
    rw [str_dec (bl_bnd _) (bl_bnd _), bl_dec]
    exact decide_eq_true hq.symm
  have hHl : Hid ((su key nonce extra (obx box)).length = 32) := hide (su_len _ _ _ _)
  have hHz : Hid (∀ z ∈ su key nonce extra (obx box), 0 ≤ z ∧ z < 256) := hide (su_bd _ _ _ _)
  have hxl := obx_len box
  replace hBT := hBT.keep hw
  clear hE hB hq
  generalize eX : obx box = X at *
  generalize otg box = T at *
  go_enter Tryd.func19, Tryd.ntmps19
  go_wp2_with (first | (refine wpList_box rfl 23 _ rfl _ rfl (bK _) ?_) | (refine wpList_box rfl 28 _ rfl _ rfl (bNo _) ?_) | fail)
  try simp only [size_alloc1, Act.put, List.setIfInBounds_toArray, List.set_cons_succ, List.set_cons_zero]
  generalize ((w.alloc (.cells (irow .u8 (bl key)) 23)).alloc (.cells (irow .u8 (bl nonce)) 28)) = w0 at *
  have hbd : Below w0.heap.size w0 w0.drew := below_drN (Below.refl _ _) 1
  replace R0 := keep hbd R0
  replace R1 := keep hbd R1
  replace hBT := hBT.keep hbd
  replace hw := Below.after hw hbd
  clear hbd
  refine wp_region_noPanic ?_
  refine wp_region_held (S := fun W => W.heap[w.heap.size]? = some (.cells (irow .u8 (bl key)) 23 (0, 0)) ∧ W.heap[w.heap.size + 1]? = some (.cells (irow .u8 (bl nonce)) 28 (0, 0)) ∧ Bys W (.slice (some ⟨bb, bo + (box.length - 16), none⟩) 16 (ubc - (box.length - 16))) (bl T)) (by kernel_rfl) ?_
  change wpAnyH _ _ _ _ _ _ _ _ (World.drew _)
  generalize w0.drew = w0d at *
  refine wpAnyH_take (i := 0) (v := .agg (irow .u8 (bl key))) rfl (by kernel_rfl) (by kernel_rfl) (by kernel_rfl) (fun _ _ _ h => h) (Or.inl ⟨by rfl, ?y17⟩) (⟨R0, R1, hBT⟩) ?r17
  case y17 =>
    intro w_ hS_
    simp only [List.getElem_toArray, List.getElem_cons_zero]
    exact run_load_part 23 _ (by rfl) (w.heap.size) 0 (by rfl) 23 (irow .u8 (bl key)) (0, 0) (irow .u8 (bl key)) _ (hS_.1) (all_row _) Tryd.underlying23 rfl (infok8 _ hkl)
  simp only [Act.put, List.getElem_toArray, List.getElem_cons_zero, List.setIfInBounds_toArray, List.set_cons_succ, List.set_cons_zero]
  refine wpAnyH_take (i := 1) (v := .agg (irow .u8 (bl nonce))) rfl (by kernel_rfl) (by kernel_rfl) (by kernel_rfl) (fun _ _ _ h => h) (Or.inl ⟨by rfl, ?y18⟩) (⟨R0, R1, hBT⟩) ?r18
  case y18 =>
    intro w_ hS_
    simp only [List.getElem_toArray, List.getElem_cons_succ, List.getElem_cons_zero]
    exact run_load_part 28 _ (by rfl) (w.heap.size + 1) 0 (by rfl) 28 (irow .u8 (bl nonce)) (0, 0) (irow .u8 (bl nonce)) _ (hS_.2.1) (all_row _) Tryd.underlying28 rfl hiN
  simp only [Act.put, List.getElem_toArray, List.getElem_cons_succ, List.getElem_cons_zero, List.setIfInBounds_toArray, List.set_cons_succ, List.set_cons_zero]
  refine wpAnyH_take (i := 2) (v := ?v19) rfl (by kernel_rfl) (by kernel_rfl) (by kernel_rfl) (fun _ _ _ h => h) (Or.inl ⟨by rfl, ?y19⟩) (⟨R0, R1, hBT⟩) ?r19
  case y19 =>
    intro w_ hS_
    go_simp
    try with_reducible rfl
  simp only [Act.put, List.getElem_toArray, List.getElem_cons_succ, List.getElem_cons_zero, List.setIfInBounds_toArray, List.set_cons_succ, List.set_cons_zero]
  refine wpAnyH_take (i := 3) (v := ?v20) rfl (by kernel_rfl) (by kernel_rfl) (by kernel_rfl) (fun _ _ _ h => h) (Or.inl ⟨by rfl, ?y20⟩) (⟨R0, R1, hBT⟩) ?r20
  case y20 =>
    intro w_ hS_
    go_simp
    try with_reducible rfl
  simp only [Act.put, List.getElem_toArray, List.getElem_cons_succ, List.getElem_cons_zero, List.setIfInBounds_toArray, List.set_cons_succ, List.set_cons_zero]
  refine wpAnyH_take (i := 4) (v := ?v21) rfl (by kernel_rfl) (by kernel_rfl) (by kernel_rfl) (fun _ _ _ h => h) (Or.inl ⟨by rfl, ?y21⟩) (⟨R0, R1, hBT⟩) ?r21
  case y21 =>
    intro w_ hS_
    go_simp
    try with_reducible rfl
  simp only [Act.put, List.getElem_toArray, List.getElem_cons_succ, List.getElem_cons_zero, List.setIfInBounds_toArray, List.set_cons_succ, List.set_cons_zero]
  refine wpAnyH_take (i := 5) (v := ?v22) rfl (by kernel_rfl) (by kernel_rfl) (by kernel_rfl) (fun _ _ _ h => h) (Or.inl ⟨by rfl, ?y22⟩) (⟨R0, R1, hBT⟩) ?r22
  case y22 =>
    intro w_ hS_
    go_simp
    try with_reducible rfl
  simp only [Act.put, List.getElem_toArray, List.getElem_cons_succ, List.getElem_cons_zero, List.setIfInBounds_toArray, List.set_cons_succ, List.set_cons_zero]
  refine wpAnyH_take (i := 8) (v := ?v23) rfl (by kernel_rfl) (by kernel_rfl) (by kernel_rfl) (fun _ _ _ h => h) (Or.inl ⟨by rfl, ?y23⟩) (⟨R0, R1, hBT⟩) ?r23
  case y23 =>
    intro w_ hS_
    go_simp
    try with_reducible rfl
  simp only [Act.put, List.getElem_toArray, List.getElem_cons_succ, List.getElem_cons_zero, List.setIfInBounds_toArray, List.set_cons_succ, List.set_cons_zero]
  refine wpAnyH_take (i := 9) (v := ?v24) rfl (by kernel_rfl) (by kernel_rfl) (by kernel_rfl) (fun _ _ _ h => h) (Or.inl ⟨by rfl, ?y24⟩) (⟨R0, R1, hBT⟩) ?r24
  case y24 =>
    intro w_ hS_
    go_simp
    try with_reducible rfl
  simp only [Act.put, List.getElem_toArray, List.getElem_cons_succ, List.getElem_cons_zero, List.setIfInBounds_toArray, List.set_cons_succ, List.set_cons_zero]
  refine wpAnyH_take (i := 10) (v := ?v25) rfl (by kernel_rfl) (by kernel_rfl) (by kernel_rfl) (fun _ _ _ h => h) (Or.inl ⟨by rfl, ?y25⟩) (⟨R0, R1, hBT⟩) ?r25
  case y25 =>
    intro w_ hS_
    go_simp
    try with_reducible rfl
  simp only [Act.put, List.getElem_toArray, List.getElem_cons_succ, List.getElem_cons_zero, List.setIfInBounds_toArray, List.set_cons_succ, List.set_cons_zero]
  refine wpAnyH_take (i := 11) (v := .string (strOfNums (bl T))) rfl (by kernel_rfl) (by kernel_rfl) (by kernel_rfl) (fun _ _ _ h => h) (Or.inl ⟨by rfl, ?y26⟩) (⟨R0, R1, hBT⟩) ?r26
  case y26 =>
    intro w_ hS_
    have c_ := conv_bys hS_.2.2
    go_simp
  simp only [Act.put, List.getElem_toArray, List.getElem_cons_succ, List.getElem_cons_zero, List.setIfInBounds_toArray, List.set_cons_succ, List.set_cons_zero]
  refine wpAnyH_one (k := 6) (fuel := 2) (by kernel_rfl) rfl (by kernel_rfl) (fun K_ hK_ => ?_)
  refine wp_call_ex (f := 29) (by kernel_rfl) (q_tag key nonce extra X hk hno w0d _ _ (hEh.out _ hw) (hXh.out _ hw) (by rw [hxl]; omega)) (fun v_ q15 hX_ => ?_)
  obtain ⟨gt, rfl, lgt, rt, hb_⟩ := hX_
  replace R0 := keep hb_ R0
  replace R1 := keep hb_ R1
  replace hBT := hBT.keep hb_
  replace hw := Below.after hw hb_
  clear hb_
  refine hK_ _ _ (⟨R0, R1, hBT⟩) ?_
  simp only [Act.put, List.getElem_toArray, List.getElem_cons_succ, List.getElem_cons_zero, List.setIfInBounds_toArray, List.set_cons_succ, List.set_cons_zero]
  clear hK_
  refine wpAnyH_one (k := 7) (fuel := 1) (by kernel_rfl) rfl (by kernel_rfl) (fun K_ hK_ => ?_)
  have hBt := tag_bys rt hHl.out hHz.out
  have cv_ := conv_bys hBt.1
  refine wp_world_op (.string (strOfNums (bl (lb ((su key nonce extra X).take 16))))) q15 (by go_simp) ?_
  clear cv_ hBt
  refine hK_ _ _ (⟨R0, R1, hBT⟩) ?_
  simp only [Act.put, List.getElem_toArray, List.getElem_cons_succ, List.getElem_cons_zero, List.setIfInBounds_toArray, List.set_cons_succ, List.set_cons_zero]
  clear hK_
  refine wpAnyH_take (i := 12) (v := ?v27) rfl (by kernel_rfl) (by kernel_rfl) (by kernel_rfl) (fun _ _ _ h => h) (Or.inl ⟨by rfl, ?y27⟩) (⟨R0, R1, hBT⟩) ?r27
  case y27 =>
    intro w_ hS_
    go_simp
    try with_reducible rfl
  simp only [Act.put, List.getElem_toArray, List.getElem_cons_succ, List.getElem_cons_zero, List.setIfInBounds_toArray, List.set_cons_succ, List.set_cons_zero]
  refine wpAnyH_done (by kernel_rfl) ?_ _
  refine NoPanic.normal ?_
  clear q1 q2 q3 st_ hd rt hHl hHz hBT lgt
  go_wp2_with (first | (refine wpList_load_want rfl 23 _ rfl (w.heap.size) rfl 23 (irow .u8 (bl key)) (0, 0) _ R0 Tryd.underlying23 rfl (infok8 _ hkl) ?_) | fail)
  refine (q_keys key hk q15).mono ?_
  rintro e_ w1 ⟨rfl, hb⟩
  replace R0 := keep hb R0
  replace R1 := keep hb R1
  replace hw := Below.after hw hb
  clear hb
  have l1g_ := lt_of_row R1
  have z1 := hp2_0 w1 (.cells (irow .u8 (zr 32)) 23) (.cells (irow .u8 (zr 32)) 23)
  have z2 := hp2_1 w1 (.cells (irow .u8 (zr 32)) 23) (.cells (irow .u8 (zr 32)) 23)
  have z3 := (setRow_other ((w1.alloc (.cells (irow .u8 (zr 32)) 23)).alloc (.cells (irow .u8 (zr 32)) 23)) (w1.heap.size) (w1.heap.size + 1) (irow .u8 (bl (ck key))) (by omega)).trans z2
  have rC := (setRow_other (((w1.alloc (.cells (irow .u8 (zr 32)) 23)).alloc (.cells (irow .u8 (zr 32)) 23)).setRow (w1.heap.size) (irow .u8 (bl (ck key)))) (w1.heap.size + 1) (w1.heap.size) (irow .u8 (bl (tk key))) (by omega)).trans (setRow_heap ((w1.alloc (.cells (irow .u8 (zr 32)) 23)).alloc (.cells (irow .u8 (zr 32)) 23)) (w1.heap.size) _ (irow .u8 (bl (ck key))) _ _ z1)
  have rD := setRow_heap (((w1.alloc (.cells (irow .u8 (zr 32)) 23)).alloc (.cells (irow .u8 (zr 32)) 23)).setRow (w1.heap.size) (irow .u8 (bl (ck key)))) (w1.heap.size + 1) _ (irow .u8 (bl (tk key))) _ _ z3
  have hbF : Below w1.heap.size w1 ((((w1.alloc (.cells (irow .u8 (zr 32)) 23)).alloc (.cells (irow .u8 (zr 32)) 23)).setRow (w1.heap.size) (irow .u8 (bl (ck key)))).setRow (w1.heap.size + 1) (irow .u8 (bl (tk key)))) := below_setRow (below_setRow (((Below.refl _ _).alloc (Nat.le_refl _) _).alloc (by simp) _) (Nat.le_refl _) (irow .u8 (bl (ck key)))) (Nat.le_succ _) (irow .u8 (bl (tk key)))
  replace R0 := keep hbF R0
  replace R1 := keep hbF R1
  go_wp2_with (first | (refine wpList_alloc rfl 23 rfl (irow .u8 (zr 32)) zkey ?_) | (refine wpList_store_row rfl 23 _ _ rfl (w1.heap.size) (irow .u8 (bl (ck key))) rfl rfl 23 _ z1 (infok8 _ hcl) (fit32 _ _ (zr_len 32) hcl) (irow_one _ _) ?_; refine wpList_stay ?_) | fail)
  unfold WpStay
  go_wp2_with (first | (refine wpList_store_row rfl 23 _ _ rfl (w1.heap.size + 1) (irow .u8 (bl (tk key))) rfl rfl 23 _ z3 (infok8 _ hdl) (fit32 _ _ (zr_len 32) hdl) (irow_one _ _) ?_; refine wpList_stay ?_) | fail)
  unfold WpStay
  clear z1 z2 z3
  generalize ((((w1.alloc (.cells (irow .u8 (zr 32)) 23)).alloc (.cells (irow .u8 (zr 32)) 23)).setRow (w1.heap.size) (irow .u8 (bl (ck key)))).setRow (w1.heap.size + 1) (irow .u8 (bl (tk key)))) = w2 at *
  have l1g : w.heap.size + 1 < w1.heap.size := l1g_
  clear l1g_
  replace hw := Below.after hw hbF
  clear hbF
  generalize w1.heap.size = g1 at *
  go_wp2_with (fail)
  have hbd : Below w2.heap.size w2 w2.drew := below_drN (Below.refl _ _) 1
  replace rC := keep hbd rC
  replace R1 := keep hbd R1
  replace hw := Below.after hw hbd
  clear hbd
  refine wp_region_noPanic ?_
  refine wp_region_held (S := fun W => W.heap[g1]? = some (.cells (irow .u8 (bl (ck key))) 23 (0, 0)) ∧ W.heap[w.heap.size + 1]? = some (.cells (irow .u8 (bl nonce)) 28 (0, 0))) (by kernel_rfl) ?_
  change wpAnyH _ _ _ _ _ _ _ _ (World.drew _)
  generalize w2.drew = w2d at *
  refine wpAnyH_take (i := 0) (v := .agg (irow .u8 (bl (ck key)))) rfl (by kernel_rfl) (by kernel_rfl) (by kernel_rfl) (fun _ _ _ h => h) (Or.inl ⟨by rfl, ?y28⟩) (⟨rC, R1⟩) ?r28
  case y28 =>
    intro w_ hS_
    simp only [List.getElem_toArray, List.getElem_cons_zero]
    exact run_load_part 23 _ (by rfl) (g1) 0 (by rfl) 23 (irow .u8 (bl (ck key))) (0, 0) (irow .u8 (bl (ck key))) _ (hS_.1) (all_row _) Tryd.underlying23 rfl (infok8 _ hcl)
  simp only [Act.put, List.getElem_toArray, List.getElem_cons_zero, List.setIfInBounds_toArray, List.set_cons_succ, List.set_cons_zero]
  refine wpAnyH_take (i := 1) (v := .agg (irow .u8 (bl nonce))) rfl (by kernel_rfl) (by kernel_rfl) (by kernel_rfl) (fun _ _ _ h => h) (Or.inl ⟨by rfl, ?y29⟩) (⟨rC, R1⟩) ?r29
  case y29 =>
    intro w_ hS_
    simp only [List.getElem_toArray, List.getElem_cons_succ, List.getElem_cons_zero]
    exact run_load_part 28 _ (by rfl) (w.heap.size + 1) 0 (by rfl) 28 (irow .u8 (bl nonce)) (0, 0) (irow .u8 (bl nonce)) _ (hS_.2) (all_row _) Tryd.underlying28 rfl hiN
  simp only [Act.put, List.getElem_toArray, List.getElem_cons_succ, List.getElem_cons_zero, List.setIfInBounds_toArray, List.set_cons_succ, List.set_cons_zero]
  refine wpAnyH_take (i := 2) (v := ?v30) rfl (by kernel_rfl) (by kernel_rfl) (by kernel_rfl) (fun _ _ _ h => h) (Or.inl ⟨by rfl, ?y30⟩) (⟨rC, R1⟩) ?r30
  case y30 =>
    intro w_ hS_
    go_simp
    try with_reducible rfl
  simp only [Act.put, List.getElem_toArray, List.getElem_cons_succ, List.getElem_cons_zero, List.setIfInBounds_toArray, List.set_cons_succ, List.set_cons_zero]
  refine wpAnyH_take (i := 3) (v := ?v31) rfl (by kernel_rfl) (by kernel_rfl) (by kernel_rfl) (fun _ _ _ h => h) (Or.inl ⟨by rfl, ?y31⟩) (⟨rC, R1⟩) ?r31
  case y31 =>
    intro w_ hS_
    go_simp
    try with_reducible rfl
  simp only [Act.put, List.getElem_toArray, List.getElem_cons_succ, List.getElem_cons_zero, List.setIfInBounds_toArray, List.set_cons_succ, List.set_cons_zero]
  refine wpAnyH_take (i := 4) (v := ?v32) rfl (by kernel_rfl) (by kernel_rfl) (by kernel_rfl) (fun _ _ _ h => h) (Or.inl ⟨by rfl, ?y32⟩) (⟨rC, R1⟩) ?r32
  case y32 =>
    intro w_ hS_
    go_simp
    try with_reducible rfl
  simp only [Act.put, List.getElem_toArray, List.getElem_cons_succ, List.getElem_cons_zero, List.setIfInBounds_toArray, List.set_cons_succ, List.set_cons_zero]
  refine wpAnyH_one (k := 5) (fuel := 2) (by kernel_rfl) rfl (by kernel_rfl) (fun K_ hK_ => ?_)
  have cR : ∀ (W : World), Below w.heap.size w W → Calls Tryd.prog 28 #[.agg (irow .u8 (bl (ck key))), .agg (irow .u8 (bl nonce)), .int .u64 0, (.slice (some ⟨bb, bo, none⟩) (box.length - 16) ubc)] W fun e w' => ∃ u, e = .returned u ∧ Own w' W.heap.size u (cfx key nonce X) ∧ Below W.heap.size W w' := fun W hW => r_crypt (ck key) nonce (ck_len _) hno 0 (by decide) X W _ (hXh.out _ hW)
  have hs4 := hw.size
  refine wp_call_ex (f := 28) (by kernel_rfl) (cR w2d hw) (fun v_ q16 hX_ => ?_)
  obtain ⟨hO, hb_⟩ := hX_
  replace rC := keep hb_ rC
  replace R1 := keep hb_ R1
  replace hw := Below.after hw hb_
  clear hb_
  clear cR
  generalize eY : cfx key nonce X = Y at *
  replace eY := hide eY
  obtain ⟨ao6, ac6, rfl⟩ := slen_own hO
  refine hK_ _ _ (⟨rC, R1⟩) ?_
  simp only [Act.put, List.getElem_toArray, List.getElem_cons_succ, List.getElem_cons_zero, List.setIfInBounds_toArray, List.set_cons_succ, List.set_cons_zero]
  clear hK_
  refine wpAnyH_take (i := 6) (v := ?v33) rfl (by kernel_rfl) (by kernel_rfl) (by kernel_rfl) (fun _ _ _ h => h) (Or.inl ⟨by rfl, ?y33⟩) (⟨rC, R1⟩) ?r33
  case y33 =>
    intro w_ hS_
    go_simp
    try with_reducible rfl
  simp only [Act.put, List.getElem_toArray, List.getElem_cons_succ, List.getElem_cons_zero, List.setIfInBounds_toArray, List.set_cons_succ, List.set_cons_zero]
  refine wpAnyH_take (i := 7) (v := ?v34) rfl (by kernel_rfl) (by kernel_rfl) (by kernel_rfl) (fun _ _ _ h => h) (Or.inl ⟨by rfl, ?y34⟩) (⟨rC, R1⟩) ?r34
  case y34 =>
    intro w_ hS_
    go_simp
    try with_reducible rfl
  simp only [Act.put, List.getElem_toArray, List.getElem_cons_succ, List.getElem_cons_zero, List.setIfInBounds_toArray, List.set_cons_succ, List.set_cons_zero]
  refine wpAnyH_done (by kernel_rfl) ?_ _
  refine NoPanic.normal ?_
  clear sh hwr
  go_wp2
  go_ret2
  exact ⟨_, rfl, by rw [eY.out]; exact own_down hO hs4, hw⟩
set_option maxRecDepth 100000 in
set_option maxHeartbeats 4000000 in
theorem q_open_bad (key nonce extra box : List B) (hk : key.length = 32) (hno : nonce.length = 16) (w : World) (ve vb : Value) (hE : BysB w ve extra) (hB : BysB w vb box) (qB : ∀ a l c, vb = .slice a l c → l ≤ c) (hel : extra.length ≤ 2097216) (hbl : box.length ≤ 2097232) (h16 : 16 ≤ box.length) (hq : ¬ otg box = tg key nonce extra (obx box)) : Calls Tryd.prog 19 #[.agg (irow .u8 (bl key)), .agg (irow .u8 (bl nonce)), ve, vb] w fun e w' => e = .returned (.tuple #[.slice none 0 0, .int .i64 61]) ∧ Below w.heap.size w w' := by
  have hkl : (bl key).length = 32 := by rw [bl_len, hk]
  have hcl : (bl (ck key)).length = 32 := by rw [bl_len, ck_len]
  have hdl : (bl (tk key)).length = 32 := by rw [bl_len, tk_len]
  have hiN := info_bl infoN nonce hno
  obtain ⟨bb, bo, ubc, rfl⟩ := bysB_some hB (by omega)
  replace qB := qB _ _ _ rfl
  obtain ⟨ue, uec, rfl⟩ : ∃ ao cap, ve = .slice ao extra.length cap := by
    obtain ⟨⟨ao, cap, h, _⟩, _⟩ := hE
    rw [bl_len] at h
    exact ⟨ao, cap, h⟩
  have R0 := hp2_0 w (.cells (irow .u8 (bl key)) 23) (.cells (irow .u8 (bl nonce)) 28)
  have R1 := hp2_1 w (.cells (irow .u8 (bl key)) 23) (.cells (irow .u8 (bl nonce)) 28)
  have hw : Below w.heap.size w ((w.alloc (.cells (irow .u8 (bl key)) 23)).alloc (.cells (irow .u8 (bl nonce)) 28)) := (((Below.refl _ _).alloc (Nat.le_refl _) _).alloc (by simp) _)
  have q1 : decide ((2097216 : Int) < (extra.length : Int)) = false := by simp; omega
  have q2 : decide ((2097232 : Int) < (box.length : Int)) = false := by simp; omega
  have q3 : decide ((box.length : Int) < 16) = false := by simp; omega
  have hwr : IntKind.i64.wrap ((box.length : Int) - 16) = (box.length : Int) - 16 := by rw [IntKind.wrap_i64]; omega
  have sh := sl_head (some ⟨bb, bo, none⟩) box.length ubc h16 qB
  have st_ := sl_tail bb bo box.length ubc h16 qB
  have hEh : Hid (∀ V, Below w.heap.size w V → BysB V (.slice ue extra.length uec) extra) := hide (fun V h => hE.keep h)
  have hXh : Hid (∀ V, Below w.heap.size w V → BysB V (.slice (some ⟨bb, bo, none⟩) (box.length - 16) ubc) (obx box)) := hide (fun V h => bysB_take (hB.keep h) (by omega))
  have hBT : Bys w (.slice (some ⟨bb, bo + (box.length - 16), none⟩) 16 (ubc - (box.length - 16))) (bl (otg box)) := (bysB_drop hB (by omega) (by omega) _).1
  have hd : ((strOfNums (bl (lb ((su key nonce extra (obx box)).take 16)))).toList == (strOfNums (bl (otg box))).toList) = false := by
    rw [str_dec (bl_bnd _) (bl_bnd _), bl_dec]
    exact decide_eq_false (fun e => hq e.symm)
  have hHl : Hid ((su key nonce extra (obx box)).length = 32) := hide (su_len _ _ _ _)
  have hHz : Hid (∀ z ∈ su key nonce extra (obx box), 0 ≤ z ∧ z < 256) := hide (su_bd _ _ _ _)
  have hxl := obx_len box
  replace hBT := hBT.keep hw
  clear hE hB hq
  generalize eX : obx box = X at *
  generalize otg box = T at *
  go_enter Tryd.func19, Tryd.ntmps19
  go_wp2_with (first | (refine wpList_box rfl 23 _ rfl _ rfl (bK _) ?_) | (refine wpList_box rfl 28 _ rfl _ rfl (bNo _) ?_) | fail)
  try simp only [size_alloc1, Act.put, List.setIfInBounds_toArray, List.set_cons_succ, List.set_cons_zero]
  generalize ((w.alloc (.cells (irow .u8 (bl key)) 23)).alloc (.cells (irow .u8 (bl nonce)) 28)) = w0 at *
  have hbd : Below w0.heap.size w0 w0.drew := below_drN (Below.refl _ _) 1
  replace R0 := keep hbd R0
  replace R1 := keep hbd R1
  replace hBT := hBT.keep hbd
  replace hw := Below.after hw hbd
  clear hbd
  refine wp_region_noPanic ?_
  refine wp_region_held (S := fun W => W.heap[w.heap.size]? = some (.cells (irow .u8 (bl key)) 23 (0, 0)) ∧ W.heap[w.heap.size + 1]? = some (.cells (irow .u8 (bl nonce)) 28 (0, 0)) ∧ Bys W (.slice (some ⟨bb, bo + (box.length - 16), none⟩) 16 (ubc - (box.length - 16))) (bl T)) (by kernel_rfl) ?_
  change wpAnyH _ _ _ _ _ _ _ _ (World.drew _)
  generalize w0.drew = w0d at *
  refine wpAnyH_take (i := 0) (v := .agg (irow .u8 (bl key))) rfl (by kernel_rfl) (by kernel_rfl) (by kernel_rfl) (fun _ _ _ h => h) (Or.inl ⟨by rfl, ?y35⟩) (⟨R0, R1, hBT⟩) ?r35
  case y35 =>
    intro w_ hS_
    simp only [List.getElem_toArray, List.getElem_cons_zero]
    exact run_load_part 23 _ (by rfl) (w.heap.size) 0 (by rfl) 23 (irow .u8 (bl key)) (0, 0) (irow .u8 (bl key)) _ (hS_.1) (all_row _) Tryd.underlying23 rfl (infok8 _ hkl)
  simp only [Act.put, List.getElem_toArray, List.getElem_cons_zero, List.setIfInBounds_toArray, List.set_cons_succ, List.set_cons_zero]
  refine wpAnyH_take (i := 1) (v := .agg (irow .u8 (bl nonce))) rfl (by kernel_rfl) (by kernel_rfl) (by kernel_rfl) (fun _ _ _ h => h) (Or.inl ⟨by rfl, ?y36⟩) (⟨R0, R1, hBT⟩) ?r36
  case y36 =>
    intro w_ hS_
    simp only [List.getElem_toArray, List.getElem_cons_succ, List.getElem_cons_zero]
    exact run_load_part 28 _ (by rfl) (w.heap.size + 1) 0 (by rfl) 28 (irow .u8 (bl nonce)) (0, 0) (irow .u8 (bl nonce)) _ (hS_.2.1) (all_row _) Tryd.underlying28 rfl hiN
  simp only [Act.put, List.getElem_toArray, List.getElem_cons_succ, List.getElem_cons_zero, List.setIfInBounds_toArray, List.set_cons_succ, List.set_cons_zero]
  refine wpAnyH_take (i := 2) (v := ?v37) rfl (by kernel_rfl) (by kernel_rfl) (by kernel_rfl) (fun _ _ _ h => h) (Or.inl ⟨by rfl, ?y37⟩) (⟨R0, R1, hBT⟩) ?r37
  case y37 =>
    intro w_ hS_
    go_simp
    try with_reducible rfl
  simp only [Act.put, List.getElem_toArray, List.getElem_cons_succ, List.getElem_cons_zero, List.setIfInBounds_toArray, List.set_cons_succ, List.set_cons_zero]
  refine wpAnyH_take (i := 3) (v := ?v38) rfl (by kernel_rfl) (by kernel_rfl) (by kernel_rfl) (fun _ _ _ h => h) (Or.inl ⟨by rfl, ?y38⟩) (⟨R0, R1, hBT⟩) ?r38
  case y38 =>
    intro w_ hS_
    go_simp
    try with_reducible rfl
  simp only [Act.put, List.getElem_toArray, List.getElem_cons_succ, List.getElem_cons_zero, List.setIfInBounds_toArray, List.set_cons_succ, List.set_cons_zero]
  refine wpAnyH_take (i := 4) (v := ?v39) rfl (by kernel_rfl) (by kernel_rfl) (by kernel_rfl) (fun _ _ _ h => h) (Or.inl ⟨by rfl, ?y39⟩) (⟨R0, R1, hBT⟩) ?r39
  case y39 =>
    intro w_ hS_
    go_simp
    try with_reducible rfl
  simp only [Act.put, List.getElem_toArray, List.getElem_cons_succ, List.getElem_cons_zero, List.setIfInBounds_toArray, List.set_cons_succ, List.set_cons_zero]
  refine wpAnyH_take (i := 5) (v := ?v40) rfl (by kernel_rfl) (by kernel_rfl) (by kernel_rfl) (fun _ _ _ h => h) (Or.inl ⟨by rfl, ?y40⟩) (⟨R0, R1, hBT⟩) ?r40
  case y40 =>
    intro w_ hS_
    go_simp
    try with_reducible rfl
  simp only [Act.put, List.getElem_toArray, List.getElem_cons_succ, List.getElem_cons_zero, List.setIfInBounds_toArray, List.set_cons_succ, List.set_cons_zero]
  refine wpAnyH_take (i := 8) (v := ?v41) rfl (by kernel_rfl) (by kernel_rfl) (by kernel_rfl) (fun _ _ _ h => h) (Or.inl ⟨by rfl, ?y41⟩) (⟨R0, R1, hBT⟩) ?r41
  case y41 =>
    intro w_ hS_
    go_simp
    try with_reducible rfl
  simp only [Act.put, List.getElem_toArray, List.getElem_cons_succ, List.getElem_cons_zero, List.setIfInBounds_toArray, List.set_cons_succ, List.set_cons_zero]
  refine wpAnyH_take (i := 9) (v := ?v42) rfl (by kernel_rfl) (by kernel_rfl) (by kernel_rfl) (fun _ _ _ h => h) (Or.inl ⟨by rfl, ?y42⟩) (⟨R0, R1, hBT⟩) ?r42
  case y42 =>
    intro w_ hS_
    go_simp
    try with_reducible rfl
  simp only [Act.put, List.getElem_toArray, List.getElem_cons_succ, List.getElem_cons_zero, List.setIfInBounds_toArray, List.set_cons_succ, List.set_cons_zero]
  refine wpAnyH_take (i := 10) (v := ?v43) rfl (by kernel_rfl) (by kernel_rfl) (by kernel_rfl) (fun _ _ _ h => h) (Or.inl ⟨by rfl, ?y43⟩) (⟨R0, R1, hBT⟩) ?r43
  case y43 =>
    intro w_ hS_
    go_simp
    try with_reducible rfl
  simp only [Act.put, List.getElem_toArray, List.getElem_cons_succ, List.getElem_cons_zero, List.setIfInBounds_toArray, List.set_cons_succ, List.set_cons_zero]
  refine wpAnyH_take (i := 11) (v := .string (strOfNums (bl T))) rfl (by kernel_rfl) (by kernel_rfl) (by kernel_rfl) (fun _ _ _ h => h) (Or.inl ⟨by rfl, ?y44⟩) (⟨R0, R1, hBT⟩) ?r44
  case y44 =>
    intro w_ hS_
    have c_ := conv_bys hS_.2.2
    go_simp
  simp only [Act.put, List.getElem_toArray, List.getElem_cons_succ, List.getElem_cons_zero, List.setIfInBounds_toArray, List.set_cons_succ, List.set_cons_zero]
  refine wpAnyH_one (k := 6) (fuel := 2) (by kernel_rfl) rfl (by kernel_rfl) (fun K_ hK_ => ?_)
  refine wp_call_ex (f := 29) (by kernel_rfl) (q_tag key nonce extra X hk hno w0d _ _ (hEh.out _ hw) (hXh.out _ hw) (by rw [hxl]; omega)) (fun v_ q17 hX_ => ?_)
  obtain ⟨gt, rfl, lgt, rt, hb_⟩ := hX_
  replace R0 := keep hb_ R0
  replace R1 := keep hb_ R1
  replace hBT := hBT.keep hb_
  replace hw := Below.after hw hb_
  clear hb_
  refine hK_ _ _ (⟨R0, R1, hBT⟩) ?_
  simp only [Act.put, List.getElem_toArray, List.getElem_cons_succ, List.getElem_cons_zero, List.setIfInBounds_toArray, List.set_cons_succ, List.set_cons_zero]
  clear hK_
  refine wpAnyH_one (k := 7) (fuel := 1) (by kernel_rfl) rfl (by kernel_rfl) (fun K_ hK_ => ?_)
  have hBt := tag_bys rt hHl.out hHz.out
  have cv_ := conv_bys hBt.1
  refine wp_world_op (.string (strOfNums (bl (lb ((su key nonce extra X).take 16))))) q17 (by go_simp) ?_
  clear cv_ hBt
  refine hK_ _ _ (⟨R0, R1, hBT⟩) ?_
  simp only [Act.put, List.getElem_toArray, List.getElem_cons_succ, List.getElem_cons_zero, List.setIfInBounds_toArray, List.set_cons_succ, List.set_cons_zero]
  clear hK_
  refine wpAnyH_take (i := 12) (v := ?v45) rfl (by kernel_rfl) (by kernel_rfl) (by kernel_rfl) (fun _ _ _ h => h) (Or.inl ⟨by rfl, ?y45⟩) (⟨R0, R1, hBT⟩) ?r45
  case y45 =>
    intro w_ hS_
    go_simp
    try with_reducible rfl
  simp only [Act.put, List.getElem_toArray, List.getElem_cons_succ, List.getElem_cons_zero, List.setIfInBounds_toArray, List.set_cons_succ, List.set_cons_zero]
  refine wpAnyH_done (by kernel_rfl) ?_ _
  refine NoPanic.normal ?_
  clear q1 q2 q3 st_ hd rt hHl hHz hBT lgt
  clear sh hwr
  go_wp2
  go_ret2
  exact ⟨rfl, hw⟩
theorem q_open (key nonce extra box : List B) (hk : key.length = 32) (hno : nonce.length = 16) (w : World) (ve vb : Value) (hE : BysB w ve extra) (hB : BysB w vb box) (qB : ∀ a l c, vb = .slice a l c → l ≤ c) : Calls Tryd.prog 19 #[.agg (irow .u8 (bl key)), .agg (irow .u8 (bl nonce)), ve, vb] w fun e w' => ∃ u, e = .returned u ∧ (∃ v, u = .tuple #[v, .int .i64 (ope key nonce extra box)] ∧ Own w' w.heap.size v (opr key nonce extra box)) ∧ Below w.heap.size w w' := by
  by_cases h : 2097216 < extra.length ∨ 2097232 < box.length
  · rw [ope, opr, if_pos h, if_pos h]
    exact (q_open_long key nonce extra box w ve vb hE hB h).mono fun _ w' ⟨h1, h2⟩ => ⟨_, h1, ⟨_, rfl, own_none w' _⟩, h2⟩
  · rw [ope, opr, if_neg h, if_neg h]
    by_cases hs : box.length < 16
    · rw [if_pos hs, if_pos hs]
      exact (q_open_short key nonce extra box w ve vb hE hB (by omega) hs).mono fun _ w' ⟨h1, h2⟩ => ⟨_, h1, ⟨_, rfl, own_none w' _⟩, h2⟩
    · rw [if_neg hs, if_neg hs]
      by_cases hq : otg box = tg key nonce extra (obx box)
      · rw [if_pos hq, if_pos hq]
        exact (q_open_ok key nonce extra box hk hno w ve vb hE hB qB (by omega) (by omega) (by omega) hq).mono fun _ w' ⟨v, h1, h2, h3⟩ => ⟨_, h1, ⟨v, rfl, h2⟩, h3⟩
      · rw [if_neg hq, if_neg hq]
        exact (q_open_bad key nonce extra box hk hno w ve vb hE hB qB (by omega) (by omega) (by omega) hq).mono fun _ w' ⟨h1, h2⟩ => ⟨_, h1, ⟨_, rfl, own_none w' _⟩, h2⟩

end Go.Proofs.YtamieopjigjfiaaDoor
