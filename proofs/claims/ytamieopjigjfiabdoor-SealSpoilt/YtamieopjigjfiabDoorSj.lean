import Derived.Test.YtamieopjigjfiabDoorProg
import Derived.WalkKit
import Derived.WalkSpells
import Derived.WalkLawsBesides
import Derived.Lib.QuietBelow
import Derived.BigQuiet
import Derived.OrdersHeld
import Derived.OwnWalk
import Derived.Deep.RegionHeld3
import Derived.Test.YtamieopjigjfiabDoorKa
import Derived.Test.YtamieopjigjfiabDoorSy
import Derived.Test.YtamieopjigjfiabDoorSf
import Derived.Test.YtamieopjigjfiabDoorWo
namespace Go.Proofs.YtamieopjigjfiabDoor
set_option maxRecDepth 100000
open Go Go.RowKit Go.Sort
attribute [local go_sem] setCell_drewN alloc_drewN

set_option maxRecDepth 100000 in
set_option maxHeartbeats 4000000 in
theorem a_open_long (key nonce extra box : List B) (w : World) (ve vb : Value) (hE : BysB w ve extra) (hB : BysB w vb box) (hlong : 2097216 < extra.length ∨ 2097232 < box.length) : Calls Tryd.prog 9 #[.agg (irow .u8 (bl key)), .agg (irow .u8 (bl nonce)), ve, vb] w fun e w' => e = .returned (.tuple #[.slice none 0 0, .int .i64 2]) ∧ Below w.heap.size w w' := by
  obtain ⟨ue, uec, rfl⟩ : ∃ ao cap, ve = .slice ao extra.length cap := by
    obtain ⟨⟨ao, cap, h, _⟩, _⟩ := hE
    rw [bl_len] at h
    exact ⟨ao, cap, h⟩
  obtain ⟨ub, ubc, rfl⟩ : ∃ ao cap, vb = .slice ao box.length cap := by
    obtain ⟨⟨ao, cap, h, _⟩, _⟩ := hB
    rw [bl_len] at h
    exact ⟨ao, cap, h⟩
  have R0 := hp2_0 w (.cells (irow .u8 (bl key)) 23) (.cells (irow .u8 (bl nonce)) 25)
  have R1 := hp2_1 w (.cells (irow .u8 (bl key)) 23) (.cells (irow .u8 (bl nonce)) 25)
  have hw : Below w.heap.size w ((w.alloc (.cells (irow .u8 (bl key)) 23)).alloc (.cells (irow .u8 (bl nonce)) 25)) := (((Below.refl _ _).alloc (Nat.le_refl _) _).alloc (by simp) _)
  by_cases h1 : 2097216 < extra.length
  · have q1 : decide ((2097216 : Int) < (extra.length : Int)) = true := by simp; omega
    clear hlong hE hB
    go_enter Tryd.func9, Tryd.ntmps9
    go_wp2_with (first | (refine wpList_box rfl 23 _ rfl _ rfl (bK _) ?_) | (refine wpList_box rfl 25 _ rfl _ rfl (bNo _) ?_) | fail)
    go_ret2
    exact ⟨rfl, hw⟩
  · have q1 : decide ((2097216 : Int) < (extra.length : Int)) = false := by simp; omega
    have q2 : decide ((2097232 : Int) < (box.length : Int)) = true := by simp; omega
    clear hlong hE hB
    go_enter Tryd.func9, Tryd.ntmps9
    go_wp2_with (first | (refine wpList_box rfl 23 _ rfl _ rfl (bK _) ?_) | (refine wpList_box rfl 25 _ rfl _ rfl (bNo _) ?_) | fail)
    go_ret2
    exact ⟨rfl, hw⟩
set_option maxRecDepth 100000 in
set_option maxHeartbeats 4000000 in
theorem a_open_short (key nonce extra box : List B) (w : World) (ve vb : Value) (hE : BysB w ve extra) (hB : BysB w vb box) (hel : extra.length ≤ 2097216) (hsh : box.length < 16) : Calls Tryd.prog 9 #[.agg (irow .u8 (bl key)), .agg (irow .u8 (bl nonce)), ve, vb] w fun e w' => e = .returned (.tuple #[.slice none 0 0, .int .i64 60]) ∧ Below w.heap.size w w' := by
  obtain ⟨ue, uec, rfl⟩ : ∃ ao cap, ve = .slice ao extra.length cap := by
    obtain ⟨⟨ao, cap, h, _⟩, _⟩ := hE
    rw [bl_len] at h
    exact ⟨ao, cap, h⟩
  obtain ⟨ub, ubc, rfl⟩ : ∃ ao cap, vb = .slice ao box.length cap := by
    obtain ⟨⟨ao, cap, h, _⟩, _⟩ := hB
    rw [bl_len] at h
    exact ⟨ao, cap, h⟩
  have R0 := hp2_0 w (.cells (irow .u8 (bl key)) 23) (.cells (irow .u8 (bl nonce)) 25)
  have R1 := hp2_1 w (.cells (irow .u8 (bl key)) 23) (.cells (irow .u8 (bl nonce)) 25)
  have hw : Below w.heap.size w ((w.alloc (.cells (irow .u8 (bl key)) 23)).alloc (.cells (irow .u8 (bl nonce)) 25)) := (((Below.refl _ _).alloc (Nat.le_refl _) _).alloc (by simp) _)
  have q1 : decide ((2097216 : Int) < (extra.length : Int)) = false := by simp; omega
  have q2 : decide ((2097232 : Int) < (box.length : Int)) = false := by simp; omega
  have q3 : decide ((box.length : Int) < 16) = true := by simp; omega
  clear hE hB
  go_enter Tryd.func9, Tryd.ntmps9
  go_wp2_with (first | (refine wpList_box rfl 23 _ rfl _ rfl (bK _) ?_) | (refine wpList_box rfl 25 _ rfl _ rfl (bNo _) ?_) | fail)
  go_ret2
  exact ⟨rfl, hw⟩
set_option maxRecDepth 100000 in
set_option maxHeartbeats 4000000 in
theorem a_open_ok (key nonce extra box : List B) (hk : key.length = 32) (hno : nonce.length = 16) (w : World) (ve vb : Value) (hS : Sta w) (hK : Kon w) (hE : BysB w ve extra) (hB : BysB w vb box) (qE : ∀ a l c, ve = .slice a l c → l ≤ c) (qB : ∀ a l c, vb = .slice a l c → l ≤ c) (hel : extra.length ≤ 2097216) (hbl : box.length ≤ 2097232) (h16 : 16 ≤ box.length) (hq : otg box = tg key nonce extra (obx box)) : Calls Tryd.prog 9 #[.agg (irow .u8 (bl key)), .agg (irow .u8 (bl nonce)), ve, vb] w fun e w' => ∃ v, e = .returned (.tuple #[v, .int .i64 0]) ∧ Own w' w.heap.size v (cfx key nonce (obx box)) ∧ Below w.heap.size w w' := by
  have hkl : (bl key).length = 32 := by rw [bl_len, hk]
  have hcl : (bl (ck key)).length = 32 := by rw [bl_len, ck_len]
  have hdl : (bl (tk key)).length = 32 := by rw [bl_len, tk_len]
  have hiN := info_bl infoN nonce hno
  obtain ⟨bb, bo, ubc, rfl⟩ := bysB_some hB (by omega)
  replace qB := qB _ _ _ rfl
  obtain ⟨ue, uec, rfl⟩ : ∃ ao cap, ve = .slice ao extra.length cap := by
    obtain ⟨⟨ao, cap, h, _⟩, _⟩ := hE
    rw [bl_len] at h
    exact ⟨ao, cap, h⟩
  replace qE := qE _ _ _ rfl
  have R0 := hp2_0 w (.cells (irow .u8 (bl key)) 23) (.cells (irow .u8 (bl nonce)) 25)
  have R1 := hp2_1 w (.cells (irow .u8 (bl key)) 23) (.cells (irow .u8 (bl nonce)) 25)
  have hw : Below w.heap.size w ((w.alloc (.cells (irow .u8 (bl key)) 23)).alloc (.cells (irow .u8 (bl nonce)) 25)) := (((Below.refl _ _).alloc (Nat.le_refl _) _).alloc (by simp) _)
  have q1 : decide ((2097216 : Int) < (extra.length : Int)) = false := by simp; omega
  have q2 : decide ((2097232 : Int) < (box.length : Int)) = false := by simp; omega
  have q3 : decide ((box.length : Int) < 16) = false := by simp; omega
  have hwr : IntKind.i64.wrap ((box.length : Int) - 16) = (box.length : Int) - 16 := by rw [IntKind.wrap_i64]; omega
  have sh := sl_head (some ⟨bb, bo, none⟩) box.length ubc h16 qB
  have st_ := sl_tail bb bo box.length ubc h16 qB
  have hEh : Hid (∀ V, Below w.heap.size w V → BysB V (.slice ue extra.length uec) extra) := hide (fun V h => hE.keep h)
  have hXh : Hid (∀ V, Below w.heap.size w V → BysB V (.slice (some ⟨bb, bo, none⟩) (box.length - 16) ubc) (obx box)) := hide (fun V h => bysB_take (hB.keep h) (by omega))
  have hTh : Hid (∀ V, Below w.heap.size w V → BysB V (.slice (some ⟨bb, bo + (box.length - 16), none⟩) 16 (ubc - (box.length - 16))) (otg box)) := hide (fun V h => bysB_drop (hB.keep h) (by omega) (by omega) _)
  have hd : Hid (decide (bl (otg box) = bl (lb ((su key nonce extra (obx box)).take 16))) = true) := hide (by
    rw [bl_dec]
    exact decide_eq_true hq)
  have hsu : Hid (su key nonce extra (obx box) = hm (bl (tk key)) (und nonce extra (obx box))) := hide rfl
  have hHl : Hid ((su key nonce extra (obx box)).length = 32) := hide (su_len _ _ _ _)
  have hHz : Hid (∀ z ∈ su key nonce extra (obx box), 0 ≤ z ∧ z < 256) := hide (su_bd _ _ _ _)
  have hxl := obx_len box
  clear hE hB hq
  generalize eX : obx box = X at *
  generalize otg box = T at *
  go_enter Tryd.func9, Tryd.ntmps9
  go_wp2_with (first | (refine wpList_box rfl 23 _ rfl _ rfl (bK _) ?_) | (refine wpList_box rfl 25 _ rfl _ rfl (bNo _) ?_) | fail)
  try simp only [size_alloc1, Act.put, List.setIfInBounds_toArray, List.set_cons_succ, List.set_cons_zero]
  generalize ((w.alloc (.cells (irow .u8 (bl key)) 23)).alloc (.cells (irow .u8 (bl nonce)) 25)) = w0 at *
  have hbd : Below w0.heap.size w0 w0.drew := below_drN (Below.refl _ _) 1
  replace R0 := keep hbd R0
  replace R1 := keep hbd R1
  replace hw := Below.after hw hbd
  clear hbd
  refine wp_region_noPanic ?_
  refine wp_region_held (S := fun _ => True) (by kernel_rfl) ?_
  change wpAnyH _ _ _ _ _ _ _ _ (World.drew _)
  generalize w0.drew = w0d at *
  refine wpAnyH_take (i := 0) (v := ?v5) rfl (by kernel_rfl) (by kernel_rfl) (by kernel_rfl) (fun _ _ _ h => h) (Or.inl ⟨by rfl, ?y5⟩) (trivial) ?r5
  case y5 =>
    intro w_ hS_
    go_simp
    try with_reducible rfl
  simp only [Act.put, List.getElem_toArray, List.getElem_cons_zero, List.setIfInBounds_toArray, List.set_cons_succ, List.set_cons_zero]
  refine wpAnyH_take (i := 1) (v := ?v6) rfl (by kernel_rfl) (by kernel_rfl) (by kernel_rfl) (fun _ _ _ h => h) (Or.inl ⟨by rfl, ?y6⟩) (trivial) ?r6
  case y6 =>
    intro w_ hS_
    go_simp
    try with_reducible rfl
  simp only [Act.put, List.getElem_toArray, List.getElem_cons_succ, List.getElem_cons_zero, List.setIfInBounds_toArray, List.set_cons_succ, List.set_cons_zero]
  refine wpAnyH_take (i := 2) (v := ?v7) rfl (by kernel_rfl) (by kernel_rfl) (by kernel_rfl) (fun _ _ _ h => h) (Or.inl ⟨by rfl, ?y7⟩) (trivial) ?r7
  case y7 =>
    intro w_ hS_
    go_simp
    try with_reducible rfl
  simp only [Act.put, List.getElem_toArray, List.getElem_cons_succ, List.getElem_cons_zero, List.setIfInBounds_toArray, List.set_cons_succ, List.set_cons_zero]
  refine wpAnyH_take (i := 3) (v := ?v8) rfl (by kernel_rfl) (by kernel_rfl) (by kernel_rfl) (fun _ _ _ h => h) (Or.inl ⟨by rfl, ?y8⟩) (trivial) ?r8
  case y8 =>
    intro w_ hS_
    go_simp
    try with_reducible rfl
  simp only [Act.put, List.getElem_toArray, List.getElem_cons_succ, List.getElem_cons_zero, List.setIfInBounds_toArray, List.set_cons_succ, List.set_cons_zero]
  refine wpAnyH_take (i := 4) (v := ?v9) rfl (by kernel_rfl) (by kernel_rfl) (by kernel_rfl) (fun _ _ _ h => h) (Or.inl ⟨by rfl, ?y9⟩) (trivial) ?r9
  case y9 =>
    intro w_ hS_
    go_simp
    try with_reducible rfl
  simp only [Act.put, List.getElem_toArray, List.getElem_cons_succ, List.getElem_cons_zero, List.setIfInBounds_toArray, List.set_cons_succ, List.set_cons_zero]
  refine wpAnyH_take (i := 5) (v := ?v10) rfl (by kernel_rfl) (by kernel_rfl) (by kernel_rfl) (fun _ _ _ h => h) (Or.inl ⟨by rfl, ?y10⟩) (trivial) ?r10
  case y10 =>
    intro w_ hS_
    go_simp
    try with_reducible rfl
  simp only [Act.put, List.getElem_toArray, List.getElem_cons_succ, List.getElem_cons_zero, List.setIfInBounds_toArray, List.set_cons_succ, List.set_cons_zero]
  refine wpAnyH_take (i := 6) (v := ?v11) rfl (by kernel_rfl) (by kernel_rfl) (by kernel_rfl) (fun _ _ _ h => h) (Or.inl ⟨by rfl, ?y11⟩) (trivial) ?r11
  case y11 =>
    intro w_ hS_
    go_simp
    try with_reducible rfl
  simp only [Act.put, List.getElem_toArray, List.getElem_cons_succ, List.getElem_cons_zero, List.setIfInBounds_toArray, List.set_cons_succ, List.set_cons_zero]
  refine wpAnyH_take (i := 7) (v := ?v12) rfl (by kernel_rfl) (by kernel_rfl) (by kernel_rfl) (fun _ _ _ h => h) (Or.inl ⟨by rfl, ?y12⟩) (trivial) ?r12
  case y12 =>
    intro w_ hS_
    go_simp
    try with_reducible rfl
  simp only [Act.put, List.getElem_toArray, List.getElem_cons_succ, List.getElem_cons_zero, List.setIfInBounds_toArray, List.set_cons_succ, List.set_cons_zero]
  refine wpAnyH_take (i := 8) (v := ?v13) rfl (by kernel_rfl) (by kernel_rfl) (by kernel_rfl) (fun _ _ _ h => h) (Or.inl ⟨by rfl, ?y13⟩) (trivial) ?r13
  case y13 =>
    intro w_ hS_
    go_simp
    try with_reducible rfl
  simp only [Act.put, List.getElem_toArray, List.getElem_cons_succ, List.getElem_cons_zero, List.setIfInBounds_toArray, List.set_cons_succ, List.set_cons_zero]
  refine wpAnyH_take (i := 9) (v := ?v14) rfl (by kernel_rfl) (by kernel_rfl) (by kernel_rfl) (fun _ _ _ h => h) (Or.inl ⟨by rfl, ?y14⟩) (trivial) ?r14
  case y14 =>
    intro w_ hS_
    go_simp
    try with_reducible rfl
  simp only [Act.put, List.getElem_toArray, List.getElem_cons_succ, List.getElem_cons_zero, List.setIfInBounds_toArray, List.set_cons_succ, List.set_cons_zero]
  refine wpAnyH_take (i := 10) (v := ?v15) rfl (by kernel_rfl) (by kernel_rfl) (by kernel_rfl) (fun _ _ _ h => h) (Or.inl ⟨by rfl, ?y15⟩) (trivial) ?r15
  case y15 =>
    intro w_ hS_
    go_simp
    try with_reducible rfl
  simp only [Act.put, List.getElem_toArray, List.getElem_cons_succ, List.getElem_cons_zero, List.setIfInBounds_toArray, List.set_cons_succ, List.set_cons_zero]
  refine wpAnyH_take (i := 11) (v := ?v16) rfl (by kernel_rfl) (by kernel_rfl) (by kernel_rfl) (fun _ _ _ h => h) (Or.inl ⟨by rfl, ?y16⟩) (trivial) ?r16
  case y16 =>
    intro w_ hS_
    go_simp
    try with_reducible rfl
  simp only [Act.put, List.getElem_toArray, List.getElem_cons_succ, List.getElem_cons_zero, List.setIfInBounds_toArray, List.set_cons_succ, List.set_cons_zero]
  refine wpAnyH_done (by kernel_rfl) ?_ _
  refine NoPanic.normal ?_
  clear q1 q2 q3 sh st_ hwr
  go_wp2_with (first | (refine wpList_load_want rfl 23 _ rfl (w.heap.size) rfl 23 (irow .u8 (bl key)) (0, 0) _ R0 Tryd.underlying23 rfl (infok8 _ hkl) ?_) | fail)
  refine (a_keys key hk w0d (hS.below hw) (hK.below hw)).mono ?_
  rintro e_ w1 ⟨rfl, hb⟩
  replace R0 := keep hb R0
  replace R1 := keep hb R1
  replace hw := Below.after hw hb
  clear hb
  have l1g_ := lt_of_row R1
  have z1 := hp2_0 w1 (.cells (irow .u8 (zr 32)) 23) (.cells (irow .u8 (zr 32)) 23)
  have z2 := hp2_1 w1 (.cells (irow .u8 (zr 32)) 23) (.cells (irow .u8 (zr 32)) 23)
  have z3 := (setRow_other ((w1.alloc (.cells (irow .u8 (zr 32)) 23)).alloc (.cells (irow .u8 (zr 32)) 23)) (w1.heap.size) (w1.heap.size + 1) (irow .u8 (bl (ck key))) (by omega)).trans z2
  have rC := (setRow_other (((w1.alloc (.cells (irow .u8 (zr 32)) 23)).alloc (.cells (irow .u8 (zr 32)) 23)).setRow (w1.heap.size) (irow .u8 (bl (ck key)))) (w1.heap.size + 1) (w1.heap.size) (irow .u8 (bl (tk key))) (by omega)).trans (setRow_heap ((w1.alloc (.cells (irow .u8 (zr 32)) 23)).alloc (.cells (irow .u8 (zr 32)) 23)) (w1.heap.size) _ (irow .u8 (bl (ck key))) _ _ z1)
  have rD := setRow_heap (((w1.alloc (.cells (irow .u8 (zr 32)) 23)).alloc (.cells (irow .u8 (zr 32)) 23)).setRow (w1.heap.size) (irow .u8 (bl (ck key)))) (w1.heap.size + 1) _ (irow .u8 (bl (tk key))) _ _ z3
  have hbF : Below w1.heap.size w1 ((((w1.alloc (.cells (irow .u8 (zr 32)) 23)).alloc (.cells (irow .u8 (zr 32)) 23)).setRow (w1.heap.size) (irow .u8 (bl (ck key)))).setRow (w1.heap.size + 1) (irow .u8 (bl (tk key)))) := below_setRow (below_setRow (((Below.refl _ _).alloc (Nat.le_refl _) _).alloc (by simp) _) (Nat.le_refl _) (irow .u8 (bl (ck key)))) (Nat.le_succ _) (irow .u8 (bl (tk key)))
  replace R0 := keep hbF R0
  replace R1 := keep hbF R1
  go_wp2_with (first | (refine wpList_alloc rfl 23 rfl (irow .u8 (zr 32)) zkey ?_) | (refine wpList_store_row rfl 23 _ _ rfl (w1.heap.size) (irow .u8 (bl (ck key))) rfl rfl 23 _ z1 (infok8 _ hcl) (fit32 _ _ (zr_len 32) hcl) (irow_one _ _) ?_; refine wpList_stay ?_) | fail)
  unfold WpStay
  go_wp2_with (first | (refine wpList_store_row rfl 23 _ _ rfl (w1.heap.size + 1) (irow .u8 (bl (tk key))) rfl rfl 23 _ z3 (infok8 _ hdl) (fit32 _ _ (zr_len 32) hdl) (irow_one _ _) ?_; refine wpList_stay ?_) | fail)
  unfold WpStay
  clear z1 z2 z3
  generalize ((((w1.alloc (.cells (irow .u8 (zr 32)) 23)).alloc (.cells (irow .u8 (zr 32)) 23)).setRow (w1.heap.size) (irow .u8 (bl (ck key)))).setRow (w1.heap.size + 1) (irow .u8 (bl (tk key)))) = w2 at *
  have l1g : w.heap.size + 1 < w1.heap.size := l1g_
  clear l1g_
  replace hw := Below.after hw hbF
  clear hbF
  generalize w1.heap.size = g1 at *
  replace hxl := hide hxl
  go_wp2_with (first | (refine wpList_load_want rfl 23 _ rfl (g1 + 1) rfl 23 (irow .u8 (bl (tk key))) (0, 0) _ rD Tryd.underlying23 rfl (infok8 _ hdl) ?_) | (refine wpList_load_want rfl 25 _ rfl (w.heap.size + 1) rfl 25 (irow .u8 (bl nonce)) (0, 0) _ R1 Tryd.underlying25 rfl hiN ?_) | fail)
  refine (a_tagOf (tk key) nonce extra X (tk_len _) hno w2 _ _ (hS.below hw) (hK.below hw) (hEh.out _ hw) (hXh.out _ hw) (fun a l c h => by cases h; exact qE) (fun a l c h => by cases h; omega)).mono ?_
  rintro e_ w3 ⟨_, rfl, gt, rfl, lgt, rt, hb⟩
  rw [← hsu.out] at rt
  replace R1 := keep hb R1
  replace rC := keep hb rC
  replace hw := Below.after hw hb
  clear hb
  clear R0 rD
  have hBt := tag_bys rt hHl.out hHz.out
  have cS := a_same _ _ w3 _ _ (hTh.out _ hw).1 hBt.1
  rw [hd.out] at cS
  clear hd rt hHl hHz hsu hBt
  go_wp2_with (fail)
  refine cS.mono ?_
  rintro e_ w4 ⟨rfl, hb⟩
  replace R1 := keep hb R1
  replace rC := keep hb rC
  replace hw := Below.after hw hb
  clear hb
  clear cS
  go_wp2_with (first | (refine wpList_load_want rfl 23 _ rfl (g1) rfl 23 (irow .u8 (bl (ck key))) (0, 0) _ rC Tryd.underlying23 rfl (infok8 _ hcl) ?_) | (refine wpList_load_want rfl 25 _ rfl (w.heap.size + 1) rfl 25 (irow .u8 (bl nonce)) (0, 0) _ R1 Tryd.underlying25 rfl hiN ?_) | fail)
  refine (a_crypt (ck key) nonce (ck_len _) hno 0 (by decide) X w4 _ (hXh.out _ hw)).mono ?_
  rintro e_ w5 ⟨v5, rfl, hO, hb⟩
  have hs4 := hw.size
  replace hO : Own w5 w4.heap.size v5 (cfx key nonce X) := hO
  generalize eY : cfx key nonce X = Y at *
  replace eY := hide eY
  obtain ⟨ao6, ac6, rfl⟩ := slen_own hO
  replace hw := Below.after hw hb
  clear hb rC R1 eX
  go_wp2
  go_ret2
  exact ⟨_, rfl, by rw [eY.out]; exact own_down hO hs4, hw⟩
set_option maxRecDepth 100000 in
set_option maxHeartbeats 4000000 in
theorem a_open_bad (key nonce extra box : List B) (hk : key.length = 32) (hno : nonce.length = 16) (w : World) (ve vb : Value) (hS : Sta w) (hK : Kon w) (hE : BysB w ve extra) (hB : BysB w vb box) (qE : ∀ a l c, ve = .slice a l c → l ≤ c) (qB : ∀ a l c, vb = .slice a l c → l ≤ c) (hel : extra.length ≤ 2097216) (hbl : box.length ≤ 2097232) (h16 : 16 ≤ box.length) (hq : ¬ otg box = tg key nonce extra (obx box)) : Calls Tryd.prog 9 #[.agg (irow .u8 (bl key)), .agg (irow .u8 (bl nonce)), ve, vb] w fun e w' => e = .returned (.tuple #[.slice none 0 0, .int .i64 61]) ∧ Below w.heap.size w w' := by
  have hkl : (bl key).length = 32 := by rw [bl_len, hk]
  have hcl : (bl (ck key)).length = 32 := by rw [bl_len, ck_len]
  have hdl : (bl (tk key)).length = 32 := by rw [bl_len, tk_len]
  have hiN := info_bl infoN nonce hno
  obtain ⟨bb, bo, ubc, rfl⟩ := bysB_some hB (by omega)
  replace qB := qB _ _ _ rfl
  obtain ⟨ue, uec, rfl⟩ : ∃ ao cap, ve = .slice ao extra.length cap := by
    obtain ⟨⟨ao, cap, h, _⟩, _⟩ := hE
    rw [bl_len] at h
    exact ⟨ao, cap, h⟩
  replace qE := qE _ _ _ rfl
  have R0 := hp2_0 w (.cells (irow .u8 (bl key)) 23) (.cells (irow .u8 (bl nonce)) 25)
  have R1 := hp2_1 w (.cells (irow .u8 (bl key)) 23) (.cells (irow .u8 (bl nonce)) 25)
  have hw : Below w.heap.size w ((w.alloc (.cells (irow .u8 (bl key)) 23)).alloc (.cells (irow .u8 (bl nonce)) 25)) := (((Below.refl _ _).alloc (Nat.le_refl _) _).alloc (by simp) _)
  have q1 : decide ((2097216 : Int) < (extra.length : Int)) = false := by simp; omega
  have q2 : decide ((2097232 : Int) < (box.length : Int)) = false := by simp; omega
  have q3 : decide ((box.length : Int) < 16) = false := by simp; omega
  have hwr : IntKind.i64.wrap ((box.length : Int) - 16) = (box.length : Int) - 16 := by rw [IntKind.wrap_i64]; omega
  have sh := sl_head (some ⟨bb, bo, none⟩) box.length ubc h16 qB
  have st_ := sl_tail bb bo box.length ubc h16 qB
  have hEh : Hid (∀ V, Below w.heap.size w V → BysB V (.slice ue extra.length uec) extra) := hide (fun V h => hE.keep h)
  have hXh : Hid (∀ V, Below w.heap.size w V → BysB V (.slice (some ⟨bb, bo, none⟩) (box.length - 16) ubc) (obx box)) := hide (fun V h => bysB_take (hB.keep h) (by omega))
  have hTh : Hid (∀ V, Below w.heap.size w V → BysB V (.slice (some ⟨bb, bo + (box.length - 16), none⟩) 16 (ubc - (box.length - 16))) (otg box)) := hide (fun V h => bysB_drop (hB.keep h) (by omega) (by omega) _)
  have hd : Hid (decide (bl (otg box) = bl (lb ((su key nonce extra (obx box)).take 16))) = false) := hide (by
    rw [bl_dec]
    exact decide_eq_false hq)
  have hsu : Hid (su key nonce extra (obx box) = hm (bl (tk key)) (und nonce extra (obx box))) := hide rfl
  have hHl : Hid ((su key nonce extra (obx box)).length = 32) := hide (su_len _ _ _ _)
  have hHz : Hid (∀ z ∈ su key nonce extra (obx box), 0 ≤ z ∧ z < 256) := hide (su_bd _ _ _ _)
  have hxl := obx_len box
  clear hE hB hq
  generalize eX : obx box = X at *
  generalize otg box = T at *
  go_enter Tryd.func9, Tryd.ntmps9
  go_wp2_with (first | (refine wpList_box rfl 23 _ rfl _ rfl (bK _) ?_) | (refine wpList_box rfl 25 _ rfl _ rfl (bNo _) ?_) | fail)
  try simp only [size_alloc1, Act.put, List.setIfInBounds_toArray, List.set_cons_succ, List.set_cons_zero]
  generalize ((w.alloc (.cells (irow .u8 (bl key)) 23)).alloc (.cells (irow .u8 (bl nonce)) 25)) = w0 at *
  have hbd : Below w0.heap.size w0 w0.drew := below_drN (Below.refl _ _) 1
  replace R0 := keep hbd R0
  replace R1 := keep hbd R1
  replace hw := Below.after hw hbd
  clear hbd
  refine wp_region_noPanic ?_
  refine wp_region_held (S := fun _ => True) (by kernel_rfl) ?_
  change wpAnyH _ _ _ _ _ _ _ _ (World.drew _)
  generalize w0.drew = w0d at *
  refine wpAnyH_take (i := 0) (v := ?v5) rfl (by kernel_rfl) (by kernel_rfl) (by kernel_rfl) (fun _ _ _ h => h) (Or.inl ⟨by rfl, ?y5⟩) (trivial) ?r5
  case y5 =>
    intro w_ hS_
    go_simp
    try with_reducible rfl
  simp only [Act.put, List.getElem_toArray, List.getElem_cons_zero, List.setIfInBounds_toArray, List.set_cons_succ, List.set_cons_zero]
  refine wpAnyH_take (i := 1) (v := ?v6) rfl (by kernel_rfl) (by kernel_rfl) (by kernel_rfl) (fun _ _ _ h => h) (Or.inl ⟨by rfl, ?y6⟩) (trivial) ?r6
  case y6 =>
    intro w_ hS_
    go_simp
    try with_reducible rfl
  simp only [Act.put, List.getElem_toArray, List.getElem_cons_succ, List.getElem_cons_zero, List.setIfInBounds_toArray, List.set_cons_succ, List.set_cons_zero]
  refine wpAnyH_take (i := 2) (v := ?v7) rfl (by kernel_rfl) (by kernel_rfl) (by kernel_rfl) (fun _ _ _ h => h) (Or.inl ⟨by rfl, ?y7⟩) (trivial) ?r7
  case y7 =>
    intro w_ hS_
    go_simp
    try with_reducible rfl
  simp only [Act.put, List.getElem_toArray, List.getElem_cons_succ, List.getElem_cons_zero, List.setIfInBounds_toArray, List.set_cons_succ, List.set_cons_zero]
  refine wpAnyH_take (i := 3) (v := ?v8) rfl (by kernel_rfl) (by kernel_rfl) (by kernel_rfl) (fun _ _ _ h => h) (Or.inl ⟨by rfl, ?y8⟩) (trivial) ?r8
  case y8 =>
    intro w_ hS_
    go_simp
    try with_reducible rfl
  simp only [Act.put, List.getElem_toArray, List.getElem_cons_succ, List.getElem_cons_zero, List.setIfInBounds_toArray, List.set_cons_succ, List.set_cons_zero]
  refine wpAnyH_take (i := 4) (v := ?v9) rfl (by kernel_rfl) (by kernel_rfl) (by kernel_rfl) (fun _ _ _ h => h) (Or.inl ⟨by rfl, ?y9⟩) (trivial) ?r9
  case y9 =>
    intro w_ hS_
    go_simp
    try with_reducible rfl
  simp only [Act.put, List.getElem_toArray, List.getElem_cons_succ, List.getElem_cons_zero, List.setIfInBounds_toArray, List.set_cons_succ, List.set_cons_zero]
  refine wpAnyH_take (i := 5) (v := ?v10) rfl (by kernel_rfl) (by kernel_rfl) (by kernel_rfl) (fun _ _ _ h => h) (Or.inl ⟨by rfl, ?y10⟩) (trivial) ?r10
  case y10 =>
    intro w_ hS_
    go_simp
    try with_reducible rfl
  simp only [Act.put, List.getElem_toArray, List.getElem_cons_succ, List.getElem_cons_zero, List.setIfInBounds_toArray, List.set_cons_succ, List.set_cons_zero]
  refine wpAnyH_take (i := 6) (v := ?v11) rfl (by kernel_rfl) (by kernel_rfl) (by kernel_rfl) (fun _ _ _ h => h) (Or.inl ⟨by rfl, ?y11⟩) (trivial) ?r11
  case y11 =>
    intro w_ hS_
    go_simp
    try with_reducible rfl
  simp only [Act.put, List.getElem_toArray, List.getElem_cons_succ, List.getElem_cons_zero, List.setIfInBounds_toArray, List.set_cons_succ, List.set_cons_zero]
  refine wpAnyH_take (i := 7) (v := ?v12) rfl (by kernel_rfl) (by kernel_rfl) (by kernel_rfl) (fun _ _ _ h => h) (Or.inl ⟨by rfl, ?y12⟩) (trivial) ?r12
  case y12 =>
    intro w_ hS_
    go_simp
    try with_reducible rfl
  simp only [Act.put, List.getElem_toArray, List.getElem_cons_succ, List.getElem_cons_zero, List.setIfInBounds_toArray, List.set_cons_succ, List.set_cons_zero]
  refine wpAnyH_take (i := 8) (v := ?v13) rfl (by kernel_rfl) (by kernel_rfl) (by kernel_rfl) (fun _ _ _ h => h) (Or.inl ⟨by rfl, ?y13⟩) (trivial) ?r13
  case y13 =>
    intro w_ hS_
    go_simp
    try with_reducible rfl
  simp only [Act.put, List.getElem_toArray, List.getElem_cons_succ, List.getElem_cons_zero, List.setIfInBounds_toArray, List.set_cons_succ, List.set_cons_zero]
  refine wpAnyH_take (i := 9) (v := ?v14) rfl (by kernel_rfl) (by kernel_rfl) (by kernel_rfl) (fun _ _ _ h => h) (Or.inl ⟨by rfl, ?y14⟩) (trivial) ?r14
  case y14 =>
    intro w_ hS_
    go_simp
    try with_reducible rfl
  simp only [Act.put, List.getElem_toArray, List.getElem_cons_succ, List.getElem_cons_zero, List.setIfInBounds_toArray, List.set_cons_succ, List.set_cons_zero]
  refine wpAnyH_take (i := 10) (v := ?v15) rfl (by kernel_rfl) (by kernel_rfl) (by kernel_rfl) (fun _ _ _ h => h) (Or.inl ⟨by rfl, ?y15⟩) (trivial) ?r15
  case y15 =>
    intro w_ hS_
    go_simp
    try with_reducible rfl
  simp only [Act.put, List.getElem_toArray, List.getElem_cons_succ, List.getElem_cons_zero, List.setIfInBounds_toArray, List.set_cons_succ, List.set_cons_zero]
  refine wpAnyH_take (i := 11) (v := ?v16) rfl (by kernel_rfl) (by kernel_rfl) (by kernel_rfl) (fun _ _ _ h => h) (Or.inl ⟨by rfl, ?y16⟩) (trivial) ?r16
  case y16 =>
    intro w_ hS_
    go_simp
    try with_reducible rfl
  simp only [Act.put, List.getElem_toArray, List.getElem_cons_succ, List.getElem_cons_zero, List.setIfInBounds_toArray, List.set_cons_succ, List.set_cons_zero]
  refine wpAnyH_done (by kernel_rfl) ?_ _
  refine NoPanic.normal ?_
  clear q1 q2 q3 sh st_ hwr
  go_wp2_with (first | (refine wpList_load_want rfl 23 _ rfl (w.heap.size) rfl 23 (irow .u8 (bl key)) (0, 0) _ R0 Tryd.underlying23 rfl (infok8 _ hkl) ?_) | fail)
  refine (a_keys key hk w0d (hS.below hw) (hK.below hw)).mono ?_
  rintro e_ w1 ⟨rfl, hb⟩
  replace R0 := keep hb R0
  replace R1 := keep hb R1
  replace hw := Below.after hw hb
  clear hb
  have l1g_ := lt_of_row R1
  have z1 := hp2_0 w1 (.cells (irow .u8 (zr 32)) 23) (.cells (irow .u8 (zr 32)) 23)
  have z2 := hp2_1 w1 (.cells (irow .u8 (zr 32)) 23) (.cells (irow .u8 (zr 32)) 23)
  have z3 := (setRow_other ((w1.alloc (.cells (irow .u8 (zr 32)) 23)).alloc (.cells (irow .u8 (zr 32)) 23)) (w1.heap.size) (w1.heap.size + 1) (irow .u8 (bl (ck key))) (by omega)).trans z2
  have rC := (setRow_other (((w1.alloc (.cells (irow .u8 (zr 32)) 23)).alloc (.cells (irow .u8 (zr 32)) 23)).setRow (w1.heap.size) (irow .u8 (bl (ck key)))) (w1.heap.size + 1) (w1.heap.size) (irow .u8 (bl (tk key))) (by omega)).trans (setRow_heap ((w1.alloc (.cells (irow .u8 (zr 32)) 23)).alloc (.cells (irow .u8 (zr 32)) 23)) (w1.heap.size) _ (irow .u8 (bl (ck key))) _ _ z1)
  have rD := setRow_heap (((w1.alloc (.cells (irow .u8 (zr 32)) 23)).alloc (.cells (irow .u8 (zr 32)) 23)).setRow (w1.heap.size) (irow .u8 (bl (ck key)))) (w1.heap.size + 1) _ (irow .u8 (bl (tk key))) _ _ z3
  have hbF : Below w1.heap.size w1 ((((w1.alloc (.cells (irow .u8 (zr 32)) 23)).alloc (.cells (irow .u8 (zr 32)) 23)).setRow (w1.heap.size) (irow .u8 (bl (ck key)))).setRow (w1.heap.size + 1) (irow .u8 (bl (tk key)))) := below_setRow (below_setRow (((Below.refl _ _).alloc (Nat.le_refl _) _).alloc (by simp) _) (Nat.le_refl _) (irow .u8 (bl (ck key)))) (Nat.le_succ _) (irow .u8 (bl (tk key)))
  replace R0 := keep hbF R0
  replace R1 := keep hbF R1
  go_wp2_with (first | (refine wpList_alloc rfl 23 rfl (irow .u8 (zr 32)) zkey ?_) | (refine wpList_store_row rfl 23 _ _ rfl (w1.heap.size) (irow .u8 (bl (ck key))) rfl rfl 23 _ z1 (infok8 _ hcl) (fit32 _ _ (zr_len 32) hcl) (irow_one _ _) ?_; refine wpList_stay ?_) | fail)
  unfold WpStay
  go_wp2_with (first | (refine wpList_store_row rfl 23 _ _ rfl (w1.heap.size + 1) (irow .u8 (bl (tk key))) rfl rfl 23 _ z3 (infok8 _ hdl) (fit32 _ _ (zr_len 32) hdl) (irow_one _ _) ?_; refine wpList_stay ?_) | fail)
  unfold WpStay
  clear z1 z2 z3
  generalize ((((w1.alloc (.cells (irow .u8 (zr 32)) 23)).alloc (.cells (irow .u8 (zr 32)) 23)).setRow (w1.heap.size) (irow .u8 (bl (ck key)))).setRow (w1.heap.size + 1) (irow .u8 (bl (tk key)))) = w2 at *
  have l1g : w.heap.size + 1 < w1.heap.size := l1g_
  clear l1g_
  replace hw := Below.after hw hbF
  clear hbF
  generalize w1.heap.size = g1 at *
  replace hxl := hide hxl
  go_wp2_with (first | (refine wpList_load_want rfl 23 _ rfl (g1 + 1) rfl 23 (irow .u8 (bl (tk key))) (0, 0) _ rD Tryd.underlying23 rfl (infok8 _ hdl) ?_) | (refine wpList_load_want rfl 25 _ rfl (w.heap.size + 1) rfl 25 (irow .u8 (bl nonce)) (0, 0) _ R1 Tryd.underlying25 rfl hiN ?_) | fail)
  refine (a_tagOf (tk key) nonce extra X (tk_len _) hno w2 _ _ (hS.below hw) (hK.below hw) (hEh.out _ hw) (hXh.out _ hw) (fun a l c h => by cases h; exact qE) (fun a l c h => by cases h; omega)).mono ?_
  rintro e_ w3 ⟨_, rfl, gt, rfl, lgt, rt, hb⟩
  rw [← hsu.out] at rt
  replace R1 := keep hb R1
  replace rC := keep hb rC
  replace hw := Below.after hw hb
  clear hb
  clear R0 rD
  have hBt := tag_bys rt hHl.out hHz.out
  have cS := a_same _ _ w3 _ _ (hTh.out _ hw).1 hBt.1
  rw [hd.out] at cS
  clear hd rt hHl hHz hsu hBt
  go_wp2_with (fail)
  refine cS.mono ?_
  rintro e_ w4 ⟨rfl, hb⟩
  replace R1 := keep hb R1
  replace rC := keep hb rC
  replace hw := Below.after hw hb
  clear hb
  clear cS
  clear eX
  go_wp2
  go_ret2
  exact ⟨rfl, hw⟩
theorem a_open (key nonce extra box : List B) (hk : key.length = 32) (hno : nonce.length = 16) (w : World) (ve vb : Value) (hS : Sta w) (hK : Kon w) (hE : BysB w ve extra) (hB : BysB w vb box) (qE : ∀ a l c, ve = .slice a l c → l ≤ c) (qB : ∀ a l c, vb = .slice a l c → l ≤ c) : Calls Tryd.prog 9 #[.agg (irow .u8 (bl key)), .agg (irow .u8 (bl nonce)), ve, vb] w fun e w' => ∃ u, e = .returned u ∧ (∃ v, u = .tuple #[v, .int .i64 (ope key nonce extra box)] ∧ Own w' w.heap.size v (opr key nonce extra box)) ∧ Below w.heap.size w w' := by
  by_cases h : 2097216 < extra.length ∨ 2097232 < box.length
  · rw [ope, opr, if_pos h, if_pos h]
    exact (a_open_long key nonce extra box w ve vb hE hB h).mono fun _ w' ⟨h1, h2⟩ => ⟨_, h1, ⟨_, rfl, own_none w' _⟩, h2⟩
  · rw [ope, opr, if_neg h, if_neg h]
    by_cases hs : box.length < 16
    · rw [if_pos hs, if_pos hs]
      exact (a_open_short key nonce extra box w ve vb hE hB (by omega) hs).mono fun _ w' ⟨h1, h2⟩ => ⟨_, h1, ⟨_, rfl, own_none w' _⟩, h2⟩
    · rw [if_neg hs, if_neg hs]
      by_cases hq : otg box = tg key nonce extra (obx box)
      · rw [if_pos hq, if_pos hq]
        exact (a_open_ok key nonce extra box hk hno w ve vb hS hK hE hB qE qB (by omega) (by omega) (by omega) hq).mono fun _ w' ⟨v, h1, h2, h3⟩ => ⟨_, h1, ⟨v, rfl, h2⟩, h3⟩
      · rw [if_neg hq, if_neg hq]
        exact (a_open_bad key nonce extra box hk hno w ve vb hS hK hE hB qE qB (by omega) (by omega) (by omega) hq).mono fun _ w' ⟨h1, h2⟩ => ⟨_, h1, ⟨_, rfl, own_none w' _⟩, h2⟩

end Go.Proofs.YtamieopjigjfiabDoor
