import Derived.Test.YtamieopjigjfiabDoorProg
import Derived.WalkKit
import Derived.WalkSpells
import Derived.WalkLawsBesides
import Derived.Lib.QuietBelow
import Derived.BigQuiet
import Derived.OrdersHeld
import Derived.OwnWalk
import Derived.Deep.RegionHeld3
import Derived.Test.YtamieopjigjfiabDoorKa
import Derived.Test.YtamieopjigjfiabDoorTb
import Derived.Test.YtamieopjigjfiabDoorTu
import Derived.Test.YtamieopjigjfiabDoorTc
namespace Go.Proofs.YtamieopjigjfiabDoor
set_option maxRecDepth 100000
open Go Go.RowKit Go.Sort
attribute [local go_sem] setCell_drewN alloc_drewN

theorem ope_spoilt (key nonce extra d : List B) (k : Nat) (mask : B) (he : extra.length ≤ 2097216) (hd : d.length ≤ 2097216) (h1 : d.length ≤ k) (h2 : k < d.length + 16) (hm : mask ≠ 0#8) : ope key nonce extra ((bx key nonce extra d).set k (gb (bx key nonce extra d) k ^^^ mask)) = 61 := by
  have hl := bx_len key nonce extra d
  have e1 : obx ((bx key nonce extra d).set k (gb (bx key nonce extra d) k ^^^ mask)) = cfx key nonce d := by
    rw [obx, List.length_set, hl, Nat.add_sub_cancel, List.take_set_of_le h1, bx_text]
  have e2 : otg ((bx key nonce extra d).set k (gb (bx key nonce extra d) k ^^^ mask)) ≠ tg key nonce extra (cfx key nonce d) := by
    intro h
    rw [← bx_tag key nonce extra d, otg, List.length_set, hl, Nat.add_sub_cancel] at h
    have h3 := congrArg (fun l : List B => l.getD (k - d.length) 0#8) h
    simp only [List.getD_eq_getElem?_getD, List.getElem?_drop] at h3
    rw [show d.length + (k - d.length) = k by omega, List.getElem?_set_self (by rw [hl]; exact h2)] at h3
    have h4 : gb (bx key nonce extra d) k ^^^ mask = gb (bx key nonce extra d) k := by
      simpa [gb, List.getD_eq_getElem?_getD] using h3
    apply hm
    have h5 := congrArg (fun z => gb (bx key nonce extra d) k ^^^ z) h4
    simp only [BitVec.xor_self] at h5
    rw [← BitVec.xor_assoc, BitVec.xor_self, BitVec.zero_xor] at h5
    exact h5
  rw [ope, if_neg (by rw [List.length_set, hl]; omega), if_neg (by rw [List.length_set, hl]; omega), e1, if_neg e2]
set_option maxRecDepth 100000 in
set_option maxHeartbeats 4000000 in
theorem spoilt_box (key nonce extra d key2 nonce2 extra2 d2 : List B) (hk : key.length = 32) (hno : nonce.length = 16) (hk2 : key2.length = 32) (hno2 : nonce2.length = 16) (w : World) (ve vd ve2 vd2 : Value) (hS : Sta w) (hK : Kon w) (hE : BysC w ve extra) (hD : BysC w vd d) (hE2 : BysC w ve2 extra2) (hD2 : BysC w vd2 d2) (at_ : Int) (mask : B) (cut : Int) (hlen : 2097216 < extra.length ∨ 2097216 < d.length) : Calls Tryd.prog 3 #[.agg (boxr key nonce ve vd), .agg (boxr key2 nonce2 ve2 vd2), .int .i64 at_, .int .u8 (bv mask), .int .i64 cut] w fun e w' => e = .returned (.bool true) ∧ Below w.heap.size w w' := by
  have hkl : (bl key).length = 32 := by rw [bl_len, hk]
  have hkl2 : (bl key2).length = 32 := by rw [bl_len, hk2]
  have hiN := info_bl infoN nonce hno
  have hiN2 := info_bl infoN nonce2 hno2
  obtain ⟨hE, qE⟩ := hE
  obtain ⟨hD, qD⟩ := hD
  obtain ⟨hE2, qE2⟩ := hE2
  obtain ⟨hD2, qD2⟩ := hD2
  obtain ⟨ue, uec, rfl⟩ : ∃ ao cap, ve = .slice ao extra.length cap := by
    obtain ⟨⟨ao, cap, h, _⟩, _⟩ := hE
    rw [bl_len] at h
    exact ⟨ao, cap, h⟩
  obtain ⟨ud, udc, rfl⟩ : ∃ ao cap, vd = .slice ao d.length cap := by
    obtain ⟨⟨ao, cap, h, _⟩, _⟩ := hD
    rw [bl_len] at h
    exact ⟨ao, cap, h⟩
  obtain ⟨ue2, ue2c, rfl⟩ : ∃ ao cap, ve2 = .slice ao extra2.length cap := by
    obtain ⟨⟨ao, cap, h, _⟩, _⟩ := hE2
    rw [bl_len] at h
    exact ⟨ao, cap, h⟩
  obtain ⟨ud2, ud2c, rfl⟩ : ∃ ao cap, vd2 = .slice ao d2.length cap := by
    obtain ⟨⟨ao, cap, h, _⟩, _⟩ := hD2
    rw [bl_len] at h
    exact ⟨ao, cap, h⟩
  replace qE := qE _ _ _ rfl
  replace qE2 := qE2 _ _ _ rfl
  have hdl : d.length ≤ 140737488351232 := hD.2.1
  have R1 := hp2_0 w (.cells (boxr key nonce (.slice ue extra.length uec) (.slice ud d.length udc)) 28) (.cells (boxr key2 nonce2 (.slice ue2 extra2.length ue2c) (.slice ud2 d2.length ud2c)) 28)
  have R2 := hp2_1 w (.cells (boxr key nonce (.slice ue extra.length uec) (.slice ud d.length udc)) 28) (.cells (boxr key2 nonce2 (.slice ue2 extra2.length ue2c) (.slice ud2 d2.length ud2c)) 28)
  have hw : Below w.heap.size w ((w.alloc (.cells (boxr key nonce (.slice ue extra.length uec) (.slice ud d.length udc)) 28)).alloc (.cells (boxr key2 nonce2 (.slice ue2 extra2.length ue2c) (.slice ud2 d2.length ud2c)) 28)) := ((Below.refl _ _).alloc (Nat.le_refl _) _).alloc (by simp) _
  have hEh : Hid (∀ V, Below w.heap.size w V → BysB V (.slice ue extra.length uec) extra) := hide (fun V h => hE.keep h)
  have hDh : Hid (∀ V, Below w.heap.size w V → BysB V (.slice ud d.length udc) d) := hide (fun V h => hD.keep h)
  have hE2h : Hid (∀ V, Below w.heap.size w V → BysB V (.slice ue2 extra2.length ue2c) extra2) := hide (fun V h => hE2.keep h)
  clear hE hD hE2 hD2 qD qD2
  have hb_ : Hid (true = decide (2097216 < extra.length ∨ 2097216 < d.length)) := hide (decide_eq_true hlen).symm
  go_enter Tryd.func3, Tryd.ntmps3
  go_wp2_with (first | (refine wpList_box rfl 28 _ rfl _ rfl (bBox _) ?_) | fail)
  try simp only [size_alloc1, Act.put, List.setIfInBounds_toArray, List.set_cons_succ, List.set_cons_zero]
  generalize ((w.alloc (.cells (boxr key nonce (.slice ue extra.length uec) (.slice ud d.length udc)) 28)).alloc (.cells (boxr key2 nonce2 (.slice ue2 extra2.length ue2c) (.slice ud2 d2.length ud2c)) 28)) = w0 at *
  refine (l_lives w0 (hS.below hw) (hK.below hw)).mono ?_
  rintro e_ w1 ⟨rfl, hb⟩
  replace R1 := keep hb R1
  replace R2 := keep hb R2
  replace hw := Below.after hw hb
  clear hb
  go_wp2_with (first | (refine wpList_load_want rfl 28 _ rfl (w.heap.size) rfl 28 (boxr key nonce (.slice ue extra.length uec) (.slice ud d.length udc)) (0, 0) _ R1 Tryd.underlying28 rfl (infoBx () hk hno) ?_) | fail)
  refine (l_long key nonce extra d hk hno w1 ue ud uec udc true hb_.out).mono ?_
  rintro e_ w2 ⟨rfl, hb⟩
  replace R1 := keep hb R1
  replace R2 := keep hb R2
  replace hw := Below.after hw hb
  clear hb
  have ca_ := (box_cell R1 hk hno).1
  have cb_ := (box_cell R1 hk hno).2
  have cc_ := (box_cell R2 hk2 hno2).1
  go_wp2_with (first | (refine wpList_load_part rfl 23 _ rfl (w.heap.size) 0 rfl 28 (boxr key nonce (.slice ue extra.length uec) (.slice ud d.length udc)) (0, 0) (irow .u8 (bl key)) _ R1 (box_key _ _ _ _) Tryd.underlying23 rfl (infok8 _ hkl) ?_) | (refine wpList_load_part rfl 25 _ rfl (w.heap.size) 32 rfl 28 (boxr key nonce (.slice ue extra.length uec) (.slice ud d.length udc)) (0, 0) (irow .u8 (bl nonce)) _ R1 (box_nonce _ _ _ _ hk) Tryd.underlying25 rfl hiN ?_) | (refine wpList_load_part rfl 23 _ rfl (w.heap.size + 1) 0 rfl 28 (boxr key2 nonce2 (.slice ue2 extra2.length ue2c) (.slice ud2 d2.length ud2c)) (0, 0) (irow .u8 (bl key2)) _ R2 (box_key _ _ _ _) Tryd.underlying23 rfl (infok8 _ hkl2) ?_) | (refine wpList_load_part rfl 25 _ rfl (w.heap.size + 1) 32 rfl 28 (boxr key2 nonce2 (.slice ue2 extra2.length ue2c) (.slice ud2 d2.length ud2c)) (0, 0) (irow .u8 (bl nonce2)) _ R2 (box_nonce _ _ _ _ hk2) Tryd.underlying25 rfl hiN2 ?_) | fail)
  clear ca_ cb_ cc_
  refine (l_lives w2 (hS.below hw) (hK.below hw)).mono ?_
  rintro e_ w3 ⟨rfl, hb⟩
  replace R1 := keep hb R1
  replace R2 := keep hb R2
  replace hw := Below.after hw hb
  clear hb
  go_wp2
  go_ret
  exact ⟨rfl, hw⟩
set_option maxRecDepth 100000 in
set_option maxHeartbeats 4000000 in
theorem spoilt_oth (key nonce extra d key2 nonce2 extra2 d2 : List B) (hk : key.length = 32) (hno : nonce.length = 16) (hk2 : key2.length = 32) (hno2 : nonce2.length = 16) (w : World) (ve vd ve2 vd2 : Value) (hS : Sta w) (hK : Kon w) (hE : BysC w ve extra) (hD : BysC w vd d) (hE2 : BysC w ve2 extra2) (hD2 : BysC w vd2 d2) (at_ : Int) (mask : B) (cut : Int) (hnl : ¬ (2097216 < extra.length ∨ 2097216 < d.length)) (hlen : 2097216 < extra2.length) : Calls Tryd.prog 3 #[.agg (boxr key nonce ve vd), .agg (boxr key2 nonce2 ve2 vd2), .int .i64 at_, .int .u8 (bv mask), .int .i64 cut] w fun e w' => e = .returned (.bool true) ∧ Below w.heap.size w w' := by
  have hkl : (bl key).length = 32 := by rw [bl_len, hk]
  have hkl2 : (bl key2).length = 32 := by rw [bl_len, hk2]
  have hiN := info_bl infoN nonce hno
  have hiN2 := info_bl infoN nonce2 hno2
  obtain ⟨hE, qE⟩ := hE
  obtain ⟨hD, qD⟩ := hD
  obtain ⟨hE2, qE2⟩ := hE2
  obtain ⟨hD2, qD2⟩ := hD2
  obtain ⟨ue, uec, rfl⟩ : ∃ ao cap, ve = .slice ao extra.length cap := by
    obtain ⟨⟨ao, cap, h, _⟩, _⟩ := hE
    rw [bl_len] at h
    exact ⟨ao, cap, h⟩
  obtain ⟨ud, udc, rfl⟩ : ∃ ao cap, vd = .slice ao d.length cap := by
    obtain ⟨⟨ao, cap, h, _⟩, _⟩ := hD
    rw [bl_len] at h
    exact ⟨ao, cap, h⟩
  obtain ⟨ue2, ue2c, rfl⟩ : ∃ ao cap, ve2 = .slice ao extra2.length cap := by
    obtain ⟨⟨ao, cap, h, _⟩, _⟩ := hE2
    rw [bl_len] at h
    exact ⟨ao, cap, h⟩
  obtain ⟨ud2, ud2c, rfl⟩ : ∃ ao cap, vd2 = .slice ao d2.length cap := by
    obtain ⟨⟨ao, cap, h, _⟩, _⟩ := hD2
    rw [bl_len] at h
    exact ⟨ao, cap, h⟩
  replace qE := qE _ _ _ rfl
  replace qE2 := qE2 _ _ _ rfl
  have hdl : d.length ≤ 140737488351232 := hD.2.1
  have R1 := hp2_0 w (.cells (boxr key nonce (.slice ue extra.length uec) (.slice ud d.length udc)) 28) (.cells (boxr key2 nonce2 (.slice ue2 extra2.length ue2c) (.slice ud2 d2.length ud2c)) 28)
  have R2 := hp2_1 w (.cells (boxr key nonce (.slice ue extra.length uec) (.slice ud d.length udc)) 28) (.cells (boxr key2 nonce2 (.slice ue2 extra2.length ue2c) (.slice ud2 d2.length ud2c)) 28)
  have hw : Below w.heap.size w ((w.alloc (.cells (boxr key nonce (.slice ue extra.length uec) (.slice ud d.length udc)) 28)).alloc (.cells (boxr key2 nonce2 (.slice ue2 extra2.length ue2c) (.slice ud2 d2.length ud2c)) 28)) := ((Below.refl _ _).alloc (Nat.le_refl _) _).alloc (by simp) _
  have hEh : Hid (∀ V, Below w.heap.size w V → BysB V (.slice ue extra.length uec) extra) := hide (fun V h => hE.keep h)
  have hDh : Hid (∀ V, Below w.heap.size w V → BysB V (.slice ud d.length udc) d) := hide (fun V h => hD.keep h)
  have hE2h : Hid (∀ V, Below w.heap.size w V → BysB V (.slice ue2 extra2.length ue2c) extra2) := hide (fun V h => hE2.keep h)
  clear hE hD hE2 hD2 qD qD2
  have hb_ : Hid (false = decide (2097216 < extra.length ∨ 2097216 < d.length)) := hide (decide_eq_false hnl).symm
  have q9 : decide ((2097216 : Int) < (extra2.length : Int)) = true := by simp; omega
  go_enter Tryd.func3, Tryd.ntmps3
  go_wp2_with (first | (refine wpList_box rfl 28 _ rfl _ rfl (bBox _) ?_) | fail)
  try simp only [size_alloc1, Act.put, List.setIfInBounds_toArray, List.set_cons_succ, List.set_cons_zero]
  generalize ((w.alloc (.cells (boxr key nonce (.slice ue extra.length uec) (.slice ud d.length udc)) 28)).alloc (.cells (boxr key2 nonce2 (.slice ue2 extra2.length ue2c) (.slice ud2 d2.length ud2c)) 28)) = w0 at *
  refine (l_lives w0 (hS.below hw) (hK.below hw)).mono ?_
  rintro e_ w1 ⟨rfl, hb⟩
  replace R1 := keep hb R1
  replace R2 := keep hb R2
  replace hw := Below.after hw hb
  clear hb
  go_wp2_with (first | (refine wpList_load_want rfl 28 _ rfl (w.heap.size) rfl 28 (boxr key nonce (.slice ue extra.length uec) (.slice ud d.length udc)) (0, 0) _ R1 Tryd.underlying28 rfl (infoBx () hk hno) ?_) | fail)
  refine (l_long key nonce extra d hk hno w1 ue ud uec udc false hb_.out).mono ?_
  rintro e_ w2 ⟨rfl, hb⟩
  replace R1 := keep hb R1
  replace R2 := keep hb R2
  replace hw := Below.after hw hb
  clear hb
  have ca_ := (box_cell R1 hk hno).1
  have cb_ := (box_cell R1 hk hno).2
  have cc_ := (box_cell R2 hk2 hno2).1
  go_wp2_with (first | (refine wpList_load_part rfl 23 _ rfl (w.heap.size) 0 rfl 28 (boxr key nonce (.slice ue extra.length uec) (.slice ud d.length udc)) (0, 0) (irow .u8 (bl key)) _ R1 (box_key _ _ _ _) Tryd.underlying23 rfl (infok8 _ hkl) ?_) | (refine wpList_load_part rfl 25 _ rfl (w.heap.size) 32 rfl 28 (boxr key nonce (.slice ue extra.length uec) (.slice ud d.length udc)) (0, 0) (irow .u8 (bl nonce)) _ R1 (box_nonce _ _ _ _ hk) Tryd.underlying25 rfl hiN ?_) | (refine wpList_load_part rfl 23 _ rfl (w.heap.size + 1) 0 rfl 28 (boxr key2 nonce2 (.slice ue2 extra2.length ue2c) (.slice ud2 d2.length ud2c)) (0, 0) (irow .u8 (bl key2)) _ R2 (box_key _ _ _ _) Tryd.underlying23 rfl (infok8 _ hkl2) ?_) | (refine wpList_load_part rfl 25 _ rfl (w.heap.size + 1) 32 rfl 28 (boxr key2 nonce2 (.slice ue2 extra2.length ue2c) (.slice ud2 d2.length ud2c)) (0, 0) (irow .u8 (bl nonce2)) _ R2 (box_nonce _ _ _ _ hk2) Tryd.underlying25 rfl hiN2 ?_) | fail)
  clear ca_ cb_ cc_
  refine (l_lives w2 (hS.below hw) (hK.below hw)).mono ?_
  rintro e_ w3 ⟨rfl, hb⟩
  replace R1 := keep hb R1
  replace R2 := keep hb R2
  replace hw := Below.after hw hb
  clear hb
  go_wp2
  go_ret
  exact ⟨rfl, hw⟩
set_option maxRecDepth 100000 in
set_option maxHeartbeats 4000000 in
theorem spoilt_neg (key nonce extra d key2 nonce2 extra2 d2 : List B) (hk : key.length = 32) (hno : nonce.length = 16) (hk2 : key2.length = 32) (hno2 : nonce2.length = 16) (w : World) (ve vd ve2 vd2 : Value) (hS : Sta w) (hK : Kon w) (hE : BysC w ve extra) (hD : BysC w vd d) (hE2 : BysC w ve2 extra2) (hD2 : BysC w vd2 d2) (at_ : Int) (mask : B) (cut : Int) (hlen : extra.length ≤ 2097216 ∧ d.length ≤ 2097216 ∧ extra2.length ≤ 2097216) (ha : at_ < 0) : Calls Tryd.prog 3 #[.agg (boxr key nonce ve vd), .agg (boxr key2 nonce2 ve2 vd2), .int .i64 at_, .int .u8 (bv mask), .int .i64 cut] w fun e w' => e = .returned (.bool true) ∧ Below w.heap.size w w' := by
  have hkl : (bl key).length = 32 := by rw [bl_len, hk]
  have hkl2 : (bl key2).length = 32 := by rw [bl_len, hk2]
  have hiN := info_bl infoN nonce hno
  have hiN2 := info_bl infoN nonce2 hno2
  obtain ⟨hE, qE⟩ := hE
  obtain ⟨hD, qD⟩ := hD
  obtain ⟨hE2, qE2⟩ := hE2
  obtain ⟨hD2, qD2⟩ := hD2
  obtain ⟨ue, uec, rfl⟩ : ∃ ao cap, ve = .slice ao extra.length cap := by
    obtain ⟨⟨ao, cap, h, _⟩, _⟩ := hE
    rw [bl_len] at h
    exact ⟨ao, cap, h⟩
  obtain ⟨ud, udc, rfl⟩ : ∃ ao cap, vd = .slice ao d.length cap := by
    obtain ⟨⟨ao, cap, h, _⟩, _⟩ := hD
    rw [bl_len] at h
    exact ⟨ao, cap, h⟩
  obtain ⟨ue2, ue2c, rfl⟩ : ∃ ao cap, ve2 = .slice ao extra2.length cap := by
    obtain ⟨⟨ao, cap, h, _⟩, _⟩ := hE2
    rw [bl_len] at h
    exact ⟨ao, cap, h⟩
  obtain ⟨ud2, ud2c, rfl⟩ : ∃ ao cap, vd2 = .slice ao d2.length cap := by
    obtain ⟨⟨ao, cap, h, _⟩, _⟩ := hD2
    rw [bl_len] at h
    exact ⟨ao, cap, h⟩
  replace qE := qE _ _ _ rfl
  replace qE2 := qE2 _ _ _ rfl
  have hdl : d.length ≤ 140737488351232 := hD.2.1
  have R1 := hp2_0 w (.cells (boxr key nonce (.slice ue extra.length uec) (.slice ud d.length udc)) 28) (.cells (boxr key2 nonce2 (.slice ue2 extra2.length ue2c) (.slice ud2 d2.length ud2c)) 28)
  have R2 := hp2_1 w (.cells (boxr key nonce (.slice ue extra.length uec) (.slice ud d.length udc)) 28) (.cells (boxr key2 nonce2 (.slice ue2 extra2.length ue2c) (.slice ud2 d2.length ud2c)) 28)
  have hw : Below w.heap.size w ((w.alloc (.cells (boxr key nonce (.slice ue extra.length uec) (.slice ud d.length udc)) 28)).alloc (.cells (boxr key2 nonce2 (.slice ue2 extra2.length ue2c) (.slice ud2 d2.length ud2c)) 28)) := ((Below.refl _ _).alloc (Nat.le_refl _) _).alloc (by simp) _
  have hEh : Hid (∀ V, Below w.heap.size w V → BysB V (.slice ue extra.length uec) extra) := hide (fun V h => hE.keep h)
  have hDh : Hid (∀ V, Below w.heap.size w V → BysB V (.slice ud d.length udc) d) := hide (fun V h => hD.keep h)
  have hE2h : Hid (∀ V, Below w.heap.size w V → BysB V (.slice ue2 extra2.length ue2c) extra2) := hide (fun V h => hE2.keep h)
  clear hE hD hE2 hD2 qD qD2
  have hb_ : Hid (false = decide (2097216 < extra.length ∨ 2097216 < d.length)) := hide (decide_eq_false (by omega)).symm
  have q9 : decide ((2097216 : Int) < (extra2.length : Int)) = false := by simp; omega
  obtain ⟨LA, eLA⟩ : ∃ L, bx key nonce extra d = L := ⟨_, rfl⟩
  have s1 : slr key nonce extra d = LA := by rw [← eLA]; exact (slr_ok key nonce extra d hlen.1 hlen.2.1).1
  have s2 : sle extra d = 0 := (slr_ok key nonce extra d hlen.1 hlen.2.1).2
  have lA : LA.length = d.length + 16 := by rw [← eLA, bx_len]
  clear eLA
  replace lA := hide lA
  go_enter Tryd.func3, Tryd.ntmps3
  go_wp2_with (first | (refine wpList_box rfl 28 _ rfl _ rfl (bBox _) ?_) | fail)
  try simp only [size_alloc1, Act.put, List.setIfInBounds_toArray, List.set_cons_succ, List.set_cons_zero]
  generalize ((w.alloc (.cells (boxr key nonce (.slice ue extra.length uec) (.slice ud d.length udc)) 28)).alloc (.cells (boxr key2 nonce2 (.slice ue2 extra2.length ue2c) (.slice ud2 d2.length ud2c)) 28)) = w0 at *
  refine (l_lives w0 (hS.below hw) (hK.below hw)).mono ?_
  rintro e_ w1 ⟨rfl, hb⟩
  replace R1 := keep hb R1
  replace R2 := keep hb R2
  replace hw := Below.after hw hb
  clear hb
  go_wp2_with (first | (refine wpList_load_want rfl 28 _ rfl (w.heap.size) rfl 28 (boxr key nonce (.slice ue extra.length uec) (.slice ud d.length udc)) (0, 0) _ R1 Tryd.underlying28 rfl (infoBx () hk hno) ?_) | fail)
  refine (l_long key nonce extra d hk hno w1 ue ud uec udc false hb_.out).mono ?_
  rintro e_ w2 ⟨rfl, hb⟩
  replace R1 := keep hb R1
  replace R2 := keep hb R2
  replace hw := Below.after hw hb
  clear hb
  have ca_ := (box_cell R1 hk hno).1
  have cb_ := (box_cell R1 hk hno).2
  have cc_ := (box_cell R2 hk2 hno2).1
  go_wp2_with (first | (refine wpList_load_part rfl 23 _ rfl (w.heap.size) 0 rfl 28 (boxr key nonce (.slice ue extra.length uec) (.slice ud d.length udc)) (0, 0) (irow .u8 (bl key)) _ R1 (box_key _ _ _ _) Tryd.underlying23 rfl (infok8 _ hkl) ?_) | (refine wpList_load_part rfl 25 _ rfl (w.heap.size) 32 rfl 28 (boxr key nonce (.slice ue extra.length uec) (.slice ud d.length udc)) (0, 0) (irow .u8 (bl nonce)) _ R1 (box_nonce _ _ _ _ hk) Tryd.underlying25 rfl hiN ?_) | (refine wpList_load_part rfl 23 _ rfl (w.heap.size + 1) 0 rfl 28 (boxr key2 nonce2 (.slice ue2 extra2.length ue2c) (.slice ud2 d2.length ud2c)) (0, 0) (irow .u8 (bl key2)) _ R2 (box_key _ _ _ _) Tryd.underlying23 rfl (infok8 _ hkl2) ?_) | (refine wpList_load_part rfl 25 _ rfl (w.heap.size + 1) 32 rfl 28 (boxr key2 nonce2 (.slice ue2 extra2.length ue2c) (.slice ud2 d2.length ud2c)) (0, 0) (irow .u8 (bl nonce2)) _ R2 (box_nonce _ _ _ _ hk2) Tryd.underlying25 rfl hiN2 ?_) | fail)
  clear ca_ cb_ cc_
  have cX := a_seal key nonce extra d hk hno w2 _ _ (hS.below hw) (hK.below hw) (hEh.out _ hw) (hDh.out _ hw) (fun a l c h => by cases h; exact qE)
  rw [s1, s2] at cX
  refine cX.mono ?_
  rintro e_ w3 ⟨_, rfl, ⟨va, rfl, hOva⟩, hb⟩
  obtain ⟨aA, cA, rfl⟩ := slen_own hOva
  have szW : w.heap.size + 1 < w2.heap.size := lt_of_row R2
  clear cX s1 s2
  replace R1 := keep hb R1
  replace R2 := keep hb R2
  replace hw := Below.after hw hb
  clear hb
  have hwr : IntKind.i64.wrap ((d.length : Int) + 16) = (d.length : Int) + 16 := by rw [IntKind.wrap_i64]; omega
  have hcA : ((LA.length : Nat) : Int) = (d.length : Int) + 16 := by rw [lA.out]; omega
  replace lA := lA.out
  have x1 : decide ((0 : Int) ≤ at_) = false := decide_eq_false (by omega)
  clear lA
  have lA : LA.length = d.length + 16 := by omega
  have lAh := hide lA
  clear lA
  have hbd9 : LA.length ≤ 2097232 := by have := lAh.out; omega
  by_cases hc0 : 0 ≤ cut
  · obtain ⟨c, rfl⟩ := Int.eq_ofNat_of_zero_le hc0
    have y1 : decide ((0 : Int) ≤ (c : Int)) = true := by simp
    by_cases hc1 : c < LA.length
    · have y2 : decide ((c : Int) < (LA.length : Int)) = true := by simp; omega
      have slc := slice_to aA LA.length cA c (by have := own_capB hOva _ _ _ rfl; omega)
      have hLc : (LA.take c).length = c := by rw [List.length_take]; omega
      have hBL := bysB_take (m := c) (hOva.bysB (show LA.length ≤ 140737488351232 by omega)) (by omega)
      have qL : ∀ a l cc, Value.slice aA c cA = .slice a l cc → l ≤ cc := fun a l cc h => by
        have h1 := own_capB hOva _ _ _ rfl
        cases h
        omega
      generalize LA.take c = LC at *
      rw [← hLc] at hBL qL slc
      clear hOva
      obtain rfl := hLc
      obtain ⟨EF, eEF⟩ : ∃ z, ope key2 nonce2 extra2 LC = z := ⟨_, rfl⟩
      have cX := a_open key2 nonce2 extra2 LC hk2 hno2 w3 _ _ (hS.below hw) (hK.below hw) (hE2h.out _ hw) hBL (fun a l c h => by cases h; exact qE2) qL
      rw [eEF] at cX
      have eEF := hide eEF
      have ca_ := (box_cell R1 hk hno).1
      have cb_ := (box_cell R1 hk hno).2
      have cc_ := (box_cell R2 hk2 hno2).1
      go_wp2_with (first | (refine wpList_load_part rfl 23 _ rfl (w.heap.size) 0 rfl 28 (boxr key nonce (.slice ue extra.length uec) (.slice ud d.length udc)) (0, 0) (irow .u8 (bl key)) _ R1 (box_key _ _ _ _) Tryd.underlying23 rfl (infok8 _ hkl) ?_) | (refine wpList_load_part rfl 25 _ rfl (w.heap.size) 32 rfl 28 (boxr key nonce (.slice ue extra.length uec) (.slice ud d.length udc)) (0, 0) (irow .u8 (bl nonce)) _ R1 (box_nonce _ _ _ _ hk) Tryd.underlying25 rfl hiN ?_) | (refine wpList_load_part rfl 23 _ rfl (w.heap.size + 1) 0 rfl 28 (boxr key2 nonce2 (.slice ue2 extra2.length ue2c) (.slice ud2 d2.length ud2c)) (0, 0) (irow .u8 (bl key2)) _ R2 (box_key _ _ _ _) Tryd.underlying23 rfl (infok8 _ hkl2) ?_) | (refine wpList_load_part rfl 25 _ rfl (w.heap.size + 1) 32 rfl 28 (boxr key2 nonce2 (.slice ue2 extra2.length ue2c) (.slice ud2 d2.length ud2c)) (0, 0) (irow .u8 (bl nonce2)) _ R2 (box_nonce _ _ _ _ hk2) Tryd.underlying25 rfl hiN2 ?_) | fail)
      clear ca_ cb_ cc_
      refine cX.mono ?_
      rintro e_ w4 ⟨_, rfl, ⟨vf, rfl, hOvf⟩, hb⟩
      obtain ⟨aF, cF, rfl⟩ := slen_own hOvf
      clear cX hOvf
      replace hBL := hBL.keep hb
      replace R1 := keep hb R1
      replace R2 := keep hb R2
      replace hw := Below.after hw hb
      clear hb
      by_cases hs : LC.length < 16
      · have z1 : decide ((LC.length : Int) < 16) = true := by simp; omega
        have z2 : EF = 60 := by rw [← eEF.out, ope, if_neg (by omega), if_pos hs]
        subst z2
        have ca_ := (box_cell R1 hk hno).1
        have cb_ := (box_cell R1 hk hno).2
        have cc_ := (box_cell R2 hk2 hno2).1
        go_wp2
        go_ret
        exact ⟨rfl, hw⟩
      · have z1 : decide ((LC.length : Int) < 16) = false := by simp; omega
        have cT := l_tagged key2 nonce2 extra2 LC hk2 hno2 w4 _ _ (hS.below hw) (hK.below hw) (hE2h.out _ hw) hBL qL (by omega)
        by_cases ht : otg LC = tg key2 nonce2 extra2 (obx LC)
        · have z2 : EF = 0 := by rw [← eEF.out, ope, if_neg (by omega), if_neg hs, if_pos ht]
          rw [decide_eq_true ⟨by omega, ht⟩] at cT
          subst z2
          clear ht
          have ca_ := (box_cell R1 hk hno).1
          have cb_ := (box_cell R1 hk hno).2
          have cc_ := (box_cell R2 hk2 hno2).1
          go_wp2_with (first | (refine wpList_load_part rfl 23 _ rfl (w.heap.size) 0 rfl 28 (boxr key nonce (.slice ue extra.length uec) (.slice ud d.length udc)) (0, 0) (irow .u8 (bl key)) _ R1 (box_key _ _ _ _) Tryd.underlying23 rfl (infok8 _ hkl) ?_) | (refine wpList_load_part rfl 25 _ rfl (w.heap.size) 32 rfl 28 (boxr key nonce (.slice ue extra.length uec) (.slice ud d.length udc)) (0, 0) (irow .u8 (bl nonce)) _ R1 (box_nonce _ _ _ _ hk) Tryd.underlying25 rfl hiN ?_) | (refine wpList_load_part rfl 23 _ rfl (w.heap.size + 1) 0 rfl 28 (boxr key2 nonce2 (.slice ue2 extra2.length ue2c) (.slice ud2 d2.length ud2c)) (0, 0) (irow .u8 (bl key2)) _ R2 (box_key _ _ _ _) Tryd.underlying23 rfl (infok8 _ hkl2) ?_) | (refine wpList_load_part rfl 25 _ rfl (w.heap.size + 1) 32 rfl 28 (boxr key2 nonce2 (.slice ue2 extra2.length ue2c) (.slice ud2 d2.length ud2c)) (0, 0) (irow .u8 (bl nonce2)) _ R2 (box_nonce _ _ _ _ hk2) Tryd.underlying25 rfl hiN2 ?_) | fail)
          clear ca_ cb_ cc_
          refine cT.mono ?_
          rintro e_ w5 ⟨rfl, hb⟩
          replace hw := Below.after hw hb
          clear hb
          go_wp2
          go_ret
          exact ⟨rfl, hw⟩
        · have z2 : EF = 61 := by rw [← eEF.out, ope, if_neg (by omega), if_neg hs, if_neg ht]
          rw [decide_eq_false (fun h => ht h.2)] at cT
          subst z2
          clear ht
          have ca_ := (box_cell R1 hk hno).1
          have cb_ := (box_cell R1 hk hno).2
          have cc_ := (box_cell R2 hk2 hno2).1
          go_wp2_with (first | (refine wpList_load_part rfl 23 _ rfl (w.heap.size) 0 rfl 28 (boxr key nonce (.slice ue extra.length uec) (.slice ud d.length udc)) (0, 0) (irow .u8 (bl key)) _ R1 (box_key _ _ _ _) Tryd.underlying23 rfl (infok8 _ hkl) ?_) | (refine wpList_load_part rfl 25 _ rfl (w.heap.size) 32 rfl 28 (boxr key nonce (.slice ue extra.length uec) (.slice ud d.length udc)) (0, 0) (irow .u8 (bl nonce)) _ R1 (box_nonce _ _ _ _ hk) Tryd.underlying25 rfl hiN ?_) | (refine wpList_load_part rfl 23 _ rfl (w.heap.size + 1) 0 rfl 28 (boxr key2 nonce2 (.slice ue2 extra2.length ue2c) (.slice ud2 d2.length ud2c)) (0, 0) (irow .u8 (bl key2)) _ R2 (box_key _ _ _ _) Tryd.underlying23 rfl (infok8 _ hkl2) ?_) | (refine wpList_load_part rfl 25 _ rfl (w.heap.size + 1) 32 rfl 28 (boxr key2 nonce2 (.slice ue2 extra2.length ue2c) (.slice ud2 d2.length ud2c)) (0, 0) (irow .u8 (bl nonce2)) _ R2 (box_nonce _ _ _ _ hk2) Tryd.underlying25 rfl hiN2 ?_) | fail)
          clear ca_ cb_ cc_
          refine cT.mono ?_
          rintro e_ w5 ⟨rfl, hb⟩
          replace hw := Below.after hw hb
          clear hb
          go_wp2
          go_ret
          exact ⟨rfl, hw⟩
    · have y2 : decide ((c : Int) < (LA.length : Int)) = false := by simp; omega
      have qL := own_capB hOva
      have hBL := hOva.bysB (show LA.length ≤ 140737488351232 by omega)
      clear hOva
      obtain ⟨EF, eEF⟩ : ∃ z, ope key2 nonce2 extra2 LA = z := ⟨_, rfl⟩
      have cX := a_open key2 nonce2 extra2 LA hk2 hno2 w3 _ _ (hS.below hw) (hK.below hw) (hE2h.out _ hw) hBL (fun a l c h => by cases h; exact qE2) qL
      rw [eEF] at cX
      have eEF := hide eEF
      have ca_ := (box_cell R1 hk hno).1
      have cb_ := (box_cell R1 hk hno).2
      have cc_ := (box_cell R2 hk2 hno2).1
      go_wp2_with (first | (refine wpList_load_part rfl 23 _ rfl (w.heap.size) 0 rfl 28 (boxr key nonce (.slice ue extra.length uec) (.slice ud d.length udc)) (0, 0) (irow .u8 (bl key)) _ R1 (box_key _ _ _ _) Tryd.underlying23 rfl (infok8 _ hkl) ?_) | (refine wpList_load_part rfl 25 _ rfl (w.heap.size) 32 rfl 28 (boxr key nonce (.slice ue extra.length uec) (.slice ud d.length udc)) (0, 0) (irow .u8 (bl nonce)) _ R1 (box_nonce _ _ _ _ hk) Tryd.underlying25 rfl hiN ?_) | (refine wpList_load_part rfl 23 _ rfl (w.heap.size + 1) 0 rfl 28 (boxr key2 nonce2 (.slice ue2 extra2.length ue2c) (.slice ud2 d2.length ud2c)) (0, 0) (irow .u8 (bl key2)) _ R2 (box_key _ _ _ _) Tryd.underlying23 rfl (infok8 _ hkl2) ?_) | (refine wpList_load_part rfl 25 _ rfl (w.heap.size + 1) 32 rfl 28 (boxr key2 nonce2 (.slice ue2 extra2.length ue2c) (.slice ud2 d2.length ud2c)) (0, 0) (irow .u8 (bl nonce2)) _ R2 (box_nonce _ _ _ _ hk2) Tryd.underlying25 rfl hiN2 ?_) | fail)
      clear ca_ cb_ cc_
      refine cX.mono ?_
      rintro e_ w4 ⟨_, rfl, ⟨vf, rfl, hOvf⟩, hb⟩
      obtain ⟨aF, cF, rfl⟩ := slen_own hOvf
      clear cX hOvf
      replace hBL := hBL.keep hb
      replace R1 := keep hb R1
      replace R2 := keep hb R2
      replace hw := Below.after hw hb
      clear hb
      by_cases hs : LA.length < 16
      · exfalso
        have h1 := lAh.out
        omega
      · have z1 : decide ((LA.length : Int) < 16) = false := by simp; omega
        have cT := l_tagged key2 nonce2 extra2 LA hk2 hno2 w4 _ _ (hS.below hw) (hK.below hw) (hE2h.out _ hw) hBL qL (by omega)
        by_cases ht : otg LA = tg key2 nonce2 extra2 (obx LA)
        · have z2 : EF = 0 := by rw [← eEF.out, ope, if_neg (by omega), if_neg hs, if_pos ht]
          rw [decide_eq_true ⟨by omega, ht⟩] at cT
          subst z2
          clear ht
          have ca_ := (box_cell R1 hk hno).1
          have cb_ := (box_cell R1 hk hno).2
          have cc_ := (box_cell R2 hk2 hno2).1
          go_wp2_with (first | (refine wpList_load_part rfl 23 _ rfl (w.heap.size) 0 rfl 28 (boxr key nonce (.slice ue extra.length uec) (.slice ud d.length udc)) (0, 0) (irow .u8 (bl key)) _ R1 (box_key _ _ _ _) Tryd.underlying23 rfl (infok8 _ hkl) ?_) | (refine wpList_load_part rfl 25 _ rfl (w.heap.size) 32 rfl 28 (boxr key nonce (.slice ue extra.length uec) (.slice ud d.length udc)) (0, 0) (irow .u8 (bl nonce)) _ R1 (box_nonce _ _ _ _ hk) Tryd.underlying25 rfl hiN ?_) | (refine wpList_load_part rfl 23 _ rfl (w.heap.size + 1) 0 rfl 28 (boxr key2 nonce2 (.slice ue2 extra2.length ue2c) (.slice ud2 d2.length ud2c)) (0, 0) (irow .u8 (bl key2)) _ R2 (box_key _ _ _ _) Tryd.underlying23 rfl (infok8 _ hkl2) ?_) | (refine wpList_load_part rfl 25 _ rfl (w.heap.size + 1) 32 rfl 28 (boxr key2 nonce2 (.slice ue2 extra2.length ue2c) (.slice ud2 d2.length ud2c)) (0, 0) (irow .u8 (bl nonce2)) _ R2 (box_nonce _ _ _ _ hk2) Tryd.underlying25 rfl hiN2 ?_) | fail)
          clear ca_ cb_ cc_
          refine cT.mono ?_
          rintro e_ w5 ⟨rfl, hb⟩
          replace hw := Below.after hw hb
          clear hb
          go_wp2
          go_ret
          exact ⟨rfl, hw⟩
        · have z2 : EF = 61 := by rw [← eEF.out, ope, if_neg (by omega), if_neg hs, if_neg ht]
          rw [decide_eq_false (fun h => ht h.2)] at cT
          subst z2
          clear ht
          have ca_ := (box_cell R1 hk hno).1
          have cb_ := (box_cell R1 hk hno).2
          have cc_ := (box_cell R2 hk2 hno2).1
          go_wp2_with (first | (refine wpList_load_part rfl 23 _ rfl (w.heap.size) 0 rfl 28 (boxr key nonce (.slice ue extra.length uec) (.slice ud d.length udc)) (0, 0) (irow .u8 (bl key)) _ R1 (box_key _ _ _ _) Tryd.underlying23 rfl (infok8 _ hkl) ?_) | (refine wpList_load_part rfl 25 _ rfl (w.heap.size) 32 rfl 28 (boxr key nonce (.slice ue extra.length uec) (.slice ud d.length udc)) (0, 0) (irow .u8 (bl nonce)) _ R1 (box_nonce _ _ _ _ hk) Tryd.underlying25 rfl hiN ?_) | (refine wpList_load_part rfl 23 _ rfl (w.heap.size + 1) 0 rfl 28 (boxr key2 nonce2 (.slice ue2 extra2.length ue2c) (.slice ud2 d2.length ud2c)) (0, 0) (irow .u8 (bl key2)) _ R2 (box_key _ _ _ _) Tryd.underlying23 rfl (infok8 _ hkl2) ?_) | (refine wpList_load_part rfl 25 _ rfl (w.heap.size + 1) 32 rfl 28 (boxr key2 nonce2 (.slice ue2 extra2.length ue2c) (.slice ud2 d2.length ud2c)) (0, 0) (irow .u8 (bl nonce2)) _ R2 (box_nonce _ _ _ _ hk2) Tryd.underlying25 rfl hiN2 ?_) | fail)
          clear ca_ cb_ cc_
          refine cT.mono ?_
          rintro e_ w5 ⟨rfl, hb⟩
          replace hw := Below.after hw hb
          clear hb
          go_wp2
          go_ret
          exact ⟨rfl, hw⟩
  · have y1 : decide ((0 : Int) ≤ cut) = false := decide_eq_false hc0
    have qL := own_capB hOva
    have hBL := hOva.bysB (show LA.length ≤ 140737488351232 by omega)
    clear hOva
    obtain ⟨EF, eEF⟩ : ∃ z, ope key2 nonce2 extra2 LA = z := ⟨_, rfl⟩
    have cX := a_open key2 nonce2 extra2 LA hk2 hno2 w3 _ _ (hS.below hw) (hK.below hw) (hE2h.out _ hw) hBL (fun a l c h => by cases h; exact qE2) qL
    rw [eEF] at cX
    have eEF := hide eEF
    have ca_ := (box_cell R1 hk hno).1
    have cb_ := (box_cell R1 hk hno).2
    have cc_ := (box_cell R2 hk2 hno2).1
    go_wp2_with (first | (refine wpList_load_part rfl 23 _ rfl (w.heap.size) 0 rfl 28 (boxr key nonce (.slice ue extra.length uec) (.slice ud d.length udc)) (0, 0) (irow .u8 (bl key)) _ R1 (box_key _ _ _ _) Tryd.underlying23 rfl (infok8 _ hkl) ?_) | (refine wpList_load_part rfl 25 _ rfl (w.heap.size) 32 rfl 28 (boxr key nonce (.slice ue extra.length uec) (.slice ud d.length udc)) (0, 0) (irow .u8 (bl nonce)) _ R1 (box_nonce _ _ _ _ hk) Tryd.underlying25 rfl hiN ?_) | (refine wpList_load_part rfl 23 _ rfl (w.heap.size + 1) 0 rfl 28 (boxr key2 nonce2 (.slice ue2 extra2.length ue2c) (.slice ud2 d2.length ud2c)) (0, 0) (irow .u8 (bl key2)) _ R2 (box_key _ _ _ _) Tryd.underlying23 rfl (infok8 _ hkl2) ?_) | (refine wpList_load_part rfl 25 _ rfl (w.heap.size + 1) 32 rfl 28 (boxr key2 nonce2 (.slice ue2 extra2.length ue2c) (.slice ud2 d2.length ud2c)) (0, 0) (irow .u8 (bl nonce2)) _ R2 (box_nonce _ _ _ _ hk2) Tryd.underlying25 rfl hiN2 ?_) | fail)
    clear ca_ cb_ cc_
    refine cX.mono ?_
    rintro e_ w4 ⟨_, rfl, ⟨vf, rfl, hOvf⟩, hb⟩
    obtain ⟨aF, cF, rfl⟩ := slen_own hOvf
    clear cX hOvf
    replace hBL := hBL.keep hb
    replace R1 := keep hb R1
    replace R2 := keep hb R2
    replace hw := Below.after hw hb
    clear hb
    by_cases hs : LA.length < 16
    · exfalso
      have h1 := lAh.out
      omega
    · have z1 : decide ((LA.length : Int) < 16) = false := by simp; omega
      have cT := l_tagged key2 nonce2 extra2 LA hk2 hno2 w4 _ _ (hS.below hw) (hK.below hw) (hE2h.out _ hw) hBL qL (by omega)
      by_cases ht : otg LA = tg key2 nonce2 extra2 (obx LA)
      · have z2 : EF = 0 := by rw [← eEF.out, ope, if_neg (by omega), if_neg hs, if_pos ht]
        rw [decide_eq_true ⟨by omega, ht⟩] at cT
        subst z2
        clear ht
        have ca_ := (box_cell R1 hk hno).1
        have cb_ := (box_cell R1 hk hno).2
        have cc_ := (box_cell R2 hk2 hno2).1
        go_wp2_with (first | (refine wpList_load_part rfl 23 _ rfl (w.heap.size) 0 rfl 28 (boxr key nonce (.slice ue extra.length uec) (.slice ud d.length udc)) (0, 0) (irow .u8 (bl key)) _ R1 (box_key _ _ _ _) Tryd.underlying23 rfl (infok8 _ hkl) ?_) | (refine wpList_load_part rfl 25 _ rfl (w.heap.size) 32 rfl 28 (boxr key nonce (.slice ue extra.length uec) (.slice ud d.length udc)) (0, 0) (irow .u8 (bl nonce)) _ R1 (box_nonce _ _ _ _ hk) Tryd.underlying25 rfl hiN ?_) | (refine wpList_load_part rfl 23 _ rfl (w.heap.size + 1) 0 rfl 28 (boxr key2 nonce2 (.slice ue2 extra2.length ue2c) (.slice ud2 d2.length ud2c)) (0, 0) (irow .u8 (bl key2)) _ R2 (box_key _ _ _ _) Tryd.underlying23 rfl (infok8 _ hkl2) ?_) | (refine wpList_load_part rfl 25 _ rfl (w.heap.size + 1) 32 rfl 28 (boxr key2 nonce2 (.slice ue2 extra2.length ue2c) (.slice ud2 d2.length ud2c)) (0, 0) (irow .u8 (bl nonce2)) _ R2 (box_nonce _ _ _ _ hk2) Tryd.underlying25 rfl hiN2 ?_) | fail)
        clear ca_ cb_ cc_
        refine cT.mono ?_
        rintro e_ w5 ⟨rfl, hb⟩
        replace hw := Below.after hw hb
        clear hb
        go_wp2
        go_ret
        exact ⟨rfl, hw⟩
      · have z2 : EF = 61 := by rw [← eEF.out, ope, if_neg (by omega), if_neg hs, if_neg ht]
        rw [decide_eq_false (fun h => ht h.2)] at cT
        subst z2
        clear ht
        have ca_ := (box_cell R1 hk hno).1
        have cb_ := (box_cell R1 hk hno).2
        have cc_ := (box_cell R2 hk2 hno2).1
        go_wp2_with (first | (refine wpList_load_part rfl 23 _ rfl (w.heap.size) 0 rfl 28 (boxr key nonce (.slice ue extra.length uec) (.slice ud d.length udc)) (0, 0) (irow .u8 (bl key)) _ R1 (box_key _ _ _ _) Tryd.underlying23 rfl (infok8 _ hkl) ?_) | (refine wpList_load_part rfl 25 _ rfl (w.heap.size) 32 rfl 28 (boxr key nonce (.slice ue extra.length uec) (.slice ud d.length udc)) (0, 0) (irow .u8 (bl nonce)) _ R1 (box_nonce _ _ _ _ hk) Tryd.underlying25 rfl hiN ?_) | (refine wpList_load_part rfl 23 _ rfl (w.heap.size + 1) 0 rfl 28 (boxr key2 nonce2 (.slice ue2 extra2.length ue2c) (.slice ud2 d2.length ud2c)) (0, 0) (irow .u8 (bl key2)) _ R2 (box_key _ _ _ _) Tryd.underlying23 rfl (infok8 _ hkl2) ?_) | (refine wpList_load_part rfl 25 _ rfl (w.heap.size + 1) 32 rfl 28 (boxr key2 nonce2 (.slice ue2 extra2.length ue2c) (.slice ud2 d2.length ud2c)) (0, 0) (irow .u8 (bl nonce2)) _ R2 (box_nonce _ _ _ _ hk2) Tryd.underlying25 rfl hiN2 ?_) | fail)
        clear ca_ cb_ cc_
        refine cT.mono ?_
        rintro e_ w5 ⟨rfl, hb⟩
        replace hw := Below.after hw hb
        clear hb
        go_wp2
        go_ret
        exact ⟨rfl, hw⟩
set_option maxRecDepth 100000 in
set_option maxHeartbeats 4000000 in
theorem spoilt_large (key nonce extra d key2 nonce2 extra2 d2 : List B) (hk : key.length = 32) (hno : nonce.length = 16) (hk2 : key2.length = 32) (hno2 : nonce2.length = 16) (w : World) (ve vd ve2 vd2 : Value) (hS : Sta w) (hK : Kon w) (hE : BysC w ve extra) (hD : BysC w vd d) (hE2 : BysC w ve2 extra2) (hD2 : BysC w vd2 d2) (at_ : Int) (mask : B) (cut : Int) (hlen : extra.length ≤ 2097216 ∧ d.length ≤ 2097216 ∧ extra2.length ≤ 2097216) (ha : (d.length : Int) + 16 ≤ at_) : Calls Tryd.prog 3 #[.agg (boxr key nonce ve vd), .agg (boxr key2 nonce2 ve2 vd2), .int .i64 at_, .int .u8 (bv mask), .int .i64 cut] w fun e w' => e = .returned (.bool true) ∧ Below w.heap.size w w' := by
  have hkl : (bl key).length = 32 := by rw [bl_len, hk]
  have hkl2 : (bl key2).length = 32 := by rw [bl_len, hk2]
  have hiN := info_bl infoN nonce hno
  have hiN2 := info_bl infoN nonce2 hno2
  obtain ⟨hE, qE⟩ := hE
  obtain ⟨hD, qD⟩ := hD
  obtain ⟨hE2, qE2⟩ := hE2
  obtain ⟨hD2, qD2⟩ := hD2
  obtain ⟨ue, uec, rfl⟩ : ∃ ao cap, ve = .slice ao extra.length cap := by
    obtain ⟨⟨ao, cap, h, _⟩, _⟩ := hE
    rw [bl_len] at h
    exact ⟨ao, cap, h⟩
  obtain ⟨ud, udc, rfl⟩ : ∃ ao cap, vd = .slice ao d.length cap := by
    obtain ⟨⟨ao, cap, h, _⟩, _⟩ := hD
    rw [bl_len] at h
    exact ⟨ao, cap, h⟩
  obtain ⟨ue2, ue2c, rfl⟩ : ∃ ao cap, ve2 = .slice ao extra2.length cap := by
    obtain ⟨⟨ao, cap, h, _⟩, _⟩ := hE2
    rw [bl_len] at h
    exact ⟨ao, cap, h⟩
  obtain ⟨ud2, ud2c, rfl⟩ : ∃ ao cap, vd2 = .slice ao d2.length cap := by
    obtain ⟨⟨ao, cap, h, _⟩, _⟩ := hD2
    rw [bl_len] at h
    exact ⟨ao, cap, h⟩
  replace qE := qE _ _ _ rfl
  replace qE2 := qE2 _ _ _ rfl
  have hdl : d.length ≤ 140737488351232 := hD.2.1
  have R1 := hp2_0 w (.cells (boxr key nonce (.slice ue extra.length uec) (.slice ud d.length udc)) 28) (.cells (boxr key2 nonce2 (.slice ue2 extra2.length ue2c) (.slice ud2 d2.length ud2c)) 28)
  have R2 := hp2_1 w (.cells (boxr key nonce (.slice ue extra.length uec) (.slice ud d.length udc)) 28) (.cells (boxr key2 nonce2 (.slice ue2 extra2.length ue2c) (.slice ud2 d2.length ud2c)) 28)
  have hw : Below w.heap.size w ((w.alloc (.cells (boxr key nonce (.slice ue extra.length uec) (.slice ud d.length udc)) 28)).alloc (.cells (boxr key2 nonce2 (.slice ue2 extra2.length ue2c) (.slice ud2 d2.length ud2c)) 28)) := ((Below.refl _ _).alloc (Nat.le_refl _) _).alloc (by simp) _
  have hEh : Hid (∀ V, Below w.heap.size w V → BysB V (.slice ue extra.length uec) extra) := hide (fun V h => hE.keep h)
  have hDh : Hid (∀ V, Below w.heap.size w V → BysB V (.slice ud d.length udc) d) := hide (fun V h => hD.keep h)
  have hE2h : Hid (∀ V, Below w.heap.size w V → BysB V (.slice ue2 extra2.length ue2c) extra2) := hide (fun V h => hE2.keep h)
  clear hE hD hE2 hD2 qD qD2
  have hb_ : Hid (false = decide (2097216 < extra.length ∨ 2097216 < d.length)) := hide (decide_eq_false (by omega)).symm
  have q9 : decide ((2097216 : Int) < (extra2.length : Int)) = false := by simp; omega
  obtain ⟨LA, eLA⟩ : ∃ L, bx key nonce extra d = L := ⟨_, rfl⟩
  have s1 : slr key nonce extra d = LA := by rw [← eLA]; exact (slr_ok key nonce extra d hlen.1 hlen.2.1).1
  have s2 : sle extra d = 0 := (slr_ok key nonce extra d hlen.1 hlen.2.1).2
  have lA : LA.length = d.length + 16 := by rw [← eLA, bx_len]
  clear eLA
  replace lA := hide lA
  go_enter Tryd.func3, Tryd.ntmps3
  go_wp2_with (first | (refine wpList_box rfl 28 _ rfl _ rfl (bBox _) ?_) | fail)
  try simp only [size_alloc1, Act.put, List.setIfInBounds_toArray, List.set_cons_succ, List.set_cons_zero]
  generalize ((w.alloc (.cells (boxr key nonce (.slice ue extra.length uec) (.slice ud d.length udc)) 28)).alloc (.cells (boxr key2 nonce2 (.slice ue2 extra2.length ue2c) (.slice ud2 d2.length ud2c)) 28)) = w0 at *
  refine (l_lives w0 (hS.below hw) (hK.below hw)).mono ?_
  rintro e_ w1 ⟨rfl, hb⟩
  replace R1 := keep hb R1
  replace R2 := keep hb R2
  replace hw := Below.after hw hb
  clear hb
  go_wp2_with (first | (refine wpList_load_want rfl 28 _ rfl (w.heap.size) rfl 28 (boxr key nonce (.slice ue extra.length uec) (.slice ud d.length udc)) (0, 0) _ R1 Tryd.underlying28 rfl (infoBx () hk hno) ?_) | fail)
  refine (l_long key nonce extra d hk hno w1 ue ud uec udc false hb_.out).mono ?_
  rintro e_ w2 ⟨rfl, hb⟩
  replace R1 := keep hb R1
  replace R2 := keep hb R2
  replace hw := Below.after hw hb
  clear hb
  have ca_ := (box_cell R1 hk hno).1
  have cb_ := (box_cell R1 hk hno).2
  have cc_ := (box_cell R2 hk2 hno2).1
  go_wp2_with (first | (refine wpList_load_part rfl 23 _ rfl (w.heap.size) 0 rfl 28 (boxr key nonce (.slice ue extra.length uec) (.slice ud d.length udc)) (0, 0) (irow .u8 (bl key)) _ R1 (box_key _ _ _ _) Tryd.underlying23 rfl (infok8 _ hkl) ?_) | (refine wpList_load_part rfl 25 _ rfl (w.heap.size) 32 rfl 28 (boxr key nonce (.slice ue extra.length uec) (.slice ud d.length udc)) (0, 0) (irow .u8 (bl nonce)) _ R1 (box_nonce _ _ _ _ hk) Tryd.underlying25 rfl hiN ?_) | (refine wpList_load_part rfl 23 _ rfl (w.heap.size + 1) 0 rfl 28 (boxr key2 nonce2 (.slice ue2 extra2.length ue2c) (.slice ud2 d2.length ud2c)) (0, 0) (irow .u8 (bl key2)) _ R2 (box_key _ _ _ _) Tryd.underlying23 rfl (infok8 _ hkl2) ?_) | (refine wpList_load_part rfl 25 _ rfl (w.heap.size + 1) 32 rfl 28 (boxr key2 nonce2 (.slice ue2 extra2.length ue2c) (.slice ud2 d2.length ud2c)) (0, 0) (irow .u8 (bl nonce2)) _ R2 (box_nonce _ _ _ _ hk2) Tryd.underlying25 rfl hiN2 ?_) | fail)
  clear ca_ cb_ cc_
  have cX := a_seal key nonce extra d hk hno w2 _ _ (hS.below hw) (hK.below hw) (hEh.out _ hw) (hDh.out _ hw) (fun a l c h => by cases h; exact qE)
  rw [s1, s2] at cX
  refine cX.mono ?_
  rintro e_ w3 ⟨_, rfl, ⟨va, rfl, hOva⟩, hb⟩
  obtain ⟨aA, cA, rfl⟩ := slen_own hOva
  have szW : w.heap.size + 1 < w2.heap.size := lt_of_row R2
  clear cX s1 s2
  replace R1 := keep hb R1
  replace R2 := keep hb R2
  replace hw := Below.after hw hb
  clear hb
  have hwr : IntKind.i64.wrap ((d.length : Int) + 16) = (d.length : Int) + 16 := by rw [IntKind.wrap_i64]; omega
  have hcA : ((LA.length : Nat) : Int) = (d.length : Int) + 16 := by rw [lA.out]; omega
  replace lA := lA.out
  have x1 : decide ((0 : Int) ≤ at_) = true := decide_eq_true (by omega)
  have x2 : decide (at_ < (d.length : Int) + 16) = false := decide_eq_false (by omega)
  clear lA
  have lA : LA.length = d.length + 16 := by omega
  have lAh := hide lA
  clear lA
  have hbd9 : LA.length ≤ 2097232 := by have := lAh.out; omega
  by_cases hc0 : 0 ≤ cut
  · obtain ⟨c, rfl⟩ := Int.eq_ofNat_of_zero_le hc0
    have y1 : decide ((0 : Int) ≤ (c : Int)) = true := by simp
    by_cases hc1 : c < LA.length
    · have y2 : decide ((c : Int) < (LA.length : Int)) = true := by simp; omega
      have slc := slice_to aA LA.length cA c (by have := own_capB hOva _ _ _ rfl; omega)
      have hLc : (LA.take c).length = c := by rw [List.length_take]; omega
      have hBL := bysB_take (m := c) (hOva.bysB (show LA.length ≤ 140737488351232 by omega)) (by omega)
      have qL : ∀ a l cc, Value.slice aA c cA = .slice a l cc → l ≤ cc := fun a l cc h => by
        have h1 := own_capB hOva _ _ _ rfl
        cases h
        omega
      generalize LA.take c = LC at *
      rw [← hLc] at hBL qL slc
      clear hOva
      obtain rfl := hLc
      obtain ⟨EF, eEF⟩ : ∃ z, ope key2 nonce2 extra2 LC = z := ⟨_, rfl⟩
      have cX := a_open key2 nonce2 extra2 LC hk2 hno2 w3 _ _ (hS.below hw) (hK.below hw) (hE2h.out _ hw) hBL (fun a l c h => by cases h; exact qE2) qL
      rw [eEF] at cX
      have eEF := hide eEF
      have ca_ := (box_cell R1 hk hno).1
      have cb_ := (box_cell R1 hk hno).2
      have cc_ := (box_cell R2 hk2 hno2).1
      go_wp2_with (first | (refine wpList_load_part rfl 23 _ rfl (w.heap.size) 0 rfl 28 (boxr key nonce (.slice ue extra.length uec) (.slice ud d.length udc)) (0, 0) (irow .u8 (bl key)) _ R1 (box_key _ _ _ _) Tryd.underlying23 rfl (infok8 _ hkl) ?_) | (refine wpList_load_part rfl 25 _ rfl (w.heap.size) 32 rfl 28 (boxr key nonce (.slice ue extra.length uec) (.slice ud d.length udc)) (0, 0) (irow .u8 (bl nonce)) _ R1 (box_nonce _ _ _ _ hk) Tryd.underlying25 rfl hiN ?_) | (refine wpList_load_part rfl 23 _ rfl (w.heap.size + 1) 0 rfl 28 (boxr key2 nonce2 (.slice ue2 extra2.length ue2c) (.slice ud2 d2.length ud2c)) (0, 0) (irow .u8 (bl key2)) _ R2 (box_key _ _ _ _) Tryd.underlying23 rfl (infok8 _ hkl2) ?_) | (refine wpList_load_part rfl 25 _ rfl (w.heap.size + 1) 32 rfl 28 (boxr key2 nonce2 (.slice ue2 extra2.length ue2c) (.slice ud2 d2.length ud2c)) (0, 0) (irow .u8 (bl nonce2)) _ R2 (box_nonce _ _ _ _ hk2) Tryd.underlying25 rfl hiN2 ?_) | fail)
      clear ca_ cb_ cc_
      refine cX.mono ?_
      rintro e_ w4 ⟨_, rfl, ⟨vf, rfl, hOvf⟩, hb⟩
      obtain ⟨aF, cF, rfl⟩ := slen_own hOvf
      clear cX hOvf
      replace hBL := hBL.keep hb
      replace R1 := keep hb R1
      replace R2 := keep hb R2
      replace hw := Below.after hw hb
      clear hb
      by_cases hs : LC.length < 16
      · have z1 : decide ((LC.length : Int) < 16) = true := by simp; omega
        have z2 : EF = 60 := by rw [← eEF.out, ope, if_neg (by omega), if_pos hs]
        subst z2
        have ca_ := (box_cell R1 hk hno).1
        have cb_ := (box_cell R1 hk hno).2
        have cc_ := (box_cell R2 hk2 hno2).1
        go_wp2
        go_ret
        exact ⟨rfl, hw⟩
      · have z1 : decide ((LC.length : Int) < 16) = false := by simp; omega
        have cT := l_tagged key2 nonce2 extra2 LC hk2 hno2 w4 _ _ (hS.below hw) (hK.below hw) (hE2h.out _ hw) hBL qL (by omega)
        by_cases ht : otg LC = tg key2 nonce2 extra2 (obx LC)
        · have z2 : EF = 0 := by rw [← eEF.out, ope, if_neg (by omega), if_neg hs, if_pos ht]
          rw [decide_eq_true ⟨by omega, ht⟩] at cT
          subst z2
          clear ht
          have ca_ := (box_cell R1 hk hno).1
          have cb_ := (box_cell R1 hk hno).2
          have cc_ := (box_cell R2 hk2 hno2).1
          go_wp2_with (first | (refine wpList_load_part rfl 23 _ rfl (w.heap.size) 0 rfl 28 (boxr key nonce (.slice ue extra.length uec) (.slice ud d.length udc)) (0, 0) (irow .u8 (bl key)) _ R1 (box_key _ _ _ _) Tryd.underlying23 rfl (infok8 _ hkl) ?_) | (refine wpList_load_part rfl 25 _ rfl (w.heap.size) 32 rfl 28 (boxr key nonce (.slice ue extra.length uec) (.slice ud d.length udc)) (0, 0) (irow .u8 (bl nonce)) _ R1 (box_nonce _ _ _ _ hk) Tryd.underlying25 rfl hiN ?_) | (refine wpList_load_part rfl 23 _ rfl (w.heap.size + 1) 0 rfl 28 (boxr key2 nonce2 (.slice ue2 extra2.length ue2c) (.slice ud2 d2.length ud2c)) (0, 0) (irow .u8 (bl key2)) _ R2 (box_key _ _ _ _) Tryd.underlying23 rfl (infok8 _ hkl2) ?_) | (refine wpList_load_part rfl 25 _ rfl (w.heap.size + 1) 32 rfl 28 (boxr key2 nonce2 (.slice ue2 extra2.length ue2c) (.slice ud2 d2.length ud2c)) (0, 0) (irow .u8 (bl nonce2)) _ R2 (box_nonce _ _ _ _ hk2) Tryd.underlying25 rfl hiN2 ?_) | fail)
          clear ca_ cb_ cc_
          refine cT.mono ?_
          rintro e_ w5 ⟨rfl, hb⟩
          replace hw := Below.after hw hb
          clear hb
          go_wp2
          go_ret
          exact ⟨rfl, hw⟩
        · have z2 : EF = 61 := by rw [← eEF.out, ope, if_neg (by omega), if_neg hs, if_neg ht]
          rw [decide_eq_false (fun h => ht h.2)] at cT
          subst z2
          clear ht
          have ca_ := (box_cell R1 hk hno).1
          have cb_ := (box_cell R1 hk hno).2
          have cc_ := (box_cell R2 hk2 hno2).1
          go_wp2_with (first | (refine wpList_load_part rfl 23 _ rfl (w.heap.size) 0 rfl 28 (boxr key nonce (.slice ue extra.length uec) (.slice ud d.length udc)) (0, 0) (irow .u8 (bl key)) _ R1 (box_key _ _ _ _) Tryd.underlying23 rfl (infok8 _ hkl) ?_) | (refine wpList_load_part rfl 25 _ rfl (w.heap.size) 32 rfl 28 (boxr key nonce (.slice ue extra.length uec) (.slice ud d.length udc)) (0, 0) (irow .u8 (bl nonce)) _ R1 (box_nonce _ _ _ _ hk) Tryd.underlying25 rfl hiN ?_) | (refine wpList_load_part rfl 23 _ rfl (w.heap.size + 1) 0 rfl 28 (boxr key2 nonce2 (.slice ue2 extra2.length ue2c) (.slice ud2 d2.length ud2c)) (0, 0) (irow .u8 (bl key2)) _ R2 (box_key _ _ _ _) Tryd.underlying23 rfl (infok8 _ hkl2) ?_) | (refine wpList_load_part rfl 25 _ rfl (w.heap.size + 1) 32 rfl 28 (boxr key2 nonce2 (.slice ue2 extra2.length ue2c) (.slice ud2 d2.length ud2c)) (0, 0) (irow .u8 (bl nonce2)) _ R2 (box_nonce _ _ _ _ hk2) Tryd.underlying25 rfl hiN2 ?_) | fail)
          clear ca_ cb_ cc_
          refine cT.mono ?_
          rintro e_ w5 ⟨rfl, hb⟩
          replace hw := Below.after hw hb
          clear hb
          go_wp2
          go_ret
          exact ⟨rfl, hw⟩
    · have y2 : decide ((c : Int) < (LA.length : Int)) = false := by simp; omega
      have qL := own_capB hOva
      have hBL := hOva.bysB (show LA.length ≤ 140737488351232 by omega)
      clear hOva
      obtain ⟨EF, eEF⟩ : ∃ z, ope key2 nonce2 extra2 LA = z := ⟨_, rfl⟩
      have cX := a_open key2 nonce2 extra2 LA hk2 hno2 w3 _ _ (hS.below hw) (hK.below hw) (hE2h.out _ hw) hBL (fun a l c h => by cases h; exact qE2) qL
      rw [eEF] at cX
      have eEF := hide eEF
      have ca_ := (box_cell R1 hk hno).1
      have cb_ := (box_cell R1 hk hno).2
      have cc_ := (box_cell R2 hk2 hno2).1
      go_wp2_with (first | (refine wpList_load_part rfl 23 _ rfl (w.heap.size) 0 rfl 28 (boxr key nonce (.slice ue extra.length uec) (.slice ud d.length udc)) (0, 0) (irow .u8 (bl key)) _ R1 (box_key _ _ _ _) Tryd.underlying23 rfl (infok8 _ hkl) ?_) | (refine wpList_load_part rfl 25 _ rfl (w.heap.size) 32 rfl 28 (boxr key nonce (.slice ue extra.length uec) (.slice ud d.length udc)) (0, 0) (irow .u8 (bl nonce)) _ R1 (box_nonce _ _ _ _ hk) Tryd.underlying25 rfl hiN ?_) | (refine wpList_load_part rfl 23 _ rfl (w.heap.size + 1) 0 rfl 28 (boxr key2 nonce2 (.slice ue2 extra2.length ue2c) (.slice ud2 d2.length ud2c)) (0, 0) (irow .u8 (bl key2)) _ R2 (box_key _ _ _ _) Tryd.underlying23 rfl (infok8 _ hkl2) ?_) | (refine wpList_load_part rfl 25 _ rfl (w.heap.size + 1) 32 rfl 28 (boxr key2 nonce2 (.slice ue2 extra2.length ue2c) (.slice ud2 d2.length ud2c)) (0, 0) (irow .u8 (bl nonce2)) _ R2 (box_nonce _ _ _ _ hk2) Tryd.underlying25 rfl hiN2 ?_) | fail)
      clear ca_ cb_ cc_
      refine cX.mono ?_
      rintro e_ w4 ⟨_, rfl, ⟨vf, rfl, hOvf⟩, hb⟩
      obtain ⟨aF, cF, rfl⟩ := slen_own hOvf
      clear cX hOvf
      replace hBL := hBL.keep hb
      replace R1 := keep hb R1
      replace R2 := keep hb R2
      replace hw := Below.after hw hb
      clear hb
      by_cases hs : LA.length < 16
      · exfalso
        have h1 := lAh.out
        omega
      · have z1 : decide ((LA.length : Int) < 16) = false := by simp; omega
        have cT := l_tagged key2 nonce2 extra2 LA hk2 hno2 w4 _ _ (hS.below hw) (hK.below hw) (hE2h.out _ hw) hBL qL (by omega)
        by_cases ht : otg LA = tg key2 nonce2 extra2 (obx LA)
        · have z2 : EF = 0 := by rw [← eEF.out, ope, if_neg (by omega), if_neg hs, if_pos ht]
          rw [decide_eq_true ⟨by omega, ht⟩] at cT
          subst z2
          clear ht
          have ca_ := (box_cell R1 hk hno).1
          have cb_ := (box_cell R1 hk hno).2
          have cc_ := (box_cell R2 hk2 hno2).1
          go_wp2_with (first | (refine wpList_load_part rfl 23 _ rfl (w.heap.size) 0 rfl 28 (boxr key nonce (.slice ue extra.length uec) (.slice ud d.length udc)) (0, 0) (irow .u8 (bl key)) _ R1 (box_key _ _ _ _) Tryd.underlying23 rfl (infok8 _ hkl) ?_) | (refine wpList_load_part rfl 25 _ rfl (w.heap.size) 32 rfl 28 (boxr key nonce (.slice ue extra.length uec) (.slice ud d.length udc)) (0, 0) (irow .u8 (bl nonce)) _ R1 (box_nonce _ _ _ _ hk) Tryd.underlying25 rfl hiN ?_) | (refine wpList_load_part rfl 23 _ rfl (w.heap.size + 1) 0 rfl 28 (boxr key2 nonce2 (.slice ue2 extra2.length ue2c) (.slice ud2 d2.length ud2c)) (0, 0) (irow .u8 (bl key2)) _ R2 (box_key _ _ _ _) Tryd.underlying23 rfl (infok8 _ hkl2) ?_) | (refine wpList_load_part rfl 25 _ rfl (w.heap.size + 1) 32 rfl 28 (boxr key2 nonce2 (.slice ue2 extra2.length ue2c) (.slice ud2 d2.length ud2c)) (0, 0) (irow .u8 (bl nonce2)) _ R2 (box_nonce _ _ _ _ hk2) Tryd.underlying25 rfl hiN2 ?_) | fail)
          clear ca_ cb_ cc_
          refine cT.mono ?_
          rintro e_ w5 ⟨rfl, hb⟩
          replace hw := Below.after hw hb
          clear hb
          go_wp2
          go_ret
          exact ⟨rfl, hw⟩
        · have z2 : EF = 61 := by rw [← eEF.out, ope, if_neg (by omega), if_neg hs, if_neg ht]
          rw [decide_eq_false (fun h => ht h.2)] at cT
          subst z2
          clear ht
          have ca_ := (box_cell R1 hk hno).1
          have cb_ := (box_cell R1 hk hno).2
          have cc_ := (box_cell R2 hk2 hno2).1
          go_wp2_with (first | (refine wpList_load_part rfl 23 _ rfl (w.heap.size) 0 rfl 28 (boxr key nonce (.slice ue extra.length uec) (.slice ud d.length udc)) (0, 0) (irow .u8 (bl key)) _ R1 (box_key _ _ _ _) Tryd.underlying23 rfl (infok8 _ hkl) ?_) | (refine wpList_load_part rfl 25 _ rfl (w.heap.size) 32 rfl 28 (boxr key nonce (.slice ue extra.length uec) (.slice ud d.length udc)) (0, 0) (irow .u8 (bl nonce)) _ R1 (box_nonce _ _ _ _ hk) Tryd.underlying25 rfl hiN ?_) | (refine wpList_load_part rfl 23 _ rfl (w.heap.size + 1) 0 rfl 28 (boxr key2 nonce2 (.slice ue2 extra2.length ue2c) (.slice ud2 d2.length ud2c)) (0, 0) (irow .u8 (bl key2)) _ R2 (box_key _ _ _ _) Tryd.underlying23 rfl (infok8 _ hkl2) ?_) | (refine wpList_load_part rfl 25 _ rfl (w.heap.size + 1) 32 rfl 28 (boxr key2 nonce2 (.slice ue2 extra2.length ue2c) (.slice ud2 d2.length ud2c)) (0, 0) (irow .u8 (bl nonce2)) _ R2 (box_nonce _ _ _ _ hk2) Tryd.underlying25 rfl hiN2 ?_) | fail)
          clear ca_ cb_ cc_
          refine cT.mono ?_
          rintro e_ w5 ⟨rfl, hb⟩
          replace hw := Below.after hw hb
          clear hb
          go_wp2
          go_ret
          exact ⟨rfl, hw⟩
  · have y1 : decide ((0 : Int) ≤ cut) = false := decide_eq_false hc0
    have qL := own_capB hOva
    have hBL := hOva.bysB (show LA.length ≤ 140737488351232 by omega)
    clear hOva
    obtain ⟨EF, eEF⟩ : ∃ z, ope key2 nonce2 extra2 LA = z := ⟨_, rfl⟩
    have cX := a_open key2 nonce2 extra2 LA hk2 hno2 w3 _ _ (hS.below hw) (hK.below hw) (hE2h.out _ hw) hBL (fun a l c h => by cases h; exact qE2) qL
    rw [eEF] at cX
    have eEF := hide eEF
    have ca_ := (box_cell R1 hk hno).1
    have cb_ := (box_cell R1 hk hno).2
    have cc_ := (box_cell R2 hk2 hno2).1
    go_wp2_with (first | (refine wpList_load_part rfl 23 _ rfl (w.heap.size) 0 rfl 28 (boxr key nonce (.slice ue extra.length uec) (.slice ud d.length udc)) (0, 0) (irow .u8 (bl key)) _ R1 (box_key _ _ _ _) Tryd.underlying23 rfl (infok8 _ hkl) ?_) | (refine wpList_load_part rfl 25 _ rfl (w.heap.size) 32 rfl 28 (boxr key nonce (.slice ue extra.length uec) (.slice ud d.length udc)) (0, 0) (irow .u8 (bl nonce)) _ R1 (box_nonce _ _ _ _ hk) Tryd.underlying25 rfl hiN ?_) | (refine wpList_load_part rfl 23 _ rfl (w.heap.size + 1) 0 rfl 28 (boxr key2 nonce2 (.slice ue2 extra2.length ue2c) (.slice ud2 d2.length ud2c)) (0, 0) (irow .u8 (bl key2)) _ R2 (box_key _ _ _ _) Tryd.underlying23 rfl (infok8 _ hkl2) ?_) | (refine wpList_load_part rfl 25 _ rfl (w.heap.size + 1) 32 rfl 28 (boxr key2 nonce2 (.slice ue2 extra2.length ue2c) (.slice ud2 d2.length ud2c)) (0, 0) (irow .u8 (bl nonce2)) _ R2 (box_nonce _ _ _ _ hk2) Tryd.underlying25 rfl hiN2 ?_) | fail)
    clear ca_ cb_ cc_
    refine cX.mono ?_
    rintro e_ w4 ⟨_, rfl, ⟨vf, rfl, hOvf⟩, hb⟩
    obtain ⟨aF, cF, rfl⟩ := slen_own hOvf
    clear cX hOvf
    replace hBL := hBL.keep hb
    replace R1 := keep hb R1
    replace R2 := keep hb R2
    replace hw := Below.after hw hb
    clear hb
    by_cases hs : LA.length < 16
    · exfalso
      have h1 := lAh.out
      omega
    · have z1 : decide ((LA.length : Int) < 16) = false := by simp; omega
      have cT := l_tagged key2 nonce2 extra2 LA hk2 hno2 w4 _ _ (hS.below hw) (hK.below hw) (hE2h.out _ hw) hBL qL (by omega)
      by_cases ht : otg LA = tg key2 nonce2 extra2 (obx LA)
      · have z2 : EF = 0 := by rw [← eEF.out, ope, if_neg (by omega), if_neg hs, if_pos ht]
        rw [decide_eq_true ⟨by omega, ht⟩] at cT
        subst z2
        clear ht
        have ca_ := (box_cell R1 hk hno).1
        have cb_ := (box_cell R1 hk hno).2
        have cc_ := (box_cell R2 hk2 hno2).1
        go_wp2_with (first | (refine wpList_load_part rfl 23 _ rfl (w.heap.size) 0 rfl 28 (boxr key nonce (.slice ue extra.length uec) (.slice ud d.length udc)) (0, 0) (irow .u8 (bl key)) _ R1 (box_key _ _ _ _) Tryd.underlying23 rfl (infok8 _ hkl) ?_) | (refine wpList_load_part rfl 25 _ rfl (w.heap.size) 32 rfl 28 (boxr key nonce (.slice ue extra.length uec) (.slice ud d.length udc)) (0, 0) (irow .u8 (bl nonce)) _ R1 (box_nonce _ _ _ _ hk) Tryd.underlying25 rfl hiN ?_) | (refine wpList_load_part rfl 23 _ rfl (w.heap.size + 1) 0 rfl 28 (boxr key2 nonce2 (.slice ue2 extra2.length ue2c) (.slice ud2 d2.length ud2c)) (0, 0) (irow .u8 (bl key2)) _ R2 (box_key _ _ _ _) Tryd.underlying23 rfl (infok8 _ hkl2) ?_) | (refine wpList_load_part rfl 25 _ rfl (w.heap.size + 1) 32 rfl 28 (boxr key2 nonce2 (.slice ue2 extra2.length ue2c) (.slice ud2 d2.length ud2c)) (0, 0) (irow .u8 (bl nonce2)) _ R2 (box_nonce _ _ _ _ hk2) Tryd.underlying25 rfl hiN2 ?_) | fail)
        clear ca_ cb_ cc_
        refine cT.mono ?_
        rintro e_ w5 ⟨rfl, hb⟩
        replace hw := Below.after hw hb
        clear hb
        go_wp2
        go_ret
        exact ⟨rfl, hw⟩
      · have z2 : EF = 61 := by rw [← eEF.out, ope, if_neg (by omega), if_neg hs, if_neg ht]
        rw [decide_eq_false (fun h => ht h.2)] at cT
        subst z2
        clear ht
        have ca_ := (box_cell R1 hk hno).1
        have cb_ := (box_cell R1 hk hno).2
        have cc_ := (box_cell R2 hk2 hno2).1
        go_wp2_with (first | (refine wpList_load_part rfl 23 _ rfl (w.heap.size) 0 rfl 28 (boxr key nonce (.slice ue extra.length uec) (.slice ud d.length udc)) (0, 0) (irow .u8 (bl key)) _ R1 (box_key _ _ _ _) Tryd.underlying23 rfl (infok8 _ hkl) ?_) | (refine wpList_load_part rfl 25 _ rfl (w.heap.size) 32 rfl 28 (boxr key nonce (.slice ue extra.length uec) (.slice ud d.length udc)) (0, 0) (irow .u8 (bl nonce)) _ R1 (box_nonce _ _ _ _ hk) Tryd.underlying25 rfl hiN ?_) | (refine wpList_load_part rfl 23 _ rfl (w.heap.size + 1) 0 rfl 28 (boxr key2 nonce2 (.slice ue2 extra2.length ue2c) (.slice ud2 d2.length ud2c)) (0, 0) (irow .u8 (bl key2)) _ R2 (box_key _ _ _ _) Tryd.underlying23 rfl (infok8 _ hkl2) ?_) | (refine wpList_load_part rfl 25 _ rfl (w.heap.size + 1) 32 rfl 28 (boxr key2 nonce2 (.slice ue2 extra2.length ue2c) (.slice ud2 d2.length ud2c)) (0, 0) (irow .u8 (bl nonce2)) _ R2 (box_nonce _ _ _ _ hk2) Tryd.underlying25 rfl hiN2 ?_) | fail)
        clear ca_ cb_ cc_
        refine cT.mono ?_
        rintro e_ w5 ⟨rfl, hb⟩
        replace hw := Below.after hw hb
        clear hb
        go_wp2
        go_ret
        exact ⟨rfl, hw⟩
set_option maxRecDepth 100000 in
set_option maxHeartbeats 4000000 in
theorem spoilt_lt (key nonce extra d key2 nonce2 extra2 d2 : List B) (hk : key.length = 32) (hno : nonce.length = 16) (hk2 : key2.length = 32) (hno2 : nonce2.length = 16) (w : World) (ve vd ve2 vd2 : Value) (hS : Sta w) (hK : Kon w) (hE : BysC w ve extra) (hD : BysC w vd d) (hE2 : BysC w ve2 extra2) (hD2 : BysC w vd2 d2) (mask : B) (cut : Int) (hlen : extra.length ≤ 2097216 ∧ d.length ≤ 2097216 ∧ extra2.length ≤ 2097216) (k : Nat) (hkd : k < d.length) : Calls Tryd.prog 3 #[.agg (boxr key nonce ve vd), .agg (boxr key2 nonce2 ve2 vd2), .int .i64 (k : Int), .int .u8 (bv mask), .int .i64 cut] w fun e w' => e = .returned (.bool true) ∧ Below w.heap.size w w' := by
  have hkl_ : k < d.length + 16 := by omega
  have hkl : (bl key).length = 32 := by rw [bl_len, hk]
  have hkl2 : (bl key2).length = 32 := by rw [bl_len, hk2]
  have hiN := info_bl infoN nonce hno
  have hiN2 := info_bl infoN nonce2 hno2
  obtain ⟨hE, qE⟩ := hE
  obtain ⟨hD, qD⟩ := hD
  obtain ⟨hE2, qE2⟩ := hE2
  obtain ⟨hD2, qD2⟩ := hD2
  obtain ⟨ue, uec, rfl⟩ : ∃ ao cap, ve = .slice ao extra.length cap := by
    obtain ⟨⟨ao, cap, h, _⟩, _⟩ := hE
    rw [bl_len] at h
    exact ⟨ao, cap, h⟩
  obtain ⟨ud, udc, rfl⟩ : ∃ ao cap, vd = .slice ao d.length cap := by
    obtain ⟨⟨ao, cap, h, _⟩, _⟩ := hD
    rw [bl_len] at h
    exact ⟨ao, cap, h⟩
  obtain ⟨ue2, ue2c, rfl⟩ : ∃ ao cap, ve2 = .slice ao extra2.length cap := by
    obtain ⟨⟨ao, cap, h, _⟩, _⟩ := hE2
    rw [bl_len] at h
    exact ⟨ao, cap, h⟩
  obtain ⟨ud2, ud2c, rfl⟩ : ∃ ao cap, vd2 = .slice ao d2.length cap := by
    obtain ⟨⟨ao, cap, h, _⟩, _⟩ := hD2
    rw [bl_len] at h
    exact ⟨ao, cap, h⟩
  replace qE := qE _ _ _ rfl
  replace qE2 := qE2 _ _ _ rfl
  have hdl : d.length ≤ 140737488351232 := hD.2.1
  have R1 := hp2_0 w (.cells (boxr key nonce (.slice ue extra.length uec) (.slice ud d.length udc)) 28) (.cells (boxr key2 nonce2 (.slice ue2 extra2.length ue2c) (.slice ud2 d2.length ud2c)) 28)
  have R2 := hp2_1 w (.cells (boxr key nonce (.slice ue extra.length uec) (.slice ud d.length udc)) 28) (.cells (boxr key2 nonce2 (.slice ue2 extra2.length ue2c) (.slice ud2 d2.length ud2c)) 28)
  have hw : Below w.heap.size w ((w.alloc (.cells (boxr key nonce (.slice ue extra.length uec) (.slice ud d.length udc)) 28)).alloc (.cells (boxr key2 nonce2 (.slice ue2 extra2.length ue2c) (.slice ud2 d2.length ud2c)) 28)) := ((Below.refl _ _).alloc (Nat.le_refl _) _).alloc (by simp) _
  have hEh : Hid (∀ V, Below w.heap.size w V → BysB V (.slice ue extra.length uec) extra) := hide (fun V h => hE.keep h)
  have hDh : Hid (∀ V, Below w.heap.size w V → BysB V (.slice ud d.length udc) d) := hide (fun V h => hD.keep h)
  have hE2h : Hid (∀ V, Below w.heap.size w V → BysB V (.slice ue2 extra2.length ue2c) extra2) := hide (fun V h => hE2.keep h)
  clear hE hD hE2 hD2 qD qD2
  have hb_ : Hid (false = decide (2097216 < extra.length ∨ 2097216 < d.length)) := hide (decide_eq_false (by omega)).symm
  have q9 : decide ((2097216 : Int) < (extra2.length : Int)) = false := by simp; omega
  obtain ⟨LA, eLA⟩ : ∃ L, bx key nonce extra d = L := ⟨_, rfl⟩
  have s1 : slr key nonce extra d = LA := by rw [← eLA]; exact (slr_ok key nonce extra d hlen.1 hlen.2.1).1
  have s2 : sle extra d = 0 := (slr_ok key nonce extra d hlen.1 hlen.2.1).2
  have lA : LA.length = d.length + 16 := by rw [← eLA, bx_len]
  clear eLA
  replace lA := hide lA
  go_enter Tryd.func3, Tryd.ntmps3
  go_wp2_with (first | (refine wpList_box rfl 28 _ rfl _ rfl (bBox _) ?_) | fail)
  try simp only [size_alloc1, Act.put, List.setIfInBounds_toArray, List.set_cons_succ, List.set_cons_zero]
  generalize ((w.alloc (.cells (boxr key nonce (.slice ue extra.length uec) (.slice ud d.length udc)) 28)).alloc (.cells (boxr key2 nonce2 (.slice ue2 extra2.length ue2c) (.slice ud2 d2.length ud2c)) 28)) = w0 at *
  refine (l_lives w0 (hS.below hw) (hK.below hw)).mono ?_
  rintro e_ w1 ⟨rfl, hb⟩
  replace R1 := keep hb R1
  replace R2 := keep hb R2
  replace hw := Below.after hw hb
  clear hb
  go_wp2_with (first | (refine wpList_load_want rfl 28 _ rfl (w.heap.size) rfl 28 (boxr key nonce (.slice ue extra.length uec) (.slice ud d.length udc)) (0, 0) _ R1 Tryd.underlying28 rfl (infoBx () hk hno) ?_) | fail)
  refine (l_long key nonce extra d hk hno w1 ue ud uec udc false hb_.out).mono ?_
  rintro e_ w2 ⟨rfl, hb⟩
  replace R1 := keep hb R1
  replace R2 := keep hb R2
  replace hw := Below.after hw hb
  clear hb
  have ca_ := (box_cell R1 hk hno).1
  have cb_ := (box_cell R1 hk hno).2
  have cc_ := (box_cell R2 hk2 hno2).1
  go_wp2_with (first | (refine wpList_load_part rfl 23 _ rfl (w.heap.size) 0 rfl 28 (boxr key nonce (.slice ue extra.length uec) (.slice ud d.length udc)) (0, 0) (irow .u8 (bl key)) _ R1 (box_key _ _ _ _) Tryd.underlying23 rfl (infok8 _ hkl) ?_) | (refine wpList_load_part rfl 25 _ rfl (w.heap.size) 32 rfl 28 (boxr key nonce (.slice ue extra.length uec) (.slice ud d.length udc)) (0, 0) (irow .u8 (bl nonce)) _ R1 (box_nonce _ _ _ _ hk) Tryd.underlying25 rfl hiN ?_) | (refine wpList_load_part rfl 23 _ rfl (w.heap.size + 1) 0 rfl 28 (boxr key2 nonce2 (.slice ue2 extra2.length ue2c) (.slice ud2 d2.length ud2c)) (0, 0) (irow .u8 (bl key2)) _ R2 (box_key _ _ _ _) Tryd.underlying23 rfl (infok8 _ hkl2) ?_) | (refine wpList_load_part rfl 25 _ rfl (w.heap.size + 1) 32 rfl 28 (boxr key2 nonce2 (.slice ue2 extra2.length ue2c) (.slice ud2 d2.length ud2c)) (0, 0) (irow .u8 (bl nonce2)) _ R2 (box_nonce _ _ _ _ hk2) Tryd.underlying25 rfl hiN2 ?_) | fail)
  clear ca_ cb_ cc_
  have cX := a_seal key nonce extra d hk hno w2 _ _ (hS.below hw) (hK.below hw) (hEh.out _ hw) (hDh.out _ hw) (fun a l c h => by cases h; exact qE)
  rw [s1, s2] at cX
  refine cX.mono ?_
  rintro e_ w3 ⟨_, rfl, ⟨va, rfl, hOva⟩, hb⟩
  obtain ⟨aA, cA, rfl⟩ := slen_own hOva
  have szW : w.heap.size + 1 < w2.heap.size := lt_of_row R2
  clear cX s1 s2
  replace R1 := keep hb R1
  replace R2 := keep hb R2
  replace hw := Below.after hw hb
  clear hb
  have hwr : IntKind.i64.wrap ((d.length : Int) + 16) = (d.length : Int) + 16 := by rw [IntKind.wrap_i64]; omega
  have hcA : ((LA.length : Nat) : Int) = (d.length : Int) + 16 := by rw [lA.out]; omega
  have hlk : k < LA.length := by rw [lA.out]; exact hkl_
  have x1 : decide ((0 : Int) ≤ (k : Int)) = true := by simp
  have x2 : decide ((k : Int) < (d.length : Int) + 16) = true := decide_eq_true (by omega)
  have x3 : decide ((d.length : Int) ≤ (k : Int)) = false := decide_eq_false (by omega)
  obtain ⟨xa, exa, hxa⟩ := own_ap hOva
  obtain ⟨_ | gA, mA, cA'⟩ := xa
  · exact absurd exa (by
      intro h
      have h2 : Value.slice aA LA.length cA = .slice none 0 0 := h
      injection h2 with _ h3 _
      omega)
  have h2 : Value.slice aA LA.length cA = .slice (some ⟨gA, 0, none⟩) mA cA' := exa
  injection h2 with e1 e2 e3
  subst e1 e3
  obtain ⟨_, hgA, hgA2, hown⟩ := hxa gA mA cA rfl
  rw [← e2] at hown
  clear exa hxa e2
  have hcel := (or_cell hown hlk).1
  have hfro := (or_cell hown hlk).2
  rw [bl_get] at hcel
  replace hcel : w3.cell? ⟨gA, k, none⟩ = some (.int .u8 (bv (gb LA k))) := hcel
  have hxr : bits .xor .u8 (bv (gb LA k)) (bv mask) = bv (gb LA k ^^^ mask) := xor8 _ _
  have hset := (or_set (t := k) (z := bv (gb LA k ^^^ mask)) hown).resolve_right (by omega)
  rw [bl_set] at hset
  have hOv2 : Own (w3.setCell ⟨gA, k, none⟩ (.int .u8 (bv (gb LA k ^^^ mask)))) w2.heap.size (.slice (some ⟨gA, 0, none⟩) LA.length cA) (LA.set k (gb LA k ^^^ mask)) := by
    unfold Own
    rw [List.length_set]
    exact hset
  have R1s : (w3.setCell ⟨gA, k, none⟩ (.int .u8 (bv (gb LA k ^^^ mask)))).heap[w.heap.size]? = _ := heap_other R1 (by omega)
  have R2s : (w3.setCell ⟨gA, k, none⟩ (.int .u8 (bv (gb LA k ^^^ mask)))).heap[w.heap.size + 1]? = _ := heap_other R2 (by omega)
  have hws := hw.setCell (show w.heap.size ≤ (⟨gA, k, none⟩ : Addr).block from by show w.heap.size ≤ gA; omega) (.int .u8 (bv (gb LA k ^^^ mask)))
  have hlS : (LA.set k (gb LA k ^^^ mask)).length = LA.length := List.length_set
  clear hset hown
  have P1 := R1
  have P2 := R2
  clear R1 R2
  have R1 := R1s
  have R2 := R2s
  clear R1s R2s hOva hw
  have hw := hws
  clear hws
  generalize LA.set k (gb LA k ^^^ mask) = LS at *
  rw [← hlS] at hOv2 hcA hlk ⊢
  have hOva := hOv2
  have lAh : Hid (LS.length = d.length + 16) := hide (by rw [hlS]; exact lA.out)
  have hbd9 : LS.length ≤ 2097232 := by have := lAh.out; omega
  clear hOv2 lA hlS
  by_cases hc0 : 0 ≤ cut
  · obtain ⟨c, rfl⟩ := Int.eq_ofNat_of_zero_le hc0
    have y1 : decide ((0 : Int) ≤ (c : Int)) = true := by simp
    by_cases hc1 : c < LS.length
    · have y2 : decide ((c : Int) < (LS.length : Int)) = true := by simp; omega
      have slc := slice_to (some ⟨gA, 0, none⟩) LS.length cA c (by have := own_capB hOva _ _ _ rfl; omega)
      have hLc : (LS.take c).length = c := by rw [List.length_take]; omega
      have hBL := bysB_take (m := c) (hOva.bysB (show LS.length ≤ 140737488351232 by omega)) (by omega)
      have qL : ∀ a l cc, Value.slice (some ⟨gA, 0, none⟩) c cA = .slice a l cc → l ≤ cc := fun a l cc h => by
        have h1 := own_capB hOva _ _ _ rfl
        cases h
        omega
      generalize LS.take c = LC at *
      rw [← hLc] at hBL qL slc
      clear hOva
      obtain rfl := hLc
      obtain ⟨EF, eEF⟩ : ∃ z, ope key2 nonce2 extra2 LC = z := ⟨_, rfl⟩
      have cX := a_open key2 nonce2 extra2 LC hk2 hno2 (w3.setCell ⟨gA, k, none⟩ (.int .u8 (bv (gb LA k ^^^ mask)))) _ _ (hS.below hw) (hK.below hw) (hE2h.out _ hw) hBL (fun a l c h => by cases h; exact qE2) qL
      rw [eEF] at cX
      have eEF := hide eEF
      have ca_ := (box_cell R1 hk hno).1
      have cb_ := (box_cell R1 hk hno).2
      have cc_ := (box_cell R2 hk2 hno2).1
      have cbp_ := (box_cell P1 hk hno).2
      go_wp2_with (first | (refine wpList_load_part rfl 23 _ rfl (w.heap.size) 0 rfl 28 (boxr key nonce (.slice ue extra.length uec) (.slice ud d.length udc)) (0, 0) (irow .u8 (bl key)) _ R1 (box_key _ _ _ _) Tryd.underlying23 rfl (infok8 _ hkl) ?_) | (refine wpList_load_part rfl 25 _ rfl (w.heap.size) 32 rfl 28 (boxr key nonce (.slice ue extra.length uec) (.slice ud d.length udc)) (0, 0) (irow .u8 (bl nonce)) _ R1 (box_nonce _ _ _ _ hk) Tryd.underlying25 rfl hiN ?_) | (refine wpList_load_part rfl 23 _ rfl (w.heap.size + 1) 0 rfl 28 (boxr key2 nonce2 (.slice ue2 extra2.length ue2c) (.slice ud2 d2.length ud2c)) (0, 0) (irow .u8 (bl key2)) _ R2 (box_key _ _ _ _) Tryd.underlying23 rfl (infok8 _ hkl2) ?_) | (refine wpList_load_part rfl 25 _ rfl (w.heap.size + 1) 32 rfl 28 (boxr key2 nonce2 (.slice ue2 extra2.length ue2c) (.slice ud2 d2.length ud2c)) (0, 0) (irow .u8 (bl nonce2)) _ R2 (box_nonce _ _ _ _ hk2) Tryd.underlying25 rfl hiN2 ?_) | fail)
      clear ca_ cb_ cc_
      clear cbp_ P1 P2 hcel hfro hxr hcA hwr x1 x2 x3
      generalize (w3.setCell ⟨gA, k, none⟩ (.int .u8 (bv (gb LA k ^^^ mask)))) = wS at *
      refine cX.mono ?_
      rintro e_ w4 ⟨_, rfl, ⟨vf, rfl, hOvf⟩, hb⟩
      obtain ⟨aF, cF, rfl⟩ := slen_own hOvf
      clear cX hOvf
      replace hBL := hBL.keep hb
      replace R1 := keep hb R1
      replace R2 := keep hb R2
      replace hw := Below.after hw hb
      clear hb
      by_cases hs : LC.length < 16
      · have z1 : decide ((LC.length : Int) < 16) = true := by simp; omega
        have z2 : EF = 60 := by rw [← eEF.out, ope, if_neg (by omega), if_pos hs]
        subst z2
        have ca_ := (box_cell R1 hk hno).1
        have cb_ := (box_cell R1 hk hno).2
        have cc_ := (box_cell R2 hk2 hno2).1
        go_wp2
        go_ret
        exact ⟨rfl, hw⟩
      · have z1 : decide ((LC.length : Int) < 16) = false := by simp; omega
        have cT := l_tagged key2 nonce2 extra2 LC hk2 hno2 w4 _ _ (hS.below hw) (hK.below hw) (hE2h.out _ hw) hBL qL (by omega)
        by_cases ht : otg LC = tg key2 nonce2 extra2 (obx LC)
        · have z2 : EF = 0 := by rw [← eEF.out, ope, if_neg (by omega), if_neg hs, if_pos ht]
          rw [decide_eq_true ⟨by omega, ht⟩] at cT
          subst z2
          clear ht
          have ca_ := (box_cell R1 hk hno).1
          have cb_ := (box_cell R1 hk hno).2
          have cc_ := (box_cell R2 hk2 hno2).1
          go_wp2_with (first | (refine wpList_load_part rfl 23 _ rfl (w.heap.size) 0 rfl 28 (boxr key nonce (.slice ue extra.length uec) (.slice ud d.length udc)) (0, 0) (irow .u8 (bl key)) _ R1 (box_key _ _ _ _) Tryd.underlying23 rfl (infok8 _ hkl) ?_) | (refine wpList_load_part rfl 25 _ rfl (w.heap.size) 32 rfl 28 (boxr key nonce (.slice ue extra.length uec) (.slice ud d.length udc)) (0, 0) (irow .u8 (bl nonce)) _ R1 (box_nonce _ _ _ _ hk) Tryd.underlying25 rfl hiN ?_) | (refine wpList_load_part rfl 23 _ rfl (w.heap.size + 1) 0 rfl 28 (boxr key2 nonce2 (.slice ue2 extra2.length ue2c) (.slice ud2 d2.length ud2c)) (0, 0) (irow .u8 (bl key2)) _ R2 (box_key _ _ _ _) Tryd.underlying23 rfl (infok8 _ hkl2) ?_) | (refine wpList_load_part rfl 25 _ rfl (w.heap.size + 1) 32 rfl 28 (boxr key2 nonce2 (.slice ue2 extra2.length ue2c) (.slice ud2 d2.length ud2c)) (0, 0) (irow .u8 (bl nonce2)) _ R2 (box_nonce _ _ _ _ hk2) Tryd.underlying25 rfl hiN2 ?_) | fail)
          clear ca_ cb_ cc_
          refine cT.mono ?_
          rintro e_ w5 ⟨rfl, hb⟩
          replace hw := Below.after hw hb
          clear hb
          go_wp2
          go_ret
          exact ⟨rfl, hw⟩
        · have z2 : EF = 61 := by rw [← eEF.out, ope, if_neg (by omega), if_neg hs, if_neg ht]
          rw [decide_eq_false (fun h => ht h.2)] at cT
          subst z2
          clear ht
          have ca_ := (box_cell R1 hk hno).1
          have cb_ := (box_cell R1 hk hno).2
          have cc_ := (box_cell R2 hk2 hno2).1
          go_wp2_with (first | (refine wpList_load_part rfl 23 _ rfl (w.heap.size) 0 rfl 28 (boxr key nonce (.slice ue extra.length uec) (.slice ud d.length udc)) (0, 0) (irow .u8 (bl key)) _ R1 (box_key _ _ _ _) Tryd.underlying23 rfl (infok8 _ hkl) ?_) | (refine wpList_load_part rfl 25 _ rfl (w.heap.size) 32 rfl 28 (boxr key nonce (.slice ue extra.length uec) (.slice ud d.length udc)) (0, 0) (irow .u8 (bl nonce)) _ R1 (box_nonce _ _ _ _ hk) Tryd.underlying25 rfl hiN ?_) | (refine wpList_load_part rfl 23 _ rfl (w.heap.size + 1) 0 rfl 28 (boxr key2 nonce2 (.slice ue2 extra2.length ue2c) (.slice ud2 d2.length ud2c)) (0, 0) (irow .u8 (bl key2)) _ R2 (box_key _ _ _ _) Tryd.underlying23 rfl (infok8 _ hkl2) ?_) | (refine wpList_load_part rfl 25 _ rfl (w.heap.size + 1) 32 rfl 28 (boxr key2 nonce2 (.slice ue2 extra2.length ue2c) (.slice ud2 d2.length ud2c)) (0, 0) (irow .u8 (bl nonce2)) _ R2 (box_nonce _ _ _ _ hk2) Tryd.underlying25 rfl hiN2 ?_) | fail)
          clear ca_ cb_ cc_
          refine cT.mono ?_
          rintro e_ w5 ⟨rfl, hb⟩
          replace hw := Below.after hw hb
          clear hb
          go_wp2
          go_ret
          exact ⟨rfl, hw⟩
    · have y2 : decide ((c : Int) < (LS.length : Int)) = false := by simp; omega
      have qL := own_capB hOva
      have hBL := hOva.bysB (show LS.length ≤ 140737488351232 by omega)
      clear hOva
      obtain ⟨EF, eEF⟩ : ∃ z, ope key2 nonce2 extra2 LS = z := ⟨_, rfl⟩
      have cX := a_open key2 nonce2 extra2 LS hk2 hno2 (w3.setCell ⟨gA, k, none⟩ (.int .u8 (bv (gb LA k ^^^ mask)))) _ _ (hS.below hw) (hK.below hw) (hE2h.out _ hw) hBL (fun a l c h => by cases h; exact qE2) qL
      rw [eEF] at cX
      have eEF := hide eEF
      have ca_ := (box_cell R1 hk hno).1
      have cb_ := (box_cell R1 hk hno).2
      have cc_ := (box_cell R2 hk2 hno2).1
      have cbp_ := (box_cell P1 hk hno).2
      go_wp2_with (first | (refine wpList_load_part rfl 23 _ rfl (w.heap.size) 0 rfl 28 (boxr key nonce (.slice ue extra.length uec) (.slice ud d.length udc)) (0, 0) (irow .u8 (bl key)) _ R1 (box_key _ _ _ _) Tryd.underlying23 rfl (infok8 _ hkl) ?_) | (refine wpList_load_part rfl 25 _ rfl (w.heap.size) 32 rfl 28 (boxr key nonce (.slice ue extra.length uec) (.slice ud d.length udc)) (0, 0) (irow .u8 (bl nonce)) _ R1 (box_nonce _ _ _ _ hk) Tryd.underlying25 rfl hiN ?_) | (refine wpList_load_part rfl 23 _ rfl (w.heap.size + 1) 0 rfl 28 (boxr key2 nonce2 (.slice ue2 extra2.length ue2c) (.slice ud2 d2.length ud2c)) (0, 0) (irow .u8 (bl key2)) _ R2 (box_key _ _ _ _) Tryd.underlying23 rfl (infok8 _ hkl2) ?_) | (refine wpList_load_part rfl 25 _ rfl (w.heap.size + 1) 32 rfl 28 (boxr key2 nonce2 (.slice ue2 extra2.length ue2c) (.slice ud2 d2.length ud2c)) (0, 0) (irow .u8 (bl nonce2)) _ R2 (box_nonce _ _ _ _ hk2) Tryd.underlying25 rfl hiN2 ?_) | fail)
      clear ca_ cb_ cc_
      clear cbp_ P1 P2 hcel hfro hxr hcA hwr x1 x2 x3
      generalize (w3.setCell ⟨gA, k, none⟩ (.int .u8 (bv (gb LA k ^^^ mask)))) = wS at *
      refine cX.mono ?_
      rintro e_ w4 ⟨_, rfl, ⟨vf, rfl, hOvf⟩, hb⟩
      obtain ⟨aF, cF, rfl⟩ := slen_own hOvf
      clear cX hOvf
      replace hBL := hBL.keep hb
      replace R1 := keep hb R1
      replace R2 := keep hb R2
      replace hw := Below.after hw hb
      clear hb
      by_cases hs : LS.length < 16
      · exfalso
        have h1 := lAh.out
        omega
      · have z1 : decide ((LS.length : Int) < 16) = false := by simp; omega
        have cT := l_tagged key2 nonce2 extra2 LS hk2 hno2 w4 _ _ (hS.below hw) (hK.below hw) (hE2h.out _ hw) hBL qL (by omega)
        by_cases ht : otg LS = tg key2 nonce2 extra2 (obx LS)
        · have z2 : EF = 0 := by rw [← eEF.out, ope, if_neg (by omega), if_neg hs, if_pos ht]
          rw [decide_eq_true ⟨by omega, ht⟩] at cT
          subst z2
          clear ht
          have ca_ := (box_cell R1 hk hno).1
          have cb_ := (box_cell R1 hk hno).2
          have cc_ := (box_cell R2 hk2 hno2).1
          go_wp2_with (first | (refine wpList_load_part rfl 23 _ rfl (w.heap.size) 0 rfl 28 (boxr key nonce (.slice ue extra.length uec) (.slice ud d.length udc)) (0, 0) (irow .u8 (bl key)) _ R1 (box_key _ _ _ _) Tryd.underlying23 rfl (infok8 _ hkl) ?_) | (refine wpList_load_part rfl 25 _ rfl (w.heap.size) 32 rfl 28 (boxr key nonce (.slice ue extra.length uec) (.slice ud d.length udc)) (0, 0) (irow .u8 (bl nonce)) _ R1 (box_nonce _ _ _ _ hk) Tryd.underlying25 rfl hiN ?_) | (refine wpList_load_part rfl 23 _ rfl (w.heap.size + 1) 0 rfl 28 (boxr key2 nonce2 (.slice ue2 extra2.length ue2c) (.slice ud2 d2.length ud2c)) (0, 0) (irow .u8 (bl key2)) _ R2 (box_key _ _ _ _) Tryd.underlying23 rfl (infok8 _ hkl2) ?_) | (refine wpList_load_part rfl 25 _ rfl (w.heap.size + 1) 32 rfl 28 (boxr key2 nonce2 (.slice ue2 extra2.length ue2c) (.slice ud2 d2.length ud2c)) (0, 0) (irow .u8 (bl nonce2)) _ R2 (box_nonce _ _ _ _ hk2) Tryd.underlying25 rfl hiN2 ?_) | fail)
          clear ca_ cb_ cc_
          refine cT.mono ?_
          rintro e_ w5 ⟨rfl, hb⟩
          replace hw := Below.after hw hb
          clear hb
          go_wp2
          go_ret
          exact ⟨rfl, hw⟩
        · have z2 : EF = 61 := by rw [← eEF.out, ope, if_neg (by omega), if_neg hs, if_neg ht]
          rw [decide_eq_false (fun h => ht h.2)] at cT
          subst z2
          clear ht
          have ca_ := (box_cell R1 hk hno).1
          have cb_ := (box_cell R1 hk hno).2
          have cc_ := (box_cell R2 hk2 hno2).1
          go_wp2_with (first | (refine wpList_load_part rfl 23 _ rfl (w.heap.size) 0 rfl 28 (boxr key nonce (.slice ue extra.length uec) (.slice ud d.length udc)) (0, 0) (irow .u8 (bl key)) _ R1 (box_key _ _ _ _) Tryd.underlying23 rfl (infok8 _ hkl) ?_) | (refine wpList_load_part rfl 25 _ rfl (w.heap.size) 32 rfl 28 (boxr key nonce (.slice ue extra.length uec) (.slice ud d.length udc)) (0, 0) (irow .u8 (bl nonce)) _ R1 (box_nonce _ _ _ _ hk) Tryd.underlying25 rfl hiN ?_) | (refine wpList_load_part rfl 23 _ rfl (w.heap.size + 1) 0 rfl 28 (boxr key2 nonce2 (.slice ue2 extra2.length ue2c) (.slice ud2 d2.length ud2c)) (0, 0) (irow .u8 (bl key2)) _ R2 (box_key _ _ _ _) Tryd.underlying23 rfl (infok8 _ hkl2) ?_) | (refine wpList_load_part rfl 25 _ rfl (w.heap.size + 1) 32 rfl 28 (boxr key2 nonce2 (.slice ue2 extra2.length ue2c) (.slice ud2 d2.length ud2c)) (0, 0) (irow .u8 (bl nonce2)) _ R2 (box_nonce _ _ _ _ hk2) Tryd.underlying25 rfl hiN2 ?_) | fail)
          clear ca_ cb_ cc_
          refine cT.mono ?_
          rintro e_ w5 ⟨rfl, hb⟩
          replace hw := Below.after hw hb
          clear hb
          go_wp2
          go_ret
          exact ⟨rfl, hw⟩
  · have y1 : decide ((0 : Int) ≤ cut) = false := decide_eq_false hc0
    have qL := own_capB hOva
    have hBL := hOva.bysB (show LS.length ≤ 140737488351232 by omega)
    clear hOva
    obtain ⟨EF, eEF⟩ : ∃ z, ope key2 nonce2 extra2 LS = z := ⟨_, rfl⟩
    have cX := a_open key2 nonce2 extra2 LS hk2 hno2 (w3.setCell ⟨gA, k, none⟩ (.int .u8 (bv (gb LA k ^^^ mask)))) _ _ (hS.below hw) (hK.below hw) (hE2h.out _ hw) hBL (fun a l c h => by cases h; exact qE2) qL
    rw [eEF] at cX
    have eEF := hide eEF
    have ca_ := (box_cell R1 hk hno).1
    have cb_ := (box_cell R1 hk hno).2
    have cc_ := (box_cell R2 hk2 hno2).1
    have cbp_ := (box_cell P1 hk hno).2
    go_wp2_with (first | (refine wpList_load_part rfl 23 _ rfl (w.heap.size) 0 rfl 28 (boxr key nonce (.slice ue extra.length uec) (.slice ud d.length udc)) (0, 0) (irow .u8 (bl key)) _ R1 (box_key _ _ _ _) Tryd.underlying23 rfl (infok8 _ hkl) ?_) | (refine wpList_load_part rfl 25 _ rfl (w.heap.size) 32 rfl 28 (boxr key nonce (.slice ue extra.length uec) (.slice ud d.length udc)) (0, 0) (irow .u8 (bl nonce)) _ R1 (box_nonce _ _ _ _ hk) Tryd.underlying25 rfl hiN ?_) | (refine wpList_load_part rfl 23 _ rfl (w.heap.size + 1) 0 rfl 28 (boxr key2 nonce2 (.slice ue2 extra2.length ue2c) (.slice ud2 d2.length ud2c)) (0, 0) (irow .u8 (bl key2)) _ R2 (box_key _ _ _ _) Tryd.underlying23 rfl (infok8 _ hkl2) ?_) | (refine wpList_load_part rfl 25 _ rfl (w.heap.size + 1) 32 rfl 28 (boxr key2 nonce2 (.slice ue2 extra2.length ue2c) (.slice ud2 d2.length ud2c)) (0, 0) (irow .u8 (bl nonce2)) _ R2 (box_nonce _ _ _ _ hk2) Tryd.underlying25 rfl hiN2 ?_) | fail)
    clear ca_ cb_ cc_
    clear cbp_ P1 P2 hcel hfro hxr hcA hwr x1 x2 x3
    generalize (w3.setCell ⟨gA, k, none⟩ (.int .u8 (bv (gb LA k ^^^ mask)))) = wS at *
    refine cX.mono ?_
    rintro e_ w4 ⟨_, rfl, ⟨vf, rfl, hOvf⟩, hb⟩
    obtain ⟨aF, cF, rfl⟩ := slen_own hOvf
    clear cX hOvf
    replace hBL := hBL.keep hb
    replace R1 := keep hb R1
    replace R2 := keep hb R2
    replace hw := Below.after hw hb
    clear hb
    by_cases hs : LS.length < 16
    · exfalso
      have h1 := lAh.out
      omega
    · have z1 : decide ((LS.length : Int) < 16) = false := by simp; omega
      have cT := l_tagged key2 nonce2 extra2 LS hk2 hno2 w4 _ _ (hS.below hw) (hK.below hw) (hE2h.out _ hw) hBL qL (by omega)
      by_cases ht : otg LS = tg key2 nonce2 extra2 (obx LS)
      · have z2 : EF = 0 := by rw [← eEF.out, ope, if_neg (by omega), if_neg hs, if_pos ht]
        rw [decide_eq_true ⟨by omega, ht⟩] at cT
        subst z2
        clear ht
        have ca_ := (box_cell R1 hk hno).1
        have cb_ := (box_cell R1 hk hno).2
        have cc_ := (box_cell R2 hk2 hno2).1
        go_wp2_with (first | (refine wpList_load_part rfl 23 _ rfl (w.heap.size) 0 rfl 28 (boxr key nonce (.slice ue extra.length uec) (.slice ud d.length udc)) (0, 0) (irow .u8 (bl key)) _ R1 (box_key _ _ _ _) Tryd.underlying23 rfl (infok8 _ hkl) ?_) | (refine wpList_load_part rfl 25 _ rfl (w.heap.size) 32 rfl 28 (boxr key nonce (.slice ue extra.length uec) (.slice ud d.length udc)) (0, 0) (irow .u8 (bl nonce)) _ R1 (box_nonce _ _ _ _ hk) Tryd.underlying25 rfl hiN ?_) | (refine wpList_load_part rfl 23 _ rfl (w.heap.size + 1) 0 rfl 28 (boxr key2 nonce2 (.slice ue2 extra2.length ue2c) (.slice ud2 d2.length ud2c)) (0, 0) (irow .u8 (bl key2)) _ R2 (box_key _ _ _ _) Tryd.underlying23 rfl (infok8 _ hkl2) ?_) | (refine wpList_load_part rfl 25 _ rfl (w.heap.size + 1) 32 rfl 28 (boxr key2 nonce2 (.slice ue2 extra2.length ue2c) (.slice ud2 d2.length ud2c)) (0, 0) (irow .u8 (bl nonce2)) _ R2 (box_nonce _ _ _ _ hk2) Tryd.underlying25 rfl hiN2 ?_) | fail)
        clear ca_ cb_ cc_
        refine cT.mono ?_
        rintro e_ w5 ⟨rfl, hb⟩
        replace hw := Below.after hw hb
        clear hb
        go_wp2
        go_ret
        exact ⟨rfl, hw⟩
      · have z2 : EF = 61 := by rw [← eEF.out, ope, if_neg (by omega), if_neg hs, if_neg ht]
        rw [decide_eq_false (fun h => ht h.2)] at cT
        subst z2
        clear ht
        have ca_ := (box_cell R1 hk hno).1
        have cb_ := (box_cell R1 hk hno).2
        have cc_ := (box_cell R2 hk2 hno2).1
        go_wp2_with (first | (refine wpList_load_part rfl 23 _ rfl (w.heap.size) 0 rfl 28 (boxr key nonce (.slice ue extra.length uec) (.slice ud d.length udc)) (0, 0) (irow .u8 (bl key)) _ R1 (box_key _ _ _ _) Tryd.underlying23 rfl (infok8 _ hkl) ?_) | (refine wpList_load_part rfl 25 _ rfl (w.heap.size) 32 rfl 28 (boxr key nonce (.slice ue extra.length uec) (.slice ud d.length udc)) (0, 0) (irow .u8 (bl nonce)) _ R1 (box_nonce _ _ _ _ hk) Tryd.underlying25 rfl hiN ?_) | (refine wpList_load_part rfl 23 _ rfl (w.heap.size + 1) 0 rfl 28 (boxr key2 nonce2 (.slice ue2 extra2.length ue2c) (.slice ud2 d2.length ud2c)) (0, 0) (irow .u8 (bl key2)) _ R2 (box_key _ _ _ _) Tryd.underlying23 rfl (infok8 _ hkl2) ?_) | (refine wpList_load_part rfl 25 _ rfl (w.heap.size + 1) 32 rfl 28 (boxr key2 nonce2 (.slice ue2 extra2.length ue2c) (.slice ud2 d2.length ud2c)) (0, 0) (irow .u8 (bl nonce2)) _ R2 (box_nonce _ _ _ _ hk2) Tryd.underlying25 rfl hiN2 ?_) | fail)
        clear ca_ cb_ cc_
        refine cT.mono ?_
        rintro e_ w5 ⟨rfl, hb⟩
        replace hw := Below.after hw hb
        clear hb
        go_wp2
        go_ret
        exact ⟨rfl, hw⟩
set_option maxRecDepth 100000 in
set_option maxHeartbeats 4000000 in
theorem spoilt_zero (key nonce extra d key2 nonce2 extra2 d2 : List B) (hk : key.length = 32) (hno : nonce.length = 16) (hk2 : key2.length = 32) (hno2 : nonce2.length = 16) (w : World) (ve vd ve2 vd2 : Value) (hS : Sta w) (hK : Kon w) (hE : BysC w ve extra) (hD : BysC w vd d) (hE2 : BysC w ve2 extra2) (hD2 : BysC w vd2 d2) (mask : B) (cut : Int) (hlen : extra.length ≤ 2097216 ∧ d.length ≤ 2097216 ∧ extra2.length ≤ 2097216) (k : Nat) (hkd : d.length ≤ k) (hkl_ : k < d.length + 16) (hm : mask = 0#8) : Calls Tryd.prog 3 #[.agg (boxr key nonce ve vd), .agg (boxr key2 nonce2 ve2 vd2), .int .i64 (k : Int), .int .u8 (bv mask), .int .i64 cut] w fun e w' => e = .returned (.bool true) ∧ Below w.heap.size w w' := by
  have hmh := hide hm
  clear hm
  have hkl : (bl key).length = 32 := by rw [bl_len, hk]
  have hkl2 : (bl key2).length = 32 := by rw [bl_len, hk2]
  have hiN := info_bl infoN nonce hno
  have hiN2 := info_bl infoN nonce2 hno2
  obtain ⟨hE, qE⟩ := hE
  obtain ⟨hD, qD⟩ := hD
  obtain ⟨hE2, qE2⟩ := hE2
  obtain ⟨hD2, qD2⟩ := hD2
  obtain ⟨ue, uec, rfl⟩ : ∃ ao cap, ve = .slice ao extra.length cap := by
    obtain ⟨⟨ao, cap, h, _⟩, _⟩ := hE
    rw [bl_len] at h
    exact ⟨ao, cap, h⟩
  obtain ⟨ud, udc, rfl⟩ : ∃ ao cap, vd = .slice ao d.length cap := by
    obtain ⟨⟨ao, cap, h, _⟩, _⟩ := hD
    rw [bl_len] at h
    exact ⟨ao, cap, h⟩
  obtain ⟨ue2, ue2c, rfl⟩ : ∃ ao cap, ve2 = .slice ao extra2.length cap := by
    obtain ⟨⟨ao, cap, h, _⟩, _⟩ := hE2
    rw [bl_len] at h
    exact ⟨ao, cap, h⟩
  obtain ⟨ud2, ud2c, rfl⟩ : ∃ ao cap, vd2 = .slice ao d2.length cap := by
    obtain ⟨⟨ao, cap, h, _⟩, _⟩ := hD2
    rw [bl_len] at h
    exact ⟨ao, cap, h⟩
  replace qE := qE _ _ _ rfl
  replace qE2 := qE2 _ _ _ rfl
  have hdl : d.length ≤ 140737488351232 := hD.2.1
  have R1 := hp2_0 w (.cells (boxr key nonce (.slice ue extra.length uec) (.slice ud d.length udc)) 28) (.cells (boxr key2 nonce2 (.slice ue2 extra2.length ue2c) (.slice ud2 d2.length ud2c)) 28)
  have R2 := hp2_1 w (.cells (boxr key nonce (.slice ue extra.length uec) (.slice ud d.length udc)) 28) (.cells (boxr key2 nonce2 (.slice ue2 extra2.length ue2c) (.slice ud2 d2.length ud2c)) 28)
  have hw : Below w.heap.size w ((w.alloc (.cells (boxr key nonce (.slice ue extra.length uec) (.slice ud d.length udc)) 28)).alloc (.cells (boxr key2 nonce2 (.slice ue2 extra2.length ue2c) (.slice ud2 d2.length ud2c)) 28)) := ((Below.refl _ _).alloc (Nat.le_refl _) _).alloc (by simp) _
  have hEh : Hid (∀ V, Below w.heap.size w V → BysB V (.slice ue extra.length uec) extra) := hide (fun V h => hE.keep h)
  have hDh : Hid (∀ V, Below w.heap.size w V → BysB V (.slice ud d.length udc) d) := hide (fun V h => hD.keep h)
  have hE2h : Hid (∀ V, Below w.heap.size w V → BysB V (.slice ue2 extra2.length ue2c) extra2) := hide (fun V h => hE2.keep h)
  clear hE hD hE2 hD2 qD qD2
  have hb_ : Hid (false = decide (2097216 < extra.length ∨ 2097216 < d.length)) := hide (decide_eq_false (by omega)).symm
  have q9 : decide ((2097216 : Int) < (extra2.length : Int)) = false := by simp; omega
  obtain ⟨LA, eLA⟩ : ∃ L, bx key nonce extra d = L := ⟨_, rfl⟩
  have s1 : slr key nonce extra d = LA := by rw [← eLA]; exact (slr_ok key nonce extra d hlen.1 hlen.2.1).1
  have s2 : sle extra d = 0 := (slr_ok key nonce extra d hlen.1 hlen.2.1).2
  have lA : LA.length = d.length + 16 := by rw [← eLA, bx_len]
  clear eLA
  replace lA := hide lA
  go_enter Tryd.func3, Tryd.ntmps3
  go_wp2_with (first | (refine wpList_box rfl 28 _ rfl _ rfl (bBox _) ?_) | fail)
  try simp only [size_alloc1, Act.put, List.setIfInBounds_toArray, List.set_cons_succ, List.set_cons_zero]
  generalize ((w.alloc (.cells (boxr key nonce (.slice ue extra.length uec) (.slice ud d.length udc)) 28)).alloc (.cells (boxr key2 nonce2 (.slice ue2 extra2.length ue2c) (.slice ud2 d2.length ud2c)) 28)) = w0 at *
  refine (l_lives w0 (hS.below hw) (hK.below hw)).mono ?_
  rintro e_ w1 ⟨rfl, hb⟩
  replace R1 := keep hb R1
  replace R2 := keep hb R2
  replace hw := Below.after hw hb
  clear hb
  go_wp2_with (first | (refine wpList_load_want rfl 28 _ rfl (w.heap.size) rfl 28 (boxr key nonce (.slice ue extra.length uec) (.slice ud d.length udc)) (0, 0) _ R1 Tryd.underlying28 rfl (infoBx () hk hno) ?_) | fail)
  refine (l_long key nonce extra d hk hno w1 ue ud uec udc false hb_.out).mono ?_
  rintro e_ w2 ⟨rfl, hb⟩
  replace R1 := keep hb R1
  replace R2 := keep hb R2
  replace hw := Below.after hw hb
  clear hb
  have ca_ := (box_cell R1 hk hno).1
  have cb_ := (box_cell R1 hk hno).2
  have cc_ := (box_cell R2 hk2 hno2).1
  go_wp2_with (first | (refine wpList_load_part rfl 23 _ rfl (w.heap.size) 0 rfl 28 (boxr key nonce (.slice ue extra.length uec) (.slice ud d.length udc)) (0, 0) (irow .u8 (bl key)) _ R1 (box_key _ _ _ _) Tryd.underlying23 rfl (infok8 _ hkl) ?_) | (refine wpList_load_part rfl 25 _ rfl (w.heap.size) 32 rfl 28 (boxr key nonce (.slice ue extra.length uec) (.slice ud d.length udc)) (0, 0) (irow .u8 (bl nonce)) _ R1 (box_nonce _ _ _ _ hk) Tryd.underlying25 rfl hiN ?_) | (refine wpList_load_part rfl 23 _ rfl (w.heap.size + 1) 0 rfl 28 (boxr key2 nonce2 (.slice ue2 extra2.length ue2c) (.slice ud2 d2.length ud2c)) (0, 0) (irow .u8 (bl key2)) _ R2 (box_key _ _ _ _) Tryd.underlying23 rfl (infok8 _ hkl2) ?_) | (refine wpList_load_part rfl 25 _ rfl (w.heap.size + 1) 32 rfl 28 (boxr key2 nonce2 (.slice ue2 extra2.length ue2c) (.slice ud2 d2.length ud2c)) (0, 0) (irow .u8 (bl nonce2)) _ R2 (box_nonce _ _ _ _ hk2) Tryd.underlying25 rfl hiN2 ?_) | fail)
  clear ca_ cb_ cc_
  have cX := a_seal key nonce extra d hk hno w2 _ _ (hS.below hw) (hK.below hw) (hEh.out _ hw) (hDh.out _ hw) (fun a l c h => by cases h; exact qE)
  rw [s1, s2] at cX
  refine cX.mono ?_
  rintro e_ w3 ⟨_, rfl, ⟨va, rfl, hOva⟩, hb⟩
  obtain ⟨aA, cA, rfl⟩ := slen_own hOva
  have szW : w.heap.size + 1 < w2.heap.size := lt_of_row R2
  clear cX s1 s2
  replace R1 := keep hb R1
  replace R2 := keep hb R2
  replace hw := Below.after hw hb
  clear hb
  have hwr : IntKind.i64.wrap ((d.length : Int) + 16) = (d.length : Int) + 16 := by rw [IntKind.wrap_i64]; omega
  have hcA : ((LA.length : Nat) : Int) = (d.length : Int) + 16 := by rw [lA.out]; omega
  have hlk : k < LA.length := by rw [lA.out]; exact hkl_
  have x1 : decide ((0 : Int) ≤ (k : Int)) = true := by simp
  have x2 : decide ((k : Int) < (d.length : Int) + 16) = true := decide_eq_true (by omega)
  have x3 : decide ((d.length : Int) ≤ (k : Int)) = true := decide_eq_true (by omega)
  have x4 : bv mask = 0 := by rw [hmh.out]; rfl
  have hxz : gb LA k ^^^ mask = gb LA k := by rw [hmh.out, BitVec.xor_zero]
  obtain ⟨xa, exa, hxa⟩ := own_ap hOva
  obtain ⟨_ | gA, mA, cA'⟩ := xa
  · exact absurd exa (by
      intro h
      have h2 : Value.slice aA LA.length cA = .slice none 0 0 := h
      injection h2 with _ h3 _
      omega)
  have h2 : Value.slice aA LA.length cA = .slice (some ⟨gA, 0, none⟩) mA cA' := exa
  injection h2 with e1 e2 e3
  subst e1 e3
  obtain ⟨_, hgA, hgA2, hown⟩ := hxa gA mA cA rfl
  rw [← e2] at hown
  clear exa hxa e2
  have hcel := (or_cell hown hlk).1
  have hfro := (or_cell hown hlk).2
  rw [bl_get] at hcel
  replace hcel : w3.cell? ⟨gA, k, none⟩ = some (.int .u8 (bv (gb LA k))) := hcel
  have hxr : bits .xor .u8 (bv (gb LA k)) (bv mask) = bv (gb LA k ^^^ mask) := xor8 _ _
  have hset := (or_set (t := k) (z := bv (gb LA k ^^^ mask)) hown).resolve_right (by omega)
  rw [bl_set] at hset
  have hOv2 : Own (w3.setCell ⟨gA, k, none⟩ (.int .u8 (bv (gb LA k ^^^ mask)))) w2.heap.size (.slice (some ⟨gA, 0, none⟩) LA.length cA) (LA.set k (gb LA k ^^^ mask)) := by
    unfold Own
    rw [List.length_set]
    exact hset
  have R1s : (w3.setCell ⟨gA, k, none⟩ (.int .u8 (bv (gb LA k ^^^ mask)))).heap[w.heap.size]? = _ := heap_other R1 (by omega)
  have R2s : (w3.setCell ⟨gA, k, none⟩ (.int .u8 (bv (gb LA k ^^^ mask)))).heap[w.heap.size + 1]? = _ := heap_other R2 (by omega)
  have hws := hw.setCell (show w.heap.size ≤ (⟨gA, k, none⟩ : Addr).block from by show w.heap.size ≤ gA; omega) (.int .u8 (bv (gb LA k ^^^ mask)))
  have hlS : (LA.set k (gb LA k ^^^ mask)).length = LA.length := List.length_set
  clear hset hown
  rw [hxz] at hOv2 R1s R2s hws hxr hlS
  rw [x4] at hxr
  clear hxz hmh
  have P1 := R1
  have P2 := R2
  clear R1 R2
  have R1 := R1s
  have R2 := R2s
  clear R1s R2s hOva hw
  have hw := hws
  clear hws
  generalize LA.set k (gb LA k) = LS at *
  rw [← hlS] at hOv2 hcA hlk ⊢
  have hOva := hOv2
  have lAh : Hid (LS.length = d.length + 16) := hide (by rw [hlS]; exact lA.out)
  have hbd9 : LS.length ≤ 2097232 := by have := lAh.out; omega
  clear hOv2 lA hlS
  by_cases hc0 : 0 ≤ cut
  · obtain ⟨c, rfl⟩ := Int.eq_ofNat_of_zero_le hc0
    have y1 : decide ((0 : Int) ≤ (c : Int)) = true := by simp
    by_cases hc1 : c < LS.length
    · have y2 : decide ((c : Int) < (LS.length : Int)) = true := by simp; omega
      have slc := slice_to (some ⟨gA, 0, none⟩) LS.length cA c (by have := own_capB hOva _ _ _ rfl; omega)
      have hLc : (LS.take c).length = c := by rw [List.length_take]; omega
      have hBL := bysB_take (m := c) (hOva.bysB (show LS.length ≤ 140737488351232 by omega)) (by omega)
      have qL : ∀ a l cc, Value.slice (some ⟨gA, 0, none⟩) c cA = .slice a l cc → l ≤ cc := fun a l cc h => by
        have h1 := own_capB hOva _ _ _ rfl
        cases h
        omega
      generalize LS.take c = LC at *
      rw [← hLc] at hBL qL slc
      clear hOva
      obtain rfl := hLc
      obtain ⟨EF, eEF⟩ : ∃ z, ope key2 nonce2 extra2 LC = z := ⟨_, rfl⟩
      have cX := a_open key2 nonce2 extra2 LC hk2 hno2 (w3.setCell ⟨gA, k, none⟩ (.int .u8 (bv (gb LA k)))) _ _ (hS.below hw) (hK.below hw) (hE2h.out _ hw) hBL (fun a l c h => by cases h; exact qE2) qL
      rw [eEF] at cX
      have eEF := hide eEF
      have ca_ := (box_cell R1 hk hno).1
      have cb_ := (box_cell R1 hk hno).2
      have cc_ := (box_cell R2 hk2 hno2).1
      have cbp_ := (box_cell P1 hk hno).2
      go_wp2_with (first | (refine wpList_load_part rfl 23 _ rfl (w.heap.size) 0 rfl 28 (boxr key nonce (.slice ue extra.length uec) (.slice ud d.length udc)) (0, 0) (irow .u8 (bl key)) _ R1 (box_key _ _ _ _) Tryd.underlying23 rfl (infok8 _ hkl) ?_) | (refine wpList_load_part rfl 25 _ rfl (w.heap.size) 32 rfl 28 (boxr key nonce (.slice ue extra.length uec) (.slice ud d.length udc)) (0, 0) (irow .u8 (bl nonce)) _ R1 (box_nonce _ _ _ _ hk) Tryd.underlying25 rfl hiN ?_) | (refine wpList_load_part rfl 23 _ rfl (w.heap.size + 1) 0 rfl 28 (boxr key2 nonce2 (.slice ue2 extra2.length ue2c) (.slice ud2 d2.length ud2c)) (0, 0) (irow .u8 (bl key2)) _ R2 (box_key _ _ _ _) Tryd.underlying23 rfl (infok8 _ hkl2) ?_) | (refine wpList_load_part rfl 25 _ rfl (w.heap.size + 1) 32 rfl 28 (boxr key2 nonce2 (.slice ue2 extra2.length ue2c) (.slice ud2 d2.length ud2c)) (0, 0) (irow .u8 (bl nonce2)) _ R2 (box_nonce _ _ _ _ hk2) Tryd.underlying25 rfl hiN2 ?_) | fail)
      clear ca_ cb_ cc_
      clear cbp_ P1 P2 hcel hfro hxr hcA hwr x1 x2 x3
      generalize (w3.setCell ⟨gA, k, none⟩ (.int .u8 (bv (gb LA k)))) = wS at *
      refine cX.mono ?_
      rintro e_ w4 ⟨_, rfl, ⟨vf, rfl, hOvf⟩, hb⟩
      obtain ⟨aF, cF, rfl⟩ := slen_own hOvf
      clear cX hOvf
      replace hBL := hBL.keep hb
      replace R1 := keep hb R1
      replace R2 := keep hb R2
      replace hw := Below.after hw hb
      clear hb
      by_cases hs : LC.length < 16
      · have z1 : decide ((LC.length : Int) < 16) = true := by simp; omega
        have z2 : EF = 60 := by rw [← eEF.out, ope, if_neg (by omega), if_pos hs]
        subst z2
        have ca_ := (box_cell R1 hk hno).1
        have cb_ := (box_cell R1 hk hno).2
        have cc_ := (box_cell R2 hk2 hno2).1
        go_wp2
        go_ret
        exact ⟨rfl, hw⟩
      · have z1 : decide ((LC.length : Int) < 16) = false := by simp; omega
        have cT := l_tagged key2 nonce2 extra2 LC hk2 hno2 w4 _ _ (hS.below hw) (hK.below hw) (hE2h.out _ hw) hBL qL (by omega)
        by_cases ht : otg LC = tg key2 nonce2 extra2 (obx LC)
        · have z2 : EF = 0 := by rw [← eEF.out, ope, if_neg (by omega), if_neg hs, if_pos ht]
          rw [decide_eq_true ⟨by omega, ht⟩] at cT
          subst z2
          clear ht
          have ca_ := (box_cell R1 hk hno).1
          have cb_ := (box_cell R1 hk hno).2
          have cc_ := (box_cell R2 hk2 hno2).1
          go_wp2_with (first | (refine wpList_load_part rfl 23 _ rfl (w.heap.size) 0 rfl 28 (boxr key nonce (.slice ue extra.length uec) (.slice ud d.length udc)) (0, 0) (irow .u8 (bl key)) _ R1 (box_key _ _ _ _) Tryd.underlying23 rfl (infok8 _ hkl) ?_) | (refine wpList_load_part rfl 25 _ rfl (w.heap.size) 32 rfl 28 (boxr key nonce (.slice ue extra.length uec) (.slice ud d.length udc)) (0, 0) (irow .u8 (bl nonce)) _ R1 (box_nonce _ _ _ _ hk) Tryd.underlying25 rfl hiN ?_) | (refine wpList_load_part rfl 23 _ rfl (w.heap.size + 1) 0 rfl 28 (boxr key2 nonce2 (.slice ue2 extra2.length ue2c) (.slice ud2 d2.length ud2c)) (0, 0) (irow .u8 (bl key2)) _ R2 (box_key _ _ _ _) Tryd.underlying23 rfl (infok8 _ hkl2) ?_) | (refine wpList_load_part rfl 25 _ rfl (w.heap.size + 1) 32 rfl 28 (boxr key2 nonce2 (.slice ue2 extra2.length ue2c) (.slice ud2 d2.length ud2c)) (0, 0) (irow .u8 (bl nonce2)) _ R2 (box_nonce _ _ _ _ hk2) Tryd.underlying25 rfl hiN2 ?_) | fail)
          clear ca_ cb_ cc_
          refine cT.mono ?_
          rintro e_ w5 ⟨rfl, hb⟩
          replace hw := Below.after hw hb
          clear hb
          go_wp2
          go_ret
          exact ⟨rfl, hw⟩
        · have z2 : EF = 61 := by rw [← eEF.out, ope, if_neg (by omega), if_neg hs, if_neg ht]
          rw [decide_eq_false (fun h => ht h.2)] at cT
          subst z2
          clear ht
          have ca_ := (box_cell R1 hk hno).1
          have cb_ := (box_cell R1 hk hno).2
          have cc_ := (box_cell R2 hk2 hno2).1
          go_wp2_with (first | (refine wpList_load_part rfl 23 _ rfl (w.heap.size) 0 rfl 28 (boxr key nonce (.slice ue extra.length uec) (.slice ud d.length udc)) (0, 0) (irow .u8 (bl key)) _ R1 (box_key _ _ _ _) Tryd.underlying23 rfl (infok8 _ hkl) ?_) | (refine wpList_load_part rfl 25 _ rfl (w.heap.size) 32 rfl 28 (boxr key nonce (.slice ue extra.length uec) (.slice ud d.length udc)) (0, 0) (irow .u8 (bl nonce)) _ R1 (box_nonce _ _ _ _ hk) Tryd.underlying25 rfl hiN ?_) | (refine wpList_load_part rfl 23 _ rfl (w.heap.size + 1) 0 rfl 28 (boxr key2 nonce2 (.slice ue2 extra2.length ue2c) (.slice ud2 d2.length ud2c)) (0, 0) (irow .u8 (bl key2)) _ R2 (box_key _ _ _ _) Tryd.underlying23 rfl (infok8 _ hkl2) ?_) | (refine wpList_load_part rfl 25 _ rfl (w.heap.size + 1) 32 rfl 28 (boxr key2 nonce2 (.slice ue2 extra2.length ue2c) (.slice ud2 d2.length ud2c)) (0, 0) (irow .u8 (bl nonce2)) _ R2 (box_nonce _ _ _ _ hk2) Tryd.underlying25 rfl hiN2 ?_) | fail)
          clear ca_ cb_ cc_
          refine cT.mono ?_
          rintro e_ w5 ⟨rfl, hb⟩
          replace hw := Below.after hw hb
          clear hb
          go_wp2
          go_ret
          exact ⟨rfl, hw⟩
    · have y2 : decide ((c : Int) < (LS.length : Int)) = false := by simp; omega
      have qL := own_capB hOva
      have hBL := hOva.bysB (show LS.length ≤ 140737488351232 by omega)
      clear hOva
      obtain ⟨EF, eEF⟩ : ∃ z, ope key2 nonce2 extra2 LS = z := ⟨_, rfl⟩
      have cX := a_open key2 nonce2 extra2 LS hk2 hno2 (w3.setCell ⟨gA, k, none⟩ (.int .u8 (bv (gb LA k)))) _ _ (hS.below hw) (hK.below hw) (hE2h.out _ hw) hBL (fun a l c h => by cases h; exact qE2) qL
      rw [eEF] at cX
      have eEF := hide eEF
      have ca_ := (box_cell R1 hk hno).1
      have cb_ := (box_cell R1 hk hno).2
      have cc_ := (box_cell R2 hk2 hno2).1
      have cbp_ := (box_cell P1 hk hno).2
      go_wp2_with (first | (refine wpList_load_part rfl 23 _ rfl (w.heap.size) 0 rfl 28 (boxr key nonce (.slice ue extra.length uec) (.slice ud d.length udc)) (0, 0) (irow .u8 (bl key)) _ R1 (box_key _ _ _ _) Tryd.underlying23 rfl (infok8 _ hkl) ?_) | (refine wpList_load_part rfl 25 _ rfl (w.heap.size) 32 rfl 28 (boxr key nonce (.slice ue extra.length uec) (.slice ud d.length udc)) (0, 0) (irow .u8 (bl nonce)) _ R1 (box_nonce _ _ _ _ hk) Tryd.underlying25 rfl hiN ?_) | (refine wpList_load_part rfl 23 _ rfl (w.heap.size + 1) 0 rfl 28 (boxr key2 nonce2 (.slice ue2 extra2.length ue2c) (.slice ud2 d2.length ud2c)) (0, 0) (irow .u8 (bl key2)) _ R2 (box_key _ _ _ _) Tryd.underlying23 rfl (infok8 _ hkl2) ?_) | (refine wpList_load_part rfl 25 _ rfl (w.heap.size + 1) 32 rfl 28 (boxr key2 nonce2 (.slice ue2 extra2.length ue2c) (.slice ud2 d2.length ud2c)) (0, 0) (irow .u8 (bl nonce2)) _ R2 (box_nonce _ _ _ _ hk2) Tryd.underlying25 rfl hiN2 ?_) | fail)
      clear ca_ cb_ cc_
      clear cbp_ P1 P2 hcel hfro hxr hcA hwr x1 x2 x3
      generalize (w3.setCell ⟨gA, k, none⟩ (.int .u8 (bv (gb LA k)))) = wS at *
      refine cX.mono ?_
      rintro e_ w4 ⟨_, rfl, ⟨vf, rfl, hOvf⟩, hb⟩
      obtain ⟨aF, cF, rfl⟩ := slen_own hOvf
      clear cX hOvf
      replace hBL := hBL.keep hb
      replace R1 := keep hb R1
      replace R2 := keep hb R2
      replace hw := Below.after hw hb
      clear hb
      by_cases hs : LS.length < 16
      · exfalso
        have h1 := lAh.out
        omega
      · have z1 : decide ((LS.length : Int) < 16) = false := by simp; omega
        have cT := l_tagged key2 nonce2 extra2 LS hk2 hno2 w4 _ _ (hS.below hw) (hK.below hw) (hE2h.out _ hw) hBL qL (by omega)
        by_cases ht : otg LS = tg key2 nonce2 extra2 (obx LS)
        · have z2 : EF = 0 := by rw [← eEF.out, ope, if_neg (by omega), if_neg hs, if_pos ht]
          rw [decide_eq_true ⟨by omega, ht⟩] at cT
          subst z2
          clear ht
          have ca_ := (box_cell R1 hk hno).1
          have cb_ := (box_cell R1 hk hno).2
          have cc_ := (box_cell R2 hk2 hno2).1
          go_wp2_with (first | (refine wpList_load_part rfl 23 _ rfl (w.heap.size) 0 rfl 28 (boxr key nonce (.slice ue extra.length uec) (.slice ud d.length udc)) (0, 0) (irow .u8 (bl key)) _ R1 (box_key _ _ _ _) Tryd.underlying23 rfl (infok8 _ hkl) ?_) | (refine wpList_load_part rfl 25 _ rfl (w.heap.size) 32 rfl 28 (boxr key nonce (.slice ue extra.length uec) (.slice ud d.length udc)) (0, 0) (irow .u8 (bl nonce)) _ R1 (box_nonce _ _ _ _ hk) Tryd.underlying25 rfl hiN ?_) | (refine wpList_load_part rfl 23 _ rfl (w.heap.size + 1) 0 rfl 28 (boxr key2 nonce2 (.slice ue2 extra2.length ue2c) (.slice ud2 d2.length ud2c)) (0, 0) (irow .u8 (bl key2)) _ R2 (box_key _ _ _ _) Tryd.underlying23 rfl (infok8 _ hkl2) ?_) | (refine wpList_load_part rfl 25 _ rfl (w.heap.size + 1) 32 rfl 28 (boxr key2 nonce2 (.slice ue2 extra2.length ue2c) (.slice ud2 d2.length ud2c)) (0, 0) (irow .u8 (bl nonce2)) _ R2 (box_nonce _ _ _ _ hk2) Tryd.underlying25 rfl hiN2 ?_) | fail)
          clear ca_ cb_ cc_
          refine cT.mono ?_
          rintro e_ w5 ⟨rfl, hb⟩
          replace hw := Below.after hw hb
          clear hb
          go_wp2
          go_ret
          exact ⟨rfl, hw⟩
        · have z2 : EF = 61 := by rw [← eEF.out, ope, if_neg (by omega), if_neg hs, if_neg ht]
          rw [decide_eq_false (fun h => ht h.2)] at cT
          subst z2
          clear ht
          have ca_ := (box_cell R1 hk hno).1
          have cb_ := (box_cell R1 hk hno).2
          have cc_ := (box_cell R2 hk2 hno2).1
          go_wp2_with (first | (refine wpList_load_part rfl 23 _ rfl (w.heap.size) 0 rfl 28 (boxr key nonce (.slice ue extra.length uec) (.slice ud d.length udc)) (0, 0) (irow .u8 (bl key)) _ R1 (box_key _ _ _ _) Tryd.underlying23 rfl (infok8 _ hkl) ?_) | (refine wpList_load_part rfl 25 _ rfl (w.heap.size) 32 rfl 28 (boxr key nonce (.slice ue extra.length uec) (.slice ud d.length udc)) (0, 0) (irow .u8 (bl nonce)) _ R1 (box_nonce _ _ _ _ hk) Tryd.underlying25 rfl hiN ?_) | (refine wpList_load_part rfl 23 _ rfl (w.heap.size + 1) 0 rfl 28 (boxr key2 nonce2 (.slice ue2 extra2.length ue2c) (.slice ud2 d2.length ud2c)) (0, 0) (irow .u8 (bl key2)) _ R2 (box_key _ _ _ _) Tryd.underlying23 rfl (infok8 _ hkl2) ?_) | (refine wpList_load_part rfl 25 _ rfl (w.heap.size + 1) 32 rfl 28 (boxr key2 nonce2 (.slice ue2 extra2.length ue2c) (.slice ud2 d2.length ud2c)) (0, 0) (irow .u8 (bl nonce2)) _ R2 (box_nonce _ _ _ _ hk2) Tryd.underlying25 rfl hiN2 ?_) | fail)
          clear ca_ cb_ cc_
          refine cT.mono ?_
          rintro e_ w5 ⟨rfl, hb⟩
          replace hw := Below.after hw hb
          clear hb
          go_wp2
          go_ret
          exact ⟨rfl, hw⟩
  · have y1 : decide ((0 : Int) ≤ cut) = false := decide_eq_false hc0
    have qL := own_capB hOva
    have hBL := hOva.bysB (show LS.length ≤ 140737488351232 by omega)
    clear hOva
    obtain ⟨EF, eEF⟩ : ∃ z, ope key2 nonce2 extra2 LS = z := ⟨_, rfl⟩
    have cX := a_open key2 nonce2 extra2 LS hk2 hno2 (w3.setCell ⟨gA, k, none⟩ (.int .u8 (bv (gb LA k)))) _ _ (hS.below hw) (hK.below hw) (hE2h.out _ hw) hBL (fun a l c h => by cases h; exact qE2) qL
    rw [eEF] at cX
    have eEF := hide eEF
    have ca_ := (box_cell R1 hk hno).1
    have cb_ := (box_cell R1 hk hno).2
    have cc_ := (box_cell R2 hk2 hno2).1
    have cbp_ := (box_cell P1 hk hno).2
    go_wp2_with (first | (refine wpList_load_part rfl 23 _ rfl (w.heap.size) 0 rfl 28 (boxr key nonce (.slice ue extra.length uec) (.slice ud d.length udc)) (0, 0) (irow .u8 (bl key)) _ R1 (box_key _ _ _ _) Tryd.underlying23 rfl (infok8 _ hkl) ?_) | (refine wpList_load_part rfl 25 _ rfl (w.heap.size) 32 rfl 28 (boxr key nonce (.slice ue extra.length uec) (.slice ud d.length udc)) (0, 0) (irow .u8 (bl nonce)) _ R1 (box_nonce _ _ _ _ hk) Tryd.underlying25 rfl hiN ?_) | (refine wpList_load_part rfl 23 _ rfl (w.heap.size + 1) 0 rfl 28 (boxr key2 nonce2 (.slice ue2 extra2.length ue2c) (.slice ud2 d2.length ud2c)) (0, 0) (irow .u8 (bl key2)) _ R2 (box_key _ _ _ _) Tryd.underlying23 rfl (infok8 _ hkl2) ?_) | (refine wpList_load_part rfl 25 _ rfl (w.heap.size + 1) 32 rfl 28 (boxr key2 nonce2 (.slice ue2 extra2.length ue2c) (.slice ud2 d2.length ud2c)) (0, 0) (irow .u8 (bl nonce2)) _ R2 (box_nonce _ _ _ _ hk2) Tryd.underlying25 rfl hiN2 ?_) | fail)
    clear ca_ cb_ cc_
    clear cbp_ P1 P2 hcel hfro hxr hcA hwr x1 x2 x3
    generalize (w3.setCell ⟨gA, k, none⟩ (.int .u8 (bv (gb LA k)))) = wS at *
    refine cX.mono ?_
    rintro e_ w4 ⟨_, rfl, ⟨vf, rfl, hOvf⟩, hb⟩
    obtain ⟨aF, cF, rfl⟩ := slen_own hOvf
    clear cX hOvf
    replace hBL := hBL.keep hb
    replace R1 := keep hb R1
    replace R2 := keep hb R2
    replace hw := Below.after hw hb
    clear hb
    by_cases hs : LS.length < 16
    · exfalso
      have h1 := lAh.out
      omega
    · have z1 : decide ((LS.length : Int) < 16) = false := by simp; omega
      have cT := l_tagged key2 nonce2 extra2 LS hk2 hno2 w4 _ _ (hS.below hw) (hK.below hw) (hE2h.out _ hw) hBL qL (by omega)
      by_cases ht : otg LS = tg key2 nonce2 extra2 (obx LS)
      · have z2 : EF = 0 := by rw [← eEF.out, ope, if_neg (by omega), if_neg hs, if_pos ht]
        rw [decide_eq_true ⟨by omega, ht⟩] at cT
        subst z2
        clear ht
        have ca_ := (box_cell R1 hk hno).1
        have cb_ := (box_cell R1 hk hno).2
        have cc_ := (box_cell R2 hk2 hno2).1
        go_wp2_with (first | (refine wpList_load_part rfl 23 _ rfl (w.heap.size) 0 rfl 28 (boxr key nonce (.slice ue extra.length uec) (.slice ud d.length udc)) (0, 0) (irow .u8 (bl key)) _ R1 (box_key _ _ _ _) Tryd.underlying23 rfl (infok8 _ hkl) ?_) | (refine wpList_load_part rfl 25 _ rfl (w.heap.size) 32 rfl 28 (boxr key nonce (.slice ue extra.length uec) (.slice ud d.length udc)) (0, 0) (irow .u8 (bl nonce)) _ R1 (box_nonce _ _ _ _ hk) Tryd.underlying25 rfl hiN ?_) | (refine wpList_load_part rfl 23 _ rfl (w.heap.size + 1) 0 rfl 28 (boxr key2 nonce2 (.slice ue2 extra2.length ue2c) (.slice ud2 d2.length ud2c)) (0, 0) (irow .u8 (bl key2)) _ R2 (box_key _ _ _ _) Tryd.underlying23 rfl (infok8 _ hkl2) ?_) | (refine wpList_load_part rfl 25 _ rfl (w.heap.size + 1) 32 rfl 28 (boxr key2 nonce2 (.slice ue2 extra2.length ue2c) (.slice ud2 d2.length ud2c)) (0, 0) (irow .u8 (bl nonce2)) _ R2 (box_nonce _ _ _ _ hk2) Tryd.underlying25 rfl hiN2 ?_) | fail)
        clear ca_ cb_ cc_
        refine cT.mono ?_
        rintro e_ w5 ⟨rfl, hb⟩
        replace hw := Below.after hw hb
        clear hb
        go_wp2
        go_ret
        exact ⟨rfl, hw⟩
      · have z2 : EF = 61 := by rw [← eEF.out, ope, if_neg (by omega), if_neg hs, if_neg ht]
        rw [decide_eq_false (fun h => ht h.2)] at cT
        subst z2
        clear ht
        have ca_ := (box_cell R1 hk hno).1
        have cb_ := (box_cell R1 hk hno).2
        have cc_ := (box_cell R2 hk2 hno2).1
        go_wp2_with (first | (refine wpList_load_part rfl 23 _ rfl (w.heap.size) 0 rfl 28 (boxr key nonce (.slice ue extra.length uec) (.slice ud d.length udc)) (0, 0) (irow .u8 (bl key)) _ R1 (box_key _ _ _ _) Tryd.underlying23 rfl (infok8 _ hkl) ?_) | (refine wpList_load_part rfl 25 _ rfl (w.heap.size) 32 rfl 28 (boxr key nonce (.slice ue extra.length uec) (.slice ud d.length udc)) (0, 0) (irow .u8 (bl nonce)) _ R1 (box_nonce _ _ _ _ hk) Tryd.underlying25 rfl hiN ?_) | (refine wpList_load_part rfl 23 _ rfl (w.heap.size + 1) 0 rfl 28 (boxr key2 nonce2 (.slice ue2 extra2.length ue2c) (.slice ud2 d2.length ud2c)) (0, 0) (irow .u8 (bl key2)) _ R2 (box_key _ _ _ _) Tryd.underlying23 rfl (infok8 _ hkl2) ?_) | (refine wpList_load_part rfl 25 _ rfl (w.heap.size + 1) 32 rfl 28 (boxr key2 nonce2 (.slice ue2 extra2.length ue2c) (.slice ud2 d2.length ud2c)) (0, 0) (irow .u8 (bl nonce2)) _ R2 (box_nonce _ _ _ _ hk2) Tryd.underlying25 rfl hiN2 ?_) | fail)
        clear ca_ cb_ cc_
        refine cT.mono ?_
        rintro e_ w5 ⟨rfl, hb⟩
        replace hw := Below.after hw hb
        clear hb
        go_wp2
        go_ret
        exact ⟨rfl, hw⟩
set_option maxRecDepth 100000 in
set_option maxHeartbeats 4000000 in
theorem spoilt_check (key nonce extra d key2 nonce2 extra2 d2 : List B) (hk : key.length = 32) (hno : nonce.length = 16) (hk2 : key2.length = 32) (hno2 : nonce2.length = 16) (w : World) (ve vd ve2 vd2 : Value) (hS : Sta w) (hK : Kon w) (hE : BysC w ve extra) (hD : BysC w vd d) (hE2 : BysC w ve2 extra2) (hD2 : BysC w vd2 d2) (mask : B) (cut : Int) (hlen : extra.length ≤ 2097216 ∧ d.length ≤ 2097216 ∧ extra2.length ≤ 2097216) (k : Nat) (hkd : d.length ≤ k) (hkl_ : k < d.length + 16) (hm : mask ≠ 0#8) : Calls Tryd.prog 3 #[.agg (boxr key nonce ve vd), .agg (boxr key2 nonce2 ve2 vd2), .int .i64 (k : Int), .int .u8 (bv mask), .int .i64 cut] w fun e w' => e = .returned (.bool true) ∧ Below w.heap.size w w' := by
  have hkl : (bl key).length = 32 := by rw [bl_len, hk]
  have hkl2 : (bl key2).length = 32 := by rw [bl_len, hk2]
  have hiN := info_bl infoN nonce hno
  have hiN2 := info_bl infoN nonce2 hno2
  obtain ⟨hE, qE⟩ := hE
  obtain ⟨hD, qD⟩ := hD
  obtain ⟨hE2, qE2⟩ := hE2
  obtain ⟨hD2, qD2⟩ := hD2
  obtain ⟨ue, uec, rfl⟩ : ∃ ao cap, ve = .slice ao extra.length cap := by
    obtain ⟨⟨ao, cap, h, _⟩, _⟩ := hE
    rw [bl_len] at h
    exact ⟨ao, cap, h⟩
  obtain ⟨ud, udc, rfl⟩ : ∃ ao cap, vd = .slice ao d.length cap := by
    obtain ⟨⟨ao, cap, h, _⟩, _⟩ := hD
    rw [bl_len] at h
    exact ⟨ao, cap, h⟩
  obtain ⟨ue2, ue2c, rfl⟩ : ∃ ao cap, ve2 = .slice ao extra2.length cap := by
    obtain ⟨⟨ao, cap, h, _⟩, _⟩ := hE2
    rw [bl_len] at h
    exact ⟨ao, cap, h⟩
  obtain ⟨ud2, ud2c, rfl⟩ : ∃ ao cap, vd2 = .slice ao d2.length cap := by
    obtain ⟨⟨ao, cap, h, _⟩, _⟩ := hD2
    rw [bl_len] at h
    exact ⟨ao, cap, h⟩
  replace qE := qE _ _ _ rfl
  replace qE2 := qE2 _ _ _ rfl
  have hdl : d.length ≤ 140737488351232 := hD.2.1
  have R1 := hp2_0 w (.cells (boxr key nonce (.slice ue extra.length uec) (.slice ud d.length udc)) 28) (.cells (boxr key2 nonce2 (.slice ue2 extra2.length ue2c) (.slice ud2 d2.length ud2c)) 28)
  have R2 := hp2_1 w (.cells (boxr key nonce (.slice ue extra.length uec) (.slice ud d.length udc)) 28) (.cells (boxr key2 nonce2 (.slice ue2 extra2.length ue2c) (.slice ud2 d2.length ud2c)) 28)
  have hw : Below w.heap.size w ((w.alloc (.cells (boxr key nonce (.slice ue extra.length uec) (.slice ud d.length udc)) 28)).alloc (.cells (boxr key2 nonce2 (.slice ue2 extra2.length ue2c) (.slice ud2 d2.length ud2c)) 28)) := ((Below.refl _ _).alloc (Nat.le_refl _) _).alloc (by simp) _
  have hEh : Hid (∀ V, Below w.heap.size w V → BysB V (.slice ue extra.length uec) extra) := hide (fun V h => hE.keep h)
  have hDh : Hid (∀ V, Below w.heap.size w V → BysB V (.slice ud d.length udc) d) := hide (fun V h => hD.keep h)
  have hE2h : Hid (∀ V, Below w.heap.size w V → BysB V (.slice ue2 extra2.length ue2c) extra2) := hide (fun V h => hE2.keep h)
  clear hE hD hE2 hD2 qD qD2
  have hb_ : Hid (false = decide (2097216 < extra.length ∨ 2097216 < d.length)) := hide (decide_eq_false (by omega)).symm
  have q9 : decide ((2097216 : Int) < (extra2.length : Int)) = false := by simp; omega
  obtain ⟨LA, eLA⟩ : ∃ L, bx key nonce extra d = L := ⟨_, rfl⟩
  have s1 : slr key nonce extra d = LA := by rw [← eLA]; exact (slr_ok key nonce extra d hlen.1 hlen.2.1).1
  have s2 : sle extra d = 0 := (slr_ok key nonce extra d hlen.1 hlen.2.1).2
  have lA : LA.length = d.length + 16 := by rw [← eLA, bx_len]
  have hsp : ope key nonce extra (LA.set k (gb LA k ^^^ mask)) = 61 := by rw [← eLA]; exact ope_spoilt key nonce extra d k mask hlen.1 hlen.2.1 hkd hkl_ hm
  clear eLA
  replace lA := hide lA
  go_enter Tryd.func3, Tryd.ntmps3
  go_wp2_with (first | (refine wpList_box rfl 28 _ rfl _ rfl (bBox _) ?_) | fail)
  try simp only [size_alloc1, Act.put, List.setIfInBounds_toArray, List.set_cons_succ, List.set_cons_zero]
  generalize ((w.alloc (.cells (boxr key nonce (.slice ue extra.length uec) (.slice ud d.length udc)) 28)).alloc (.cells (boxr key2 nonce2 (.slice ue2 extra2.length ue2c) (.slice ud2 d2.length ud2c)) 28)) = w0 at *
  refine (l_lives w0 (hS.below hw) (hK.below hw)).mono ?_
  rintro e_ w1 ⟨rfl, hb⟩
  replace R1 := keep hb R1
  replace R2 := keep hb R2
  replace hw := Below.after hw hb
  clear hb
  go_wp2_with (first | (refine wpList_load_want rfl 28 _ rfl (w.heap.size) rfl 28 (boxr key nonce (.slice ue extra.length uec) (.slice ud d.length udc)) (0, 0) _ R1 Tryd.underlying28 rfl (infoBx () hk hno) ?_) | fail)
  refine (l_long key nonce extra d hk hno w1 ue ud uec udc false hb_.out).mono ?_
  rintro e_ w2 ⟨rfl, hb⟩
  replace R1 := keep hb R1
  replace R2 := keep hb R2
  replace hw := Below.after hw hb
  clear hb
  have ca_ := (box_cell R1 hk hno).1
  have cb_ := (box_cell R1 hk hno).2
  have cc_ := (box_cell R2 hk2 hno2).1
  go_wp2_with (first | (refine wpList_load_part rfl 23 _ rfl (w.heap.size) 0 rfl 28 (boxr key nonce (.slice ue extra.length uec) (.slice ud d.length udc)) (0, 0) (irow .u8 (bl key)) _ R1 (box_key _ _ _ _) Tryd.underlying23 rfl (infok8 _ hkl) ?_) | (refine wpList_load_part rfl 25 _ rfl (w.heap.size) 32 rfl 28 (boxr key nonce (.slice ue extra.length uec) (.slice ud d.length udc)) (0, 0) (irow .u8 (bl nonce)) _ R1 (box_nonce _ _ _ _ hk) Tryd.underlying25 rfl hiN ?_) | (refine wpList_load_part rfl 23 _ rfl (w.heap.size + 1) 0 rfl 28 (boxr key2 nonce2 (.slice ue2 extra2.length ue2c) (.slice ud2 d2.length ud2c)) (0, 0) (irow .u8 (bl key2)) _ R2 (box_key _ _ _ _) Tryd.underlying23 rfl (infok8 _ hkl2) ?_) | (refine wpList_load_part rfl 25 _ rfl (w.heap.size + 1) 32 rfl 28 (boxr key2 nonce2 (.slice ue2 extra2.length ue2c) (.slice ud2 d2.length ud2c)) (0, 0) (irow .u8 (bl nonce2)) _ R2 (box_nonce _ _ _ _ hk2) Tryd.underlying25 rfl hiN2 ?_) | fail)
  clear ca_ cb_ cc_
  have cX := a_seal key nonce extra d hk hno w2 _ _ (hS.below hw) (hK.below hw) (hEh.out _ hw) (hDh.out _ hw) (fun a l c h => by cases h; exact qE)
  rw [s1, s2] at cX
  refine cX.mono ?_
  rintro e_ w3 ⟨_, rfl, ⟨va, rfl, hOva⟩, hb⟩
  obtain ⟨aA, cA, rfl⟩ := slen_own hOva
  have szW : w.heap.size + 1 < w2.heap.size := lt_of_row R2
  clear cX s1 s2
  replace R1 := keep hb R1
  replace R2 := keep hb R2
  replace hw := Below.after hw hb
  clear hb
  have hwr : IntKind.i64.wrap ((d.length : Int) + 16) = (d.length : Int) + 16 := by rw [IntKind.wrap_i64]; omega
  have hcA : ((LA.length : Nat) : Int) = (d.length : Int) + 16 := by rw [lA.out]; omega
  have hlk : k < LA.length := by rw [lA.out]; exact hkl_
  have x1 : decide ((0 : Int) ≤ (k : Int)) = true := by simp
  have x2 : decide ((k : Int) < (d.length : Int) + 16) = true := decide_eq_true (by omega)
  have x3 : decide ((d.length : Int) ≤ (k : Int)) = true := decide_eq_true (by omega)
  have x4 : ¬ bv mask = 0 := fun h => hm (bv_inj.1 h)
  have x5 : decide (bv mask = 0) = false := decide_eq_false x4
  obtain ⟨xa, exa, hxa⟩ := own_ap hOva
  obtain ⟨_ | gA, mA, cA'⟩ := xa
  · exact absurd exa (by
      intro h
      have h2 : Value.slice aA LA.length cA = .slice none 0 0 := h
      injection h2 with _ h3 _
      omega)
  have h2 : Value.slice aA LA.length cA = .slice (some ⟨gA, 0, none⟩) mA cA' := exa
  injection h2 with e1 e2 e3
  subst e1 e3
  obtain ⟨_, hgA, hgA2, hown⟩ := hxa gA mA cA rfl
  rw [← e2] at hown
  clear exa hxa e2
  have hcel := (or_cell hown hlk).1
  have hfro := (or_cell hown hlk).2
  rw [bl_get] at hcel
  replace hcel : w3.cell? ⟨gA, k, none⟩ = some (.int .u8 (bv (gb LA k))) := hcel
  have hxr : bits .xor .u8 (bv (gb LA k)) (bv mask) = bv (gb LA k ^^^ mask) := xor8 _ _
  have hset := (or_set (t := k) (z := bv (gb LA k ^^^ mask)) hown).resolve_right (by omega)
  rw [bl_set] at hset
  have hOv2 : Own (w3.setCell ⟨gA, k, none⟩ (.int .u8 (bv (gb LA k ^^^ mask)))) w2.heap.size (.slice (some ⟨gA, 0, none⟩) LA.length cA) (LA.set k (gb LA k ^^^ mask)) := by
    unfold Own
    rw [List.length_set]
    exact hset
  have R1s : (w3.setCell ⟨gA, k, none⟩ (.int .u8 (bv (gb LA k ^^^ mask)))).heap[w.heap.size]? = _ := heap_other R1 (by omega)
  have R2s : (w3.setCell ⟨gA, k, none⟩ (.int .u8 (bv (gb LA k ^^^ mask)))).heap[w.heap.size + 1]? = _ := heap_other R2 (by omega)
  have hws := hw.setCell (show w.heap.size ≤ (⟨gA, k, none⟩ : Addr).block from by show w.heap.size ≤ gA; omega) (.int .u8 (bv (gb LA k ^^^ mask)))
  have hlS : (LA.set k (gb LA k ^^^ mask)).length = LA.length := List.length_set
  clear hset hown
  have P1 := R1
  have P2 := R2
  clear R1 R2
  have R1 := R1s
  have R2 := R2s
  clear R1s R2s hOva hw
  have hw := hws
  clear hws
  generalize LA.set k (gb LA k ^^^ mask) = LS at *
  rw [← hlS] at hOv2 hcA hlk ⊢
  have hOva := hOv2
  have lAh : Hid (LS.length = d.length + 16) := hide (by rw [hlS]; exact lA.out)
  have hbd9 : LS.length ≤ 2097232 := by have := lAh.out; omega
  clear hOv2 lA hlS
  have cX := a_open key nonce extra LS hk hno (w3.setCell ⟨gA, k, none⟩ (.int .u8 (bv (gb LA k ^^^ mask)))) _ _ (hS.below hw) (hK.below hw) (hEh.out _ hw) (hOva.bysB (show LS.length ≤ 140737488351232 by omega)) (fun a l c h => by cases h; exact qE) (own_capB hOva)
  rw [hsp] at cX
  clear hsp
  have ca_ := (box_cell R1 hk hno).1
  have cb_ := (box_cell R1 hk hno).2
  have cc_ := (box_cell R2 hk2 hno2).1
  have cbp_ := (box_cell P1 hk hno).2
  go_wp2_with (first | (refine wpList_load_part rfl 23 _ rfl (w.heap.size) 0 rfl 28 (boxr key nonce (.slice ue extra.length uec) (.slice ud d.length udc)) (0, 0) (irow .u8 (bl key)) _ R1 (box_key _ _ _ _) Tryd.underlying23 rfl (infok8 _ hkl) ?_) | (refine wpList_load_part rfl 25 _ rfl (w.heap.size) 32 rfl 28 (boxr key nonce (.slice ue extra.length uec) (.slice ud d.length udc)) (0, 0) (irow .u8 (bl nonce)) _ R1 (box_nonce _ _ _ _ hk) Tryd.underlying25 rfl hiN ?_) | (refine wpList_load_part rfl 23 _ rfl (w.heap.size + 1) 0 rfl 28 (boxr key2 nonce2 (.slice ue2 extra2.length ue2c) (.slice ud2 d2.length ud2c)) (0, 0) (irow .u8 (bl key2)) _ R2 (box_key _ _ _ _) Tryd.underlying23 rfl (infok8 _ hkl2) ?_) | (refine wpList_load_part rfl 25 _ rfl (w.heap.size + 1) 32 rfl 28 (boxr key2 nonce2 (.slice ue2 extra2.length ue2c) (.slice ud2 d2.length ud2c)) (0, 0) (irow .u8 (bl nonce2)) _ R2 (box_nonce _ _ _ _ hk2) Tryd.underlying25 rfl hiN2 ?_) | fail)
  clear ca_ cb_ cc_
  clear cbp_ P1 P2 hcel hfro hxr hcA hwr x1 x2 x3
  refine cX.mono ?_
  rintro e_ w4 ⟨_, rfl, ⟨vf0, rfl, hOv0⟩, hb⟩
  obtain ⟨aF0, cF0, rfl⟩ := slen_own hOv0
  clear cX hOv0 x4 x5
  replace R1 := keep hb R1
  replace R2 := keep hb R2
  replace hOva := hOva.keep hb
  replace hw := Below.after hw hb
  clear hb
  by_cases hc0 : 0 ≤ cut
  · obtain ⟨c, rfl⟩ := Int.eq_ofNat_of_zero_le hc0
    have y1 : decide ((0 : Int) ≤ (c : Int)) = true := by simp
    by_cases hc1 : c < LS.length
    · have y2 : decide ((c : Int) < (LS.length : Int)) = true := by simp; omega
      have slc := slice_to (some ⟨gA, 0, none⟩) LS.length cA c (by have := own_capB hOva _ _ _ rfl; omega)
      have hLc : (LS.take c).length = c := by rw [List.length_take]; omega
      have hBL := bysB_take (m := c) (hOva.bysB (show LS.length ≤ 140737488351232 by omega)) (by omega)
      have qL : ∀ a l cc, Value.slice (some ⟨gA, 0, none⟩) c cA = .slice a l cc → l ≤ cc := fun a l cc h => by
        have h1 := own_capB hOva _ _ _ rfl
        cases h
        omega
      generalize LS.take c = LC at *
      rw [← hLc] at hBL qL slc
      clear hOva
      obtain rfl := hLc
      obtain ⟨EF, eEF⟩ : ∃ z, ope key2 nonce2 extra2 LC = z := ⟨_, rfl⟩
      have cX := a_open key2 nonce2 extra2 LC hk2 hno2 w4 _ _ (hS.below hw) (hK.below hw) (hE2h.out _ hw) hBL (fun a l c h => by cases h; exact qE2) qL
      rw [eEF] at cX
      have eEF := hide eEF
      have ca_ := (box_cell R1 hk hno).1
      have cb_ := (box_cell R1 hk hno).2
      have cc_ := (box_cell R2 hk2 hno2).1
      go_wp2_with (first | (refine wpList_load_part rfl 23 _ rfl (w.heap.size) 0 rfl 28 (boxr key nonce (.slice ue extra.length uec) (.slice ud d.length udc)) (0, 0) (irow .u8 (bl key)) _ R1 (box_key _ _ _ _) Tryd.underlying23 rfl (infok8 _ hkl) ?_) | (refine wpList_load_part rfl 25 _ rfl (w.heap.size) 32 rfl 28 (boxr key nonce (.slice ue extra.length uec) (.slice ud d.length udc)) (0, 0) (irow .u8 (bl nonce)) _ R1 (box_nonce _ _ _ _ hk) Tryd.underlying25 rfl hiN ?_) | (refine wpList_load_part rfl 23 _ rfl (w.heap.size + 1) 0 rfl 28 (boxr key2 nonce2 (.slice ue2 extra2.length ue2c) (.slice ud2 d2.length ud2c)) (0, 0) (irow .u8 (bl key2)) _ R2 (box_key _ _ _ _) Tryd.underlying23 rfl (infok8 _ hkl2) ?_) | (refine wpList_load_part rfl 25 _ rfl (w.heap.size + 1) 32 rfl 28 (boxr key2 nonce2 (.slice ue2 extra2.length ue2c) (.slice ud2 d2.length ud2c)) (0, 0) (irow .u8 (bl nonce2)) _ R2 (box_nonce _ _ _ _ hk2) Tryd.underlying25 rfl hiN2 ?_) | fail)
      clear ca_ cb_ cc_
      refine cX.mono ?_
      rintro e_ w5 ⟨_, rfl, ⟨vf, rfl, hOvf⟩, hb⟩
      obtain ⟨aF, cF, rfl⟩ := slen_own hOvf
      clear cX hOvf
      replace hBL := hBL.keep hb
      replace R1 := keep hb R1
      replace R2 := keep hb R2
      replace hw := Below.after hw hb
      clear hb
      by_cases hs : LC.length < 16
      · have z1 : decide ((LC.length : Int) < 16) = true := by simp; omega
        have z2 : EF = 60 := by rw [← eEF.out, ope, if_neg (by omega), if_pos hs]
        subst z2
        have ca_ := (box_cell R1 hk hno).1
        have cb_ := (box_cell R1 hk hno).2
        have cc_ := (box_cell R2 hk2 hno2).1
        go_wp2
        go_ret
        exact ⟨rfl, hw⟩
      · have z1 : decide ((LC.length : Int) < 16) = false := by simp; omega
        have cT := l_tagged key2 nonce2 extra2 LC hk2 hno2 w5 _ _ (hS.below hw) (hK.below hw) (hE2h.out _ hw) hBL qL (by omega)
        by_cases ht : otg LC = tg key2 nonce2 extra2 (obx LC)
        · have z2 : EF = 0 := by rw [← eEF.out, ope, if_neg (by omega), if_neg hs, if_pos ht]
          rw [decide_eq_true ⟨by omega, ht⟩] at cT
          subst z2
          clear ht
          have ca_ := (box_cell R1 hk hno).1
          have cb_ := (box_cell R1 hk hno).2
          have cc_ := (box_cell R2 hk2 hno2).1
          go_wp2_with (first | (refine wpList_load_part rfl 23 _ rfl (w.heap.size) 0 rfl 28 (boxr key nonce (.slice ue extra.length uec) (.slice ud d.length udc)) (0, 0) (irow .u8 (bl key)) _ R1 (box_key _ _ _ _) Tryd.underlying23 rfl (infok8 _ hkl) ?_) | (refine wpList_load_part rfl 25 _ rfl (w.heap.size) 32 rfl 28 (boxr key nonce (.slice ue extra.length uec) (.slice ud d.length udc)) (0, 0) (irow .u8 (bl nonce)) _ R1 (box_nonce _ _ _ _ hk) Tryd.underlying25 rfl hiN ?_) | (refine wpList_load_part rfl 23 _ rfl (w.heap.size + 1) 0 rfl 28 (boxr key2 nonce2 (.slice ue2 extra2.length ue2c) (.slice ud2 d2.length ud2c)) (0, 0) (irow .u8 (bl key2)) _ R2 (box_key _ _ _ _) Tryd.underlying23 rfl (infok8 _ hkl2) ?_) | (refine wpList_load_part rfl 25 _ rfl (w.heap.size + 1) 32 rfl 28 (boxr key2 nonce2 (.slice ue2 extra2.length ue2c) (.slice ud2 d2.length ud2c)) (0, 0) (irow .u8 (bl nonce2)) _ R2 (box_nonce _ _ _ _ hk2) Tryd.underlying25 rfl hiN2 ?_) | fail)
          clear ca_ cb_ cc_
          refine cT.mono ?_
          rintro e_ w6 ⟨rfl, hb⟩
          replace hw := Below.after hw hb
          clear hb
          go_wp2
          go_ret
          exact ⟨rfl, hw⟩
        · have z2 : EF = 61 := by rw [← eEF.out, ope, if_neg (by omega), if_neg hs, if_neg ht]
          rw [decide_eq_false (fun h => ht h.2)] at cT
          subst z2
          clear ht
          have ca_ := (box_cell R1 hk hno).1
          have cb_ := (box_cell R1 hk hno).2
          have cc_ := (box_cell R2 hk2 hno2).1
          go_wp2_with (first | (refine wpList_load_part rfl 23 _ rfl (w.heap.size) 0 rfl 28 (boxr key nonce (.slice ue extra.length uec) (.slice ud d.length udc)) (0, 0) (irow .u8 (bl key)) _ R1 (box_key _ _ _ _) Tryd.underlying23 rfl (infok8 _ hkl) ?_) | (refine wpList_load_part rfl 25 _ rfl (w.heap.size) 32 rfl 28 (boxr key nonce (.slice ue extra.length uec) (.slice ud d.length udc)) (0, 0) (irow .u8 (bl nonce)) _ R1 (box_nonce _ _ _ _ hk) Tryd.underlying25 rfl hiN ?_) | (refine wpList_load_part rfl 23 _ rfl (w.heap.size + 1) 0 rfl 28 (boxr key2 nonce2 (.slice ue2 extra2.length ue2c) (.slice ud2 d2.length ud2c)) (0, 0) (irow .u8 (bl key2)) _ R2 (box_key _ _ _ _) Tryd.underlying23 rfl (infok8 _ hkl2) ?_) | (refine wpList_load_part rfl 25 _ rfl (w.heap.size + 1) 32 rfl 28 (boxr key2 nonce2 (.slice ue2 extra2.length ue2c) (.slice ud2 d2.length ud2c)) (0, 0) (irow .u8 (bl nonce2)) _ R2 (box_nonce _ _ _ _ hk2) Tryd.underlying25 rfl hiN2 ?_) | fail)
          clear ca_ cb_ cc_
          refine cT.mono ?_
          rintro e_ w6 ⟨rfl, hb⟩
          replace hw := Below.after hw hb
          clear hb
          go_wp2
          go_ret
          exact ⟨rfl, hw⟩
    · have y2 : decide ((c : Int) < (LS.length : Int)) = false := by simp; omega
      have qL := own_capB hOva
      have hBL := hOva.bysB (show LS.length ≤ 140737488351232 by omega)
      clear hOva
      obtain ⟨EF, eEF⟩ : ∃ z, ope key2 nonce2 extra2 LS = z := ⟨_, rfl⟩
      have cX := a_open key2 nonce2 extra2 LS hk2 hno2 w4 _ _ (hS.below hw) (hK.below hw) (hE2h.out _ hw) hBL (fun a l c h => by cases h; exact qE2) qL
      rw [eEF] at cX
      have eEF := hide eEF
      have ca_ := (box_cell R1 hk hno).1
      have cb_ := (box_cell R1 hk hno).2
      have cc_ := (box_cell R2 hk2 hno2).1
      go_wp2_with (first | (refine wpList_load_part rfl 23 _ rfl (w.heap.size) 0 rfl 28 (boxr key nonce (.slice ue extra.length uec) (.slice ud d.length udc)) (0, 0) (irow .u8 (bl key)) _ R1 (box_key _ _ _ _) Tryd.underlying23 rfl (infok8 _ hkl) ?_) | (refine wpList_load_part rfl 25 _ rfl (w.heap.size) 32 rfl 28 (boxr key nonce (.slice ue extra.length uec) (.slice ud d.length udc)) (0, 0) (irow .u8 (bl nonce)) _ R1 (box_nonce _ _ _ _ hk) Tryd.underlying25 rfl hiN ?_) | (refine wpList_load_part rfl 23 _ rfl (w.heap.size + 1) 0 rfl 28 (boxr key2 nonce2 (.slice ue2 extra2.length ue2c) (.slice ud2 d2.length ud2c)) (0, 0) (irow .u8 (bl key2)) _ R2 (box_key _ _ _ _) Tryd.underlying23 rfl (infok8 _ hkl2) ?_) | (refine wpList_load_part rfl 25 _ rfl (w.heap.size + 1) 32 rfl 28 (boxr key2 nonce2 (.slice ue2 extra2.length ue2c) (.slice ud2 d2.length ud2c)) (0, 0) (irow .u8 (bl nonce2)) _ R2 (box_nonce _ _ _ _ hk2) Tryd.underlying25 rfl hiN2 ?_) | fail)
      clear ca_ cb_ cc_
      refine cX.mono ?_
      rintro e_ w5 ⟨_, rfl, ⟨vf, rfl, hOvf⟩, hb⟩
      obtain ⟨aF, cF, rfl⟩ := slen_own hOvf
      clear cX hOvf
      replace hBL := hBL.keep hb
      replace R1 := keep hb R1
      replace R2 := keep hb R2
      replace hw := Below.after hw hb
      clear hb
      by_cases hs : LS.length < 16
      · exfalso
        have h1 := lAh.out
        omega
      · have z1 : decide ((LS.length : Int) < 16) = false := by simp; omega
        have cT := l_tagged key2 nonce2 extra2 LS hk2 hno2 w5 _ _ (hS.below hw) (hK.below hw) (hE2h.out _ hw) hBL qL (by omega)
        by_cases ht : otg LS = tg key2 nonce2 extra2 (obx LS)
        · have z2 : EF = 0 := by rw [← eEF.out, ope, if_neg (by omega), if_neg hs, if_pos ht]
          rw [decide_eq_true ⟨by omega, ht⟩] at cT
          subst z2
          clear ht
          have ca_ := (box_cell R1 hk hno).1
          have cb_ := (box_cell R1 hk hno).2
          have cc_ := (box_cell R2 hk2 hno2).1
          go_wp2_with (first | (refine wpList_load_part rfl 23 _ rfl (w.heap.size) 0 rfl 28 (boxr key nonce (.slice ue extra.length uec) (.slice ud d.length udc)) (0, 0) (irow .u8 (bl key)) _ R1 (box_key _ _ _ _) Tryd.underlying23 rfl (infok8 _ hkl) ?_) | (refine wpList_load_part rfl 25 _ rfl (w.heap.size) 32 rfl 28 (boxr key nonce (.slice ue extra.length uec) (.slice ud d.length udc)) (0, 0) (irow .u8 (bl nonce)) _ R1 (box_nonce _ _ _ _ hk) Tryd.underlying25 rfl hiN ?_) | (refine wpList_load_part rfl 23 _ rfl (w.heap.size + 1) 0 rfl 28 (boxr key2 nonce2 (.slice ue2 extra2.length ue2c) (.slice ud2 d2.length ud2c)) (0, 0) (irow .u8 (bl key2)) _ R2 (box_key _ _ _ _) Tryd.underlying23 rfl (infok8 _ hkl2) ?_) | (refine wpList_load_part rfl 25 _ rfl (w.heap.size + 1) 32 rfl 28 (boxr key2 nonce2 (.slice ue2 extra2.length ue2c) (.slice ud2 d2.length ud2c)) (0, 0) (irow .u8 (bl nonce2)) _ R2 (box_nonce _ _ _ _ hk2) Tryd.underlying25 rfl hiN2 ?_) | fail)
          clear ca_ cb_ cc_
          refine cT.mono ?_
          rintro e_ w6 ⟨rfl, hb⟩
          replace hw := Below.after hw hb
          clear hb
          go_wp2
          go_ret
          exact ⟨rfl, hw⟩
        · have z2 : EF = 61 := by rw [← eEF.out, ope, if_neg (by omega), if_neg hs, if_neg ht]
          rw [decide_eq_false (fun h => ht h.2)] at cT
          subst z2
          clear ht
          have ca_ := (box_cell R1 hk hno).1
          have cb_ := (box_cell R1 hk hno).2
          have cc_ := (box_cell R2 hk2 hno2).1
          go_wp2_with (first | (refine wpList_load_part rfl 23 _ rfl (w.heap.size) 0 rfl 28 (boxr key nonce (.slice ue extra.length uec) (.slice ud d.length udc)) (0, 0) (irow .u8 (bl key)) _ R1 (box_key _ _ _ _) Tryd.underlying23 rfl (infok8 _ hkl) ?_) | (refine wpList_load_part rfl 25 _ rfl (w.heap.size) 32 rfl 28 (boxr key nonce (.slice ue extra.length uec) (.slice ud d.length udc)) (0, 0) (irow .u8 (bl nonce)) _ R1 (box_nonce _ _ _ _ hk) Tryd.underlying25 rfl hiN ?_) | (refine wpList_load_part rfl 23 _ rfl (w.heap.size + 1) 0 rfl 28 (boxr key2 nonce2 (.slice ue2 extra2.length ue2c) (.slice ud2 d2.length ud2c)) (0, 0) (irow .u8 (bl key2)) _ R2 (box_key _ _ _ _) Tryd.underlying23 rfl (infok8 _ hkl2) ?_) | (refine wpList_load_part rfl 25 _ rfl (w.heap.size + 1) 32 rfl 28 (boxr key2 nonce2 (.slice ue2 extra2.length ue2c) (.slice ud2 d2.length ud2c)) (0, 0) (irow .u8 (bl nonce2)) _ R2 (box_nonce _ _ _ _ hk2) Tryd.underlying25 rfl hiN2 ?_) | fail)
          clear ca_ cb_ cc_
          refine cT.mono ?_
          rintro e_ w6 ⟨rfl, hb⟩
          replace hw := Below.after hw hb
          clear hb
          go_wp2
          go_ret
          exact ⟨rfl, hw⟩
  · have y1 : decide ((0 : Int) ≤ cut) = false := decide_eq_false hc0
    have qL := own_capB hOva
    have hBL := hOva.bysB (show LS.length ≤ 140737488351232 by omega)
    clear hOva
    obtain ⟨EF, eEF⟩ : ∃ z, ope key2 nonce2 extra2 LS = z := ⟨_, rfl⟩
    have cX := a_open key2 nonce2 extra2 LS hk2 hno2 w4 _ _ (hS.below hw) (hK.below hw) (hE2h.out _ hw) hBL (fun a l c h => by cases h; exact qE2) qL
    rw [eEF] at cX
    have eEF := hide eEF
    have ca_ := (box_cell R1 hk hno).1
    have cb_ := (box_cell R1 hk hno).2
    have cc_ := (box_cell R2 hk2 hno2).1
    go_wp2_with (first | (refine wpList_load_part rfl 23 _ rfl (w.heap.size) 0 rfl 28 (boxr key nonce (.slice ue extra.length uec) (.slice ud d.length udc)) (0, 0) (irow .u8 (bl key)) _ R1 (box_key _ _ _ _) Tryd.underlying23 rfl (infok8 _ hkl) ?_) | (refine wpList_load_part rfl 25 _ rfl (w.heap.size) 32 rfl 28 (boxr key nonce (.slice ue extra.length uec) (.slice ud d.length udc)) (0, 0) (irow .u8 (bl nonce)) _ R1 (box_nonce _ _ _ _ hk) Tryd.underlying25 rfl hiN ?_) | (refine wpList_load_part rfl 23 _ rfl (w.heap.size + 1) 0 rfl 28 (boxr key2 nonce2 (.slice ue2 extra2.length ue2c) (.slice ud2 d2.length ud2c)) (0, 0) (irow .u8 (bl key2)) _ R2 (box_key _ _ _ _) Tryd.underlying23 rfl (infok8 _ hkl2) ?_) | (refine wpList_load_part rfl 25 _ rfl (w.heap.size + 1) 32 rfl 28 (boxr key2 nonce2 (.slice ue2 extra2.length ue2c) (.slice ud2 d2.length ud2c)) (0, 0) (irow .u8 (bl nonce2)) _ R2 (box_nonce _ _ _ _ hk2) Tryd.underlying25 rfl hiN2 ?_) | fail)
    clear ca_ cb_ cc_
    refine cX.mono ?_
    rintro e_ w5 ⟨_, rfl, ⟨vf, rfl, hOvf⟩, hb⟩
    obtain ⟨aF, cF, rfl⟩ := slen_own hOvf
    clear cX hOvf
    replace hBL := hBL.keep hb
    replace R1 := keep hb R1
    replace R2 := keep hb R2
    replace hw := Below.after hw hb
    clear hb
    by_cases hs : LS.length < 16
    · exfalso
      have h1 := lAh.out
      omega
    · have z1 : decide ((LS.length : Int) < 16) = false := by simp; omega
      have cT := l_tagged key2 nonce2 extra2 LS hk2 hno2 w5 _ _ (hS.below hw) (hK.below hw) (hE2h.out _ hw) hBL qL (by omega)
      by_cases ht : otg LS = tg key2 nonce2 extra2 (obx LS)
      · have z2 : EF = 0 := by rw [← eEF.out, ope, if_neg (by omega), if_neg hs, if_pos ht]
        rw [decide_eq_true ⟨by omega, ht⟩] at cT
        subst z2
        clear ht
        have ca_ := (box_cell R1 hk hno).1
        have cb_ := (box_cell R1 hk hno).2
        have cc_ := (box_cell R2 hk2 hno2).1
        go_wp2_with (first | (refine wpList_load_part rfl 23 _ rfl (w.heap.size) 0 rfl 28 (boxr key nonce (.slice ue extra.length uec) (.slice ud d.length udc)) (0, 0) (irow .u8 (bl key)) _ R1 (box_key _ _ _ _) Tryd.underlying23 rfl (infok8 _ hkl) ?_) | (refine wpList_load_part rfl 25 _ rfl (w.heap.size) 32 rfl 28 (boxr key nonce (.slice ue extra.length uec) (.slice ud d.length udc)) (0, 0) (irow .u8 (bl nonce)) _ R1 (box_nonce _ _ _ _ hk) Tryd.underlying25 rfl hiN ?_) | (refine wpList_load_part rfl 23 _ rfl (w.heap.size + 1) 0 rfl 28 (boxr key2 nonce2 (.slice ue2 extra2.length ue2c) (.slice ud2 d2.length ud2c)) (0, 0) (irow .u8 (bl key2)) _ R2 (box_key _ _ _ _) Tryd.underlying23 rfl (infok8 _ hkl2) ?_) | (refine wpList_load_part rfl 25 _ rfl (w.heap.size + 1) 32 rfl 28 (boxr key2 nonce2 (.slice ue2 extra2.length ue2c) (.slice ud2 d2.length ud2c)) (0, 0) (irow .u8 (bl nonce2)) _ R2 (box_nonce _ _ _ _ hk2) Tryd.underlying25 rfl hiN2 ?_) | fail)
        clear ca_ cb_ cc_
        refine cT.mono ?_
        rintro e_ w6 ⟨rfl, hb⟩
        replace hw := Below.after hw hb
        clear hb
        go_wp2
        go_ret
        exact ⟨rfl, hw⟩
      · have z2 : EF = 61 := by rw [← eEF.out, ope, if_neg (by omega), if_neg hs, if_neg ht]
        rw [decide_eq_false (fun h => ht h.2)] at cT
        subst z2
        clear ht
        have ca_ := (box_cell R1 hk hno).1
        have cb_ := (box_cell R1 hk hno).2
        have cc_ := (box_cell R2 hk2 hno2).1
        go_wp2_with (first | (refine wpList_load_part rfl 23 _ rfl (w.heap.size) 0 rfl 28 (boxr key nonce (.slice ue extra.length uec) (.slice ud d.length udc)) (0, 0) (irow .u8 (bl key)) _ R1 (box_key _ _ _ _) Tryd.underlying23 rfl (infok8 _ hkl) ?_) | (refine wpList_load_part rfl 25 _ rfl (w.heap.size) 32 rfl 28 (boxr key nonce (.slice ue extra.length uec) (.slice ud d.length udc)) (0, 0) (irow .u8 (bl nonce)) _ R1 (box_nonce _ _ _ _ hk) Tryd.underlying25 rfl hiN ?_) | (refine wpList_load_part rfl 23 _ rfl (w.heap.size + 1) 0 rfl 28 (boxr key2 nonce2 (.slice ue2 extra2.length ue2c) (.slice ud2 d2.length ud2c)) (0, 0) (irow .u8 (bl key2)) _ R2 (box_key _ _ _ _) Tryd.underlying23 rfl (infok8 _ hkl2) ?_) | (refine wpList_load_part rfl 25 _ rfl (w.heap.size + 1) 32 rfl 28 (boxr key2 nonce2 (.slice ue2 extra2.length ue2c) (.slice ud2 d2.length ud2c)) (0, 0) (irow .u8 (bl nonce2)) _ R2 (box_nonce _ _ _ _ hk2) Tryd.underlying25 rfl hiN2 ?_) | fail)
        clear ca_ cb_ cc_
        refine cT.mono ?_
        rintro e_ w6 ⟨rfl, hb⟩
        replace hw := Below.after hw hb
        clear hb
        go_wp2
        go_ret
        exact ⟨rfl, hw⟩
theorem spoilt_any (key nonce extra d key2 nonce2 extra2 d2 : List B) (hk : key.length = 32) (hno : nonce.length = 16) (hk2 : key2.length = 32) (hno2 : nonce2.length = 16) (w : World) (ve vd ve2 vd2 : Value) (hS : Sta w) (hK : Kon w) (hE : BysC w ve extra) (hD : BysC w vd d) (hE2 : BysC w ve2 extra2) (hD2 : BysC w vd2 d2) (at_ : Int) (mask : B) (cut : Int) : Calls Tryd.prog 3 #[.agg (boxr key nonce ve vd), .agg (boxr key2 nonce2 ve2 vd2), .int .i64 at_, .int .u8 (bv mask), .int .i64 cut] w fun e w' => e = .returned (.bool true) ∧ Below w.heap.size w w' := by
  by_cases h : 2097216 < extra.length ∨ 2097216 < d.length
  · exact spoilt_box key nonce extra d key2 nonce2 extra2 d2 hk hno hk2 hno2 w ve vd ve2 vd2 hS hK hE hD hE2 hD2 at_ mask cut h
  by_cases h2 : 2097216 < extra2.length
  · exact spoilt_oth key nonce extra d key2 nonce2 extra2 d2 hk hno hk2 hno2 w ve vd ve2 vd2 hS hK hE hD hE2 hD2 at_ mask cut h h2
  have hl : extra.length ≤ 2097216 ∧ d.length ≤ 2097216 ∧ extra2.length ≤ 2097216 := by omega
  by_cases h3 : at_ < 0
  · exact spoilt_neg key nonce extra d key2 nonce2 extra2 d2 hk hno hk2 hno2 w ve vd ve2 vd2 hS hK hE hD hE2 hD2 at_ mask cut hl h3
  by_cases h4 : (d.length : Int) + 16 ≤ at_
  · exact spoilt_large key nonce extra d key2 nonce2 extra2 d2 hk hno hk2 hno2 w ve vd ve2 vd2 hS hK hE hD hE2 hD2 at_ mask cut hl h4
  obtain ⟨k, rfl⟩ := Int.eq_ofNat_of_zero_le (show 0 ≤ at_ by omega)
  by_cases h5 : k < d.length
  · exact spoilt_lt key nonce extra d key2 nonce2 extra2 d2 hk hno hk2 hno2 w ve vd ve2 vd2 hS hK hE hD hE2 hD2 mask cut hl k h5
  by_cases h6 : mask = 0#8
  · exact spoilt_zero key nonce extra d key2 nonce2 extra2 d2 hk hno hk2 hno2 w ve vd ve2 vd2 hS hK hE hD hE2 hD2 mask cut hl k (by omega) (by omega) h6
  · exact spoilt_check key nonce extra d key2 nonce2 extra2 d2 hk hno hk2 hno2 w ve vd ve2 vd2 hS hK hE hD hE2 hD2 mask cut hl k (by omega) (by omega) h6

end Go.Proofs.YtamieopjigjfiabDoor
