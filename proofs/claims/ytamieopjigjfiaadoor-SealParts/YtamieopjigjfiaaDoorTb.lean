import Derived.Test.YtamieopjigjfiaaDoorProg
import Derived.WalkKit
import Derived.WalkSpells
import Derived.WalkLawsBesides
import Derived.Lib.QuietBelow
import Derived.BigQuiet
import Derived.OrdersHeld
import Derived.OwnWalk
import Derived.Deep.RegionHeld3
import Derived.Test.YtamieopjigjfiaaDoorKa
import Derived.Test.YtamieopjigjfiaaDoorSn
namespace Go.Proofs.YtamieopjigjfiaaDoor
set_option maxRecDepth 100000
open Go Go.RowKit Go.Sort
attribute [local go_sem] setCell_drewN alloc_drewN

theorem boxr_size (key nonce : List B) (u v : Value) (hk : key.length = 32) (hno : nonce.length = 16) : (boxr key nonce u v).size = 50 := by
  simp [boxr, irow_size, bl_len, hk, hno]
theorem infoBx0 : (Tryd.prog.info? 31).map (·.size) = some 50 := by kernel_rfl
theorem infoBx {key nonce : List B} {u v : Value} (_ : Unit) (hk : key.length = 32) (hno : nonce.length = 16) : (Tryd.prog.info? 31).map (·.size) = some (boxr key nonce u v).size := by rw [boxr_size _ _ _ _ hk hno]; exact infoBx0
set_option maxRecDepth 100000 in
set_option maxHeartbeats 4000000 in
theorem l_long (key nonce extra d : List B) (hk : key.length = 32) (hno : nonce.length = 16) (w : World) (ue ud : Option Addr) (uec udc : Nat) (b : Bool) (hb : b = decide (2097216 < extra.length ∨ 2097216 < d.length)) : Calls Tryd.prog 21 #[.agg (boxr key nonce (.slice ue extra.length uec) (.slice ud d.length udc))] w fun e w' => e = .returned (.bool b) ∧ Below w.heap.size w w' := by
  have RB := hp1_0 w (.cells (boxr key nonce (.slice ue extra.length uec) (.slice ud d.length udc)) 31)
  have hw : Below w.heap.size w (w.alloc (.cells (boxr key nonce (.slice ue extra.length uec) (.slice ud d.length udc)) 31)) := (Below.refl _ _).alloc (Nat.le_refl _) _
  by_cases h1 : 2097216 < extra.length
  · have q1 : decide ((2097216 : Int) < (extra.length : Int)) = true := by simp; omega
    have eb : b = true := by rw [hb]; exact decide_eq_true (.inl h1)
    subst eb
    clear hb
    go_enter Tryd.func21, Tryd.ntmps21
    go_wp2_with (first | (refine wpList_box rfl 31 _ rfl _ rfl (bBox _) ?_; refine wpList_stay ?_) | fail)
    unfold WpStay
    generalize w.alloc (.cells (boxr key nonce (.slice ue extra.length uec) (.slice ud d.length udc)) 31) = w0 at *
    have cE_ := (box_cell RB hk hno).1
    have cD_ := (box_cell RB hk hno).2
    go_wp2
    go_ret
    exact ⟨rfl, hw⟩
  · have q1 : decide ((2097216 : Int) < (extra.length : Int)) = false := by simp; omega
    have q2 : decide ((2097216 : Int) < (d.length : Int)) = b := by
      rw [hb]; exact decide_eq_decide.2 (by omega)
    clear hb
    go_enter Tryd.func21, Tryd.ntmps21
    go_wp2_with (first | (refine wpList_box rfl 31 _ rfl _ rfl (bBox _) ?_; refine wpList_stay ?_) | fail)
    unfold WpStay
    generalize w.alloc (.cells (boxr key nonce (.slice ue extra.length uec) (.slice ud d.length udc)) 31) = w0 at *
    have cE_ := (box_cell RB hk hno).1
    have cD_ := (box_cell RB hk hno).2
    go_wp2
    go_ret
    exact ⟨rfl, hw⟩
set_option maxRecDepth 100000 in
set_option maxHeartbeats 4000000 in
theorem back_long (key nonce extra d : List B) (hk : key.length = 32) (hno : nonce.length = 16) (w : World) (ve vd : Value) (hS : Sta w) (hK : Kon w) (hE : BysC w ve extra) (hD : BysC w vd d) (hlen : 2097216 < extra.length ∨ 2097216 < d.length) : Calls Tryd.prog 6 #[.agg (boxr key nonce ve vd)] w fun e w' => e = .returned (.bool true) ∧ Below w.heap.size w w' := by
  have hkl : (bl key).length = 32 := by rw [bl_len, hk]
  have hiN := info_bl infoN nonce hno
  obtain ⟨hE, qE⟩ := hE
  obtain ⟨hD, qD⟩ := hD
  obtain ⟨ue, uec, rfl⟩ : ∃ ao cap, ve = .slice ao extra.length cap := by
    obtain ⟨⟨ao, cap, h, _⟩, _⟩ := hE
    rw [bl_len] at h
    exact ⟨ao, cap, h⟩
  obtain ⟨ud, udc, rfl⟩ : ∃ ao cap, vd = .slice ao d.length cap := by
    obtain ⟨⟨ao, cap, h, _⟩, _⟩ := hD
    rw [bl_len] at h
    exact ⟨ao, cap, h⟩
  replace qE := qE _ _ _ rfl
  replace qD := qD _ _ _ rfl
  have hel : extra.length ≤ 140737488351232 := hE.2.1
  have hdl : d.length ≤ 140737488351232 := hD.2.1
  have RB := hp1_0 w (.cells (boxr key nonce (.slice ue extra.length uec) (.slice ud d.length udc)) 31)
  have hw : Below w.heap.size w (w.alloc (.cells (boxr key nonce (.slice ue extra.length uec) (.slice ud d.length udc)) 31)) := (Below.refl _ _).alloc (Nat.le_refl _) _
  have hEh : Hid (∀ V, Below w.heap.size w V → BysB V (.slice ue extra.length uec) extra) := hide (fun V h => hE.keep h)
  have hDh : Hid (∀ V, Below w.heap.size w V → BysB V (.slice ud d.length udc) d) := hide (fun V h => hD.keep h)
  clear hE hD
  obtain ⟨LA, eLA⟩ : ∃ L, slr key nonce extra d = L := ⟨_, rfl⟩
  replace eLA := hide eLA
  have hE2 : sle extra d = 2 := (slr_no key nonce extra d hlen).2
  have hL0 : Hid (LA = []) := hide (by rw [← eLA.out]; exact (slr_no key nonce extra d hlen).1)
  have hb_ : Hid (true = decide (2097216 < extra.length ∨ 2097216 < d.length)) := hide (decide_eq_true hlen).symm
  go_enter Tryd.func6, Tryd.ntmps6
  go_wp2_with (first | (refine wpList_box rfl 31 _ rfl _ rfl (bBox _) ?_; refine wpList_stay ?_) | fail)
  unfold WpStay
  generalize w.alloc (.cells (boxr key nonce (.slice ue extra.length uec) (.slice ud d.length udc)) 31) = w0 at *
  have cE_ := (box_cell RB hk hno).1
  have cD_ := (box_cell RB hk hno).2
  go_wp2_with (first | (refine wpList_load_part rfl 23 _ rfl w.heap.size 0 rfl 31 (boxr key nonce (.slice ue extra.length uec) (.slice ud d.length udc)) (0, 0) (irow .u8 (bl key)) _ RB (box_key _ _ _ _) Tryd.underlying23 rfl (infok8 _ hkl) ?_) | (refine wpList_load_part rfl 28 _ rfl w.heap.size 32 rfl 31 (boxr key nonce (.slice ue extra.length uec) (.slice ud d.length udc)) (0, 0) (irow .u8 (bl nonce)) _ RB (box_nonce _ _ _ _ hk) Tryd.underlying28 rfl hiN ?_) | fail)
  clear cE_ cD_
  refine (l_lives w0 (hS.below hw) (hK.below hw)).mono ?_
  rintro e_ w1 ⟨rfl, hb⟩
  replace RB := keep hb RB
  replace hw := Below.after hw hb
  have sz_w1 := hb.size
  clear hb
  have cE_ := (box_cell RB hk hno).1
  have cD_ := (box_cell RB hk hno).2
  go_wp2_with (first | (refine wpList_load_part rfl 23 _ rfl w.heap.size 0 rfl 31 (boxr key nonce (.slice ue extra.length uec) (.slice ud d.length udc)) (0, 0) (irow .u8 (bl key)) _ RB (box_key _ _ _ _) Tryd.underlying23 rfl (infok8 _ hkl) ?_) | (refine wpList_load_part rfl 28 _ rfl w.heap.size 32 rfl 31 (boxr key nonce (.slice ue extra.length uec) (.slice ud d.length udc)) (0, 0) (irow .u8 (bl nonce)) _ RB (box_nonce _ _ _ _ hk) Tryd.underlying28 rfl hiN ?_) | fail)
  clear cE_ cD_
  have cX := a_seal key nonce extra d hk hno w1 _ _ (hS.below hw) (hK.below hw) (hEh.out _ hw) (hDh.out _ hw) (fun a l c h => by cases h; exact qE)
  rw [eLA.out, hE2] at cX
  refine cX.mono ?_
  rintro e_ w2 ⟨_, rfl, ⟨va, rfl, hOva⟩, hb⟩
  have qA := own_capB hOva
  obtain ⟨aA, cA, rfl⟩ := slen_own hOva
  clear cX hE2
  replace RB := keep hb RB
  replace hw := Below.after hw hb
  have sz_w2 := hb.size
  clear hb
  go_wp2_with (first | (refine wpList_load_want rfl 31 _ rfl (w.heap.size) rfl 31 (boxr key nonce (.slice ue extra.length uec) (.slice ud d.length udc)) (0, 0) _ RB Tryd.underlying31 rfl (infoBx () hk hno) ?_) | fail)
  refine (l_long key nonce extra d hk hno w2 ue ud uec udc true hb_.out).mono ?_
  rintro e_ w3 ⟨rfl, hb⟩
  replace RB := keep hb RB
  replace hOva := hOva.keep hb
  replace hw := Below.after hw hb
  have sz_w3 := hb.size
  clear hb
  have hl0 : LA.length = 0 := by rw [hL0.out]; rfl
  go_wp2
  go_ret
  exact ⟨rfl, hw⟩
set_option maxRecDepth 100000 in
set_option maxHeartbeats 4000000 in
theorem back_ok (key nonce extra d : List B) (hk : key.length = 32) (hno : nonce.length = 16) (w : World) (ve vd : Value) (hS : Sta w) (hK : Kon w) (hE : BysC w ve extra) (hD : BysC w vd d) (hlen : extra.length ≤ 2097216 ∧ d.length ≤ 2097216) : Calls Tryd.prog 6 #[.agg (boxr key nonce ve vd)] w fun e w' => e = .returned (.bool true) ∧ Below w.heap.size w w' := by
  have hkl : (bl key).length = 32 := by rw [bl_len, hk]
  have hiN := info_bl infoN nonce hno
  obtain ⟨hE, qE⟩ := hE
  obtain ⟨hD, qD⟩ := hD
  obtain ⟨ue, uec, rfl⟩ : ∃ ao cap, ve = .slice ao extra.length cap := by
    obtain ⟨⟨ao, cap, h, _⟩, _⟩ := hE
    rw [bl_len] at h
    exact ⟨ao, cap, h⟩
  obtain ⟨ud, udc, rfl⟩ : ∃ ao cap, vd = .slice ao d.length cap := by
    obtain ⟨⟨ao, cap, h, _⟩, _⟩ := hD
    rw [bl_len] at h
    exact ⟨ao, cap, h⟩
  replace qE := qE _ _ _ rfl
  replace qD := qD _ _ _ rfl
  have hel : extra.length ≤ 140737488351232 := hE.2.1
  have hdl : d.length ≤ 140737488351232 := hD.2.1
  have RB := hp1_0 w (.cells (boxr key nonce (.slice ue extra.length uec) (.slice ud d.length udc)) 31)
  have hw : Below w.heap.size w (w.alloc (.cells (boxr key nonce (.slice ue extra.length uec) (.slice ud d.length udc)) 31)) := (Below.refl _ _).alloc (Nat.le_refl _) _
  have hEh : Hid (∀ V, Below w.heap.size w V → BysB V (.slice ue extra.length uec) extra) := hide (fun V h => hE.keep h)
  have hDh : Hid (∀ V, Below w.heap.size w V → BysB V (.slice ud d.length udc) d) := hide (fun V h => hD.keep h)
  clear hE hD
  obtain ⟨LA, eLA⟩ : ∃ L, slr key nonce extra d = L := ⟨_, rfl⟩
  replace eLA := hide eLA
  have hE2 : sle extra d = 0 := (slr_ok key nonce extra d hlen.1 hlen.2).2
  have eB : LA = bx key nonce extra d := by rw [← eLA.out]; exact (slr_ok key nonce extra d hlen.1 hlen.2).1
  have hLl : Hid (LA.length = d.length + 16) := hide (by rw [eB, bx_len])
  have hO1 : ope key nonce extra LA = 0 := by rw [eB]; exact (ope_bx key nonce extra d hlen.1 hlen.2).1
  have hO2 : opr key nonce extra LA = d := by rw [eB]; exact (ope_bx key nonce extra d hlen.1 hlen.2).2
  have hb_ : Hid (false = decide (2097216 < extra.length ∨ 2097216 < d.length)) := hide (decide_eq_false (by omega)).symm
  clear eB
  go_enter Tryd.func6, Tryd.ntmps6
  go_wp2_with (first | (refine wpList_box rfl 31 _ rfl _ rfl (bBox _) ?_; refine wpList_stay ?_) | fail)
  unfold WpStay
  generalize w.alloc (.cells (boxr key nonce (.slice ue extra.length uec) (.slice ud d.length udc)) 31) = w0 at *
  have cE_ := (box_cell RB hk hno).1
  have cD_ := (box_cell RB hk hno).2
  go_wp2_with (first | (refine wpList_load_part rfl 23 _ rfl w.heap.size 0 rfl 31 (boxr key nonce (.slice ue extra.length uec) (.slice ud d.length udc)) (0, 0) (irow .u8 (bl key)) _ RB (box_key _ _ _ _) Tryd.underlying23 rfl (infok8 _ hkl) ?_) | (refine wpList_load_part rfl 28 _ rfl w.heap.size 32 rfl 31 (boxr key nonce (.slice ue extra.length uec) (.slice ud d.length udc)) (0, 0) (irow .u8 (bl nonce)) _ RB (box_nonce _ _ _ _ hk) Tryd.underlying28 rfl hiN ?_) | fail)
  clear cE_ cD_
  refine (l_lives w0 (hS.below hw) (hK.below hw)).mono ?_
  rintro e_ w1 ⟨rfl, hb⟩
  replace RB := keep hb RB
  replace hw := Below.after hw hb
  have sz_w1 := hb.size
  clear hb
  have cE_ := (box_cell RB hk hno).1
  have cD_ := (box_cell RB hk hno).2
  go_wp2_with (first | (refine wpList_load_part rfl 23 _ rfl w.heap.size 0 rfl 31 (boxr key nonce (.slice ue extra.length uec) (.slice ud d.length udc)) (0, 0) (irow .u8 (bl key)) _ RB (box_key _ _ _ _) Tryd.underlying23 rfl (infok8 _ hkl) ?_) | (refine wpList_load_part rfl 28 _ rfl w.heap.size 32 rfl 31 (boxr key nonce (.slice ue extra.length uec) (.slice ud d.length udc)) (0, 0) (irow .u8 (bl nonce)) _ RB (box_nonce _ _ _ _ hk) Tryd.underlying28 rfl hiN ?_) | fail)
  clear cE_ cD_
  have cX := a_seal key nonce extra d hk hno w1 _ _ (hS.below hw) (hK.below hw) (hEh.out _ hw) (hDh.out _ hw) (fun a l c h => by cases h; exact qE)
  rw [eLA.out, hE2] at cX
  refine cX.mono ?_
  rintro e_ w2 ⟨_, rfl, ⟨va, rfl, hOva⟩, hb⟩
  have qA := own_capB hOva
  obtain ⟨aA, cA, rfl⟩ := slen_own hOva
  clear cX hE2
  replace RB := keep hb RB
  replace hw := Below.after hw hb
  have sz_w2 := hb.size
  clear hb
  go_wp2_with (first | (refine wpList_load_want rfl 31 _ rfl (w.heap.size) rfl 31 (boxr key nonce (.slice ue extra.length uec) (.slice ud d.length udc)) (0, 0) _ RB Tryd.underlying31 rfl (infoBx () hk hno) ?_) | fail)
  refine (l_long key nonce extra d hk hno w2 ue ud uec udc false hb_.out).mono ?_
  rintro e_ w3 ⟨rfl, hb⟩
  replace RB := keep hb RB
  replace hOva := hOva.keep hb
  replace hw := Below.after hw hb
  have sz_w3 := hb.size
  clear hb
  have cE_ := (box_cell RB hk hno).1
  have cD_ := (box_cell RB hk hno).2
  go_wp2_with (first | (refine wpList_load_part rfl 23 _ rfl w.heap.size 0 rfl 31 (boxr key nonce (.slice ue extra.length uec) (.slice ud d.length udc)) (0, 0) (irow .u8 (bl key)) _ RB (box_key _ _ _ _) Tryd.underlying23 rfl (infok8 _ hkl) ?_) | (refine wpList_load_part rfl 28 _ rfl w.heap.size 32 rfl 31 (boxr key nonce (.slice ue extra.length uec) (.slice ud d.length udc)) (0, 0) (irow .u8 (bl nonce)) _ RB (box_nonce _ _ _ _ hk) Tryd.underlying28 rfl hiN ?_) | fail)
  clear cE_ cD_
  have cX := a_open key nonce extra LA hk hno w3 _ _ (hS.below hw) (hK.below hw) (hEh.out _ hw) (hOva.bysB (by rw [hLl.out]; omega)) (fun a l c h => by cases h; exact qE) qA
  rw [hO1, hO2] at cX
  refine cX.mono ?_
  rintro e_ w4 ⟨_, rfl, ⟨vp, rfl, hOvp⟩, hb⟩
  obtain ⟨aP, cP, rfl⟩ := slen_own hOvp
  clear cX hO1 hO2
  replace RB := keep hb RB
  replace hOva := hOva.keep hb
  replace hw := Below.after hw hb
  have sz_w4 := hb.size
  clear hb
  have hLl2 := hLl.out
  have hwr : IntKind.i64.wrap ((d.length : Int) + 16) = (d.length : Int) + 16 := by rw [IntKind.wrap_i64]; omega
  have hcast : ((LA.length : Nat) : Int) = (d.length : Int) + 16 := by rw [hLl2]; omega
  clear hLl2
  have cE_ := (box_cell RB hk hno).1
  have cD_ := (box_cell RB hk hno).2
  go_wp2_with (first | (refine wpList_load_part rfl 23 _ rfl w.heap.size 0 rfl 31 (boxr key nonce (.slice ue extra.length uec) (.slice ud d.length udc)) (0, 0) (irow .u8 (bl key)) _ RB (box_key _ _ _ _) Tryd.underlying23 rfl (infok8 _ hkl) ?_) | (refine wpList_load_part rfl 28 _ rfl w.heap.size 32 rfl 31 (boxr key nonce (.slice ue extra.length uec) (.slice ud d.length udc)) (0, 0) (irow .u8 (bl nonce)) _ RB (box_nonce _ _ _ _ hk) Tryd.underlying28 rfl hiN ?_) | fail)
  clear cE_ cD_
  refine (sB_eq d w4 _ _ hOvp.bys (hDh.out _ hw).1).mono ?_
  rintro e_ w5 ⟨rfl, hb⟩
  replace RB := keep hb RB
  replace hOva := hOva.keep hb
  replace hw := Below.after hw hb
  have sz_w5 := hb.size
  clear hb
  go_wp2
  go_ret
  exact ⟨rfl, hw⟩
theorem sback_any (key nonce extra d : List B) (hk : key.length = 32) (hno : nonce.length = 16) (w : World) (ve vd : Value) (hS : Sta w) (hK : Kon w) (hE : BysC w ve extra) (hD : BysC w vd d) : Calls Tryd.prog 6 #[.agg (boxr key nonce ve vd)] w fun e w' => e = .returned (.bool true) ∧ Below w.heap.size w w' := by
  by_cases h : 2097216 < extra.length ∨ 2097216 < d.length
  · exact back_long key nonce extra d hk hno w ve vd hS hK hE hD h
  · exact back_ok key nonce extra d hk hno w ve vd hS hK hE hD (by omega)

end Go.Proofs.YtamieopjigjfiaaDoor
