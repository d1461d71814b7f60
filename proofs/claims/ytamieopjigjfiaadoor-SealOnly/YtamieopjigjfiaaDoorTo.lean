import Derived.Test.YtamieopjigjfiaaDoorProg
import Derived.WalkKit
import Derived.WalkSpells
import Derived.WalkLawsBesides
import Derived.Lib.QuietBelow
import Derived.BigQuiet
import Derived.OrdersHeld
import Derived.OwnWalk
import Derived.Deep.RegionHeld3
import Derived.Test.YtamieopjigjfiaaDoorKa
import Derived.Test.YtamieopjigjfiaaDoorTb
namespace Go.Proofs.YtamieopjigjfiaaDoor
set_option maxRecDepth 100000
open Go Go.RowKit Go.Sort
attribute [local go_sem] setCell_drewN alloc_drewN

set_option maxRecDepth 100000 in
set_option maxHeartbeats 4000000 in
theorem only_ok (key nonce extra d : List B) (hk : key.length = 32) (hno : nonce.length = 16) (w : World) (ve vd : Value) (hS : Sta w) (hK : Kon w) (hE : BysC w ve extra) (hD : BysC w vd d) (hop : ope key nonce extra d = 0) : Calls Tryd.prog 7 #[.agg (boxr key nonce ve vd)] w fun e w' => e = .returned (.bool true) ∧ Below w.heap.size w w' := by
  have hkl : (bl key).length = 32 := by rw [bl_len, hk]
  have hiN := info_bl infoN nonce hno
  obtain ⟨hE, qE⟩ := hE
  obtain ⟨hD, qD⟩ := hD
  obtain ⟨ue, uec, rfl⟩ : ∃ ao cap, ve = .slice ao extra.length cap := by
    obtain ⟨⟨ao, cap, h, _⟩, _⟩ := hE
    rw [bl_len] at h
    exact ⟨ao, cap, h⟩
  obtain ⟨ud, udc, rfl⟩ : ∃ ao cap, vd = .slice ao d.length cap := by
    obtain ⟨⟨ao, cap, h, _⟩, _⟩ := hD
    rw [bl_len] at h
    exact ⟨ao, cap, h⟩
  replace qE := qE _ _ _ rfl
  replace qD := qD _ _ _ rfl
  have hel : extra.length ≤ 140737488351232 := hE.2.1
  have hdl : d.length ≤ 140737488351232 := hD.2.1
  have RB := hp1_0 w (.cells (boxr key nonce (.slice ue extra.length uec) (.slice ud d.length udc)) 31)
  have hw : Below w.heap.size w (w.alloc (.cells (boxr key nonce (.slice ue extra.length uec) (.slice ud d.length udc)) 31)) := (Below.refl _ _).alloc (Nat.le_refl _) _
  have hEh : Hid (∀ V, Below w.heap.size w V → BysB V (.slice ue extra.length uec) extra) := hide (fun V h => hE.keep h)
  have hDh : Hid (∀ V, Below w.heap.size w V → BysB V (.slice ud d.length udc) d) := hide (fun V h => hD.keep h)
  clear hE hD
  obtain ⟨LA, eLA⟩ : ∃ L, opr key nonce extra d = L := ⟨_, rfl⟩
  have hS1 : slr key nonce extra LA = d := by rw [← eLA]; exact (slr_opr key nonce extra d hop).1
  have hS2 : sle extra LA = 0 := by rw [← eLA]; exact (slr_opr key nonce extra d hop).2
  have hLl : Hid (LA.length ≤ 140737488351232) := hide (by
    have h := congrArg List.length hS1
    rw [slr] at h
    rw [sle] at hS2
    by_cases hc : 2097216 < extra.length ∨ 2097216 < LA.length
    · rw [if_pos hc] at hS2; exact absurd hS2 (by decide)
    · omega)
  replace eLA := hide eLA
  go_enter Tryd.func7, Tryd.ntmps7
  go_wp2_with (first | (refine wpList_box rfl 31 _ rfl _ rfl (bBox _) ?_; refine wpList_stay ?_) | fail)
  unfold WpStay
  generalize w.alloc (.cells (boxr key nonce (.slice ue extra.length uec) (.slice ud d.length udc)) 31) = w0 at *
  have cE_ := (box_cell RB hk hno).1
  have cD_ := (box_cell RB hk hno).2
  go_wp2_with (first | (refine wpList_load_part rfl 23 _ rfl w.heap.size 0 rfl 31 (boxr key nonce (.slice ue extra.length uec) (.slice ud d.length udc)) (0, 0) (irow .u8 (bl key)) _ RB (box_key _ _ _ _) Tryd.underlying23 rfl (infok8 _ hkl) ?_) | (refine wpList_load_part rfl 28 _ rfl w.heap.size 32 rfl 31 (boxr key nonce (.slice ue extra.length uec) (.slice ud d.length udc)) (0, 0) (irow .u8 (bl nonce)) _ RB (box_nonce _ _ _ _ hk) Tryd.underlying28 rfl hiN ?_) | fail)
  clear cE_ cD_
  refine (l_lives w0 (hS.below hw) (hK.below hw)).mono ?_
  rintro e_ w1 ⟨rfl, hb⟩
  replace RB := keep hb RB
  replace hw := Below.after hw hb
  have sz_w1 := hb.size
  clear hb
  have cE_ := (box_cell RB hk hno).1
  have cD_ := (box_cell RB hk hno).2
  go_wp2_with (first | (refine wpList_load_part rfl 23 _ rfl w.heap.size 0 rfl 31 (boxr key nonce (.slice ue extra.length uec) (.slice ud d.length udc)) (0, 0) (irow .u8 (bl key)) _ RB (box_key _ _ _ _) Tryd.underlying23 rfl (infok8 _ hkl) ?_) | (refine wpList_load_part rfl 28 _ rfl w.heap.size 32 rfl 31 (boxr key nonce (.slice ue extra.length uec) (.slice ud d.length udc)) (0, 0) (irow .u8 (bl nonce)) _ RB (box_nonce _ _ _ _ hk) Tryd.underlying28 rfl hiN ?_) | fail)
  clear cE_ cD_
  have cX := a_open key nonce extra d hk hno w1 _ _ (hS.below hw) (hK.below hw) (hEh.out _ hw) (hDh.out _ hw) (fun a l c h => by cases h; exact qE) (fun a l c h => by cases h; exact qD)
  rw [eLA.out, hop] at cX
  refine cX.mono ?_
  rintro e_ w2 ⟨_, rfl, ⟨va, rfl, hOva⟩, hb⟩
  obtain ⟨aA, cA, rfl⟩ := slen_own hOva
  clear cX
  replace RB := keep hb RB
  replace hw := Below.after hw hb
  have sz_w2 := hb.size
  clear hb
  have cE_ := (box_cell RB hk hno).1
  have cD_ := (box_cell RB hk hno).2
  go_wp2_with (first | (refine wpList_load_part rfl 23 _ rfl w.heap.size 0 rfl 31 (boxr key nonce (.slice ue extra.length uec) (.slice ud d.length udc)) (0, 0) (irow .u8 (bl key)) _ RB (box_key _ _ _ _) Tryd.underlying23 rfl (infok8 _ hkl) ?_) | (refine wpList_load_part rfl 28 _ rfl w.heap.size 32 rfl 31 (boxr key nonce (.slice ue extra.length uec) (.slice ud d.length udc)) (0, 0) (irow .u8 (bl nonce)) _ RB (box_nonce _ _ _ _ hk) Tryd.underlying28 rfl hiN ?_) | fail)
  clear cE_ cD_
  have cX := a_seal key nonce extra LA hk hno w2 _ _ (hS.below hw) (hK.below hw) (hEh.out _ hw) (hOva.bysB hLl.out) (fun a l c h => by cases h; exact qE)
  rw [hS1, hS2] at cX
  refine cX.mono ?_
  rintro e_ w3 ⟨_, rfl, ⟨vp, rfl, hOvp⟩, hb⟩
  obtain ⟨aP, cP, rfl⟩ := slen_own hOvp
  clear cX hS1 hS2
  replace RB := keep hb RB
  replace hOva := hOva.keep hb
  replace hw := Below.after hw hb
  have sz_w3 := hb.size
  clear hb
  have cE_ := (box_cell RB hk hno).1
  have cD_ := (box_cell RB hk hno).2
  go_wp2_with (first | (refine wpList_load_part rfl 23 _ rfl w.heap.size 0 rfl 31 (boxr key nonce (.slice ue extra.length uec) (.slice ud d.length udc)) (0, 0) (irow .u8 (bl key)) _ RB (box_key _ _ _ _) Tryd.underlying23 rfl (infok8 _ hkl) ?_) | (refine wpList_load_part rfl 28 _ rfl w.heap.size 32 rfl 31 (boxr key nonce (.slice ue extra.length uec) (.slice ud d.length udc)) (0, 0) (irow .u8 (bl nonce)) _ RB (box_nonce _ _ _ _ hk) Tryd.underlying28 rfl hiN ?_) | fail)
  clear cE_ cD_
  refine (sB_eq d w3 _ _ hOvp.bys (hDh.out _ hw).1).mono ?_
  rintro e_ w4 ⟨rfl, hb⟩
  replace RB := keep hb RB
  replace hOva := hOva.keep hb
  replace hw := Below.after hw hb
  have sz_w4 := hb.size
  clear hb
  go_wp2
  go_ret
  exact ⟨rfl, hw⟩
set_option maxRecDepth 100000 in
set_option maxHeartbeats 4000000 in
theorem only_no (key nonce extra d : List B) (hk : key.length = 32) (hno : nonce.length = 16) (w : World) (ve vd : Value) (hS : Sta w) (hK : Kon w) (hE : BysC w ve extra) (hD : BysC w vd d) (hop : ope key nonce extra d ≠ 0) : Calls Tryd.prog 7 #[.agg (boxr key nonce ve vd)] w fun e w' => e = .returned (.bool true) ∧ Below w.heap.size w w' := by
  have hkl : (bl key).length = 32 := by rw [bl_len, hk]
  have hiN := info_bl infoN nonce hno
  obtain ⟨hE, qE⟩ := hE
  obtain ⟨hD, qD⟩ := hD
  obtain ⟨ue, uec, rfl⟩ : ∃ ao cap, ve = .slice ao extra.length cap := by
    obtain ⟨⟨ao, cap, h, _⟩, _⟩ := hE
    rw [bl_len] at h
    exact ⟨ao, cap, h⟩
  obtain ⟨ud, udc, rfl⟩ : ∃ ao cap, vd = .slice ao d.length cap := by
    obtain ⟨⟨ao, cap, h, _⟩, _⟩ := hD
    rw [bl_len] at h
    exact ⟨ao, cap, h⟩
  replace qE := qE _ _ _ rfl
  replace qD := qD _ _ _ rfl
  have hel : extra.length ≤ 140737488351232 := hE.2.1
  have hdl : d.length ≤ 140737488351232 := hD.2.1
  have RB := hp1_0 w (.cells (boxr key nonce (.slice ue extra.length uec) (.slice ud d.length udc)) 31)
  have hw : Below w.heap.size w (w.alloc (.cells (boxr key nonce (.slice ue extra.length uec) (.slice ud d.length udc)) 31)) := (Below.refl _ _).alloc (Nat.le_refl _) _
  have hEh : Hid (∀ V, Below w.heap.size w V → BysB V (.slice ue extra.length uec) extra) := hide (fun V h => hE.keep h)
  have hDh : Hid (∀ V, Below w.heap.size w V → BysB V (.slice ud d.length udc) d) := hide (fun V h => hD.keep h)
  clear hE hD
  obtain ⟨LA, eLA⟩ : ∃ L, opr key nonce extra d = L := ⟨_, rfl⟩
  have hl0 : LA.length = 0 := by rw [← eLA, opr_err _ _ _ _ hop]; rfl
  obtain ⟨EA, eEA⟩ : ∃ z, ope key nonce extra d = z := ⟨_, rfl⟩
  rw [eEA] at hop
  have hdz : decide (EA = 0) = false := decide_eq_false hop
  replace eLA := hide eLA
  replace eEA := hide eEA
  go_enter Tryd.func7, Tryd.ntmps7
  go_wp2_with (first | (refine wpList_box rfl 31 _ rfl _ rfl (bBox _) ?_; refine wpList_stay ?_) | fail)
  unfold WpStay
  generalize w.alloc (.cells (boxr key nonce (.slice ue extra.length uec) (.slice ud d.length udc)) 31) = w0 at *
  have cE_ := (box_cell RB hk hno).1
  have cD_ := (box_cell RB hk hno).2
  go_wp2_with (first | (refine wpList_load_part rfl 23 _ rfl w.heap.size 0 rfl 31 (boxr key nonce (.slice ue extra.length uec) (.slice ud d.length udc)) (0, 0) (irow .u8 (bl key)) _ RB (box_key _ _ _ _) Tryd.underlying23 rfl (infok8 _ hkl) ?_) | (refine wpList_load_part rfl 28 _ rfl w.heap.size 32 rfl 31 (boxr key nonce (.slice ue extra.length uec) (.slice ud d.length udc)) (0, 0) (irow .u8 (bl nonce)) _ RB (box_nonce _ _ _ _ hk) Tryd.underlying28 rfl hiN ?_) | fail)
  clear cE_ cD_
  refine (l_lives w0 (hS.below hw) (hK.below hw)).mono ?_
  rintro e_ w1 ⟨rfl, hb⟩
  replace RB := keep hb RB
  replace hw := Below.after hw hb
  have sz_w1 := hb.size
  clear hb
  have cE_ := (box_cell RB hk hno).1
  have cD_ := (box_cell RB hk hno).2
  go_wp2_with (first | (refine wpList_load_part rfl 23 _ rfl w.heap.size 0 rfl 31 (boxr key nonce (.slice ue extra.length uec) (.slice ud d.length udc)) (0, 0) (irow .u8 (bl key)) _ RB (box_key _ _ _ _) Tryd.underlying23 rfl (infok8 _ hkl) ?_) | (refine wpList_load_part rfl 28 _ rfl w.heap.size 32 rfl 31 (boxr key nonce (.slice ue extra.length uec) (.slice ud d.length udc)) (0, 0) (irow .u8 (bl nonce)) _ RB (box_nonce _ _ _ _ hk) Tryd.underlying28 rfl hiN ?_) | fail)
  clear cE_ cD_
  have cX := a_open key nonce extra d hk hno w1 _ _ (hS.below hw) (hK.below hw) (hEh.out _ hw) (hDh.out _ hw) (fun a l c h => by cases h; exact qE) (fun a l c h => by cases h; exact qD)
  rw [eLA.out, eEA.out] at cX
  refine cX.mono ?_
  rintro e_ w2 ⟨_, rfl, ⟨va, rfl, hOva⟩, hb⟩
  obtain ⟨aA, cA, rfl⟩ := slen_own hOva
  clear cX
  replace RB := keep hb RB
  replace hw := Below.after hw hb
  have sz_w2 := hb.size
  clear hb
  go_wp2
  go_ret
  exact ⟨rfl, hw⟩
theorem only_any (key nonce extra d : List B) (hk : key.length = 32) (hno : nonce.length = 16) (w : World) (ve vd : Value) (hS : Sta w) (hK : Kon w) (hE : BysC w ve extra) (hD : BysC w vd d) : Calls Tryd.prog 7 #[.agg (boxr key nonce ve vd)] w fun e w' => e = .returned (.bool true) ∧ Below w.heap.size w w' := by
  by_cases h : ope key nonce extra d = 0
  · exact only_ok key nonce extra d hk hno w ve vd hS hK hE hD h
  · exact only_no key nonce extra d hk hno w ve vd hS hK hE hD h

end Go.Proofs.YtamieopjigjfiaaDoor
