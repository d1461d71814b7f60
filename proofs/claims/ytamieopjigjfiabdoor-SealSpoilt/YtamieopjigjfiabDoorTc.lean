import Derived.Test.YtamieopjigjfiabDoorProg
import Derived.WalkKit
import Derived.WalkSpells
import Derived.WalkLawsBesides
import Derived.Lib.QuietBelow
import Derived.BigQuiet
import Derived.OrdersHeld
import Derived.OwnWalk
import Derived.Deep.RegionHeld3
import Derived.Test.YtamieopjigjfiabDoorKa
import Derived.Test.YtamieopjigjfiabDoorTb
namespace Go.Proofs.YtamieopjigjfiabDoor
set_option maxRecDepth 100000
open Go Go.RowKit Go.Sort
attribute [local go_sem] setCell_drewN alloc_drewN

theorem bits_eq (key nonce extra d other : List B) (k : Nat) (h1 : k < d.length) (h2 : k < other.length) : gb (bx key nonce extra d) k ^^^ gb (bx key nonce extra other) k = gb d k ^^^ gb other k := by
  rw [bx, bx, gb_app_l _ _ _ (by rw [cfx_len]; exact h1), gb_app_l _ _ _ (by rw [cfx_len]; exact h2), cfx, cfx, cry_get _ _ _ _ _ h1, cry_get _ _ _ _ _ h2]
  generalize sby (ks (ck key) 60) nonce (0 + k) = z
  generalize gb d k = x
  generalize gb other k = y
  rw [show x ^^^ z ^^^ (y ^^^ z) = x ^^^ y ^^^ (z ^^^ z) by ac_rfl, BitVec.xor_self, BitVec.xor_zero]
theorem bys_cell {W : World} {v : Value} {e : List B} (h : Bys W v (bl e)) (k : Nat) (hk : k < e.length) : ∃ b off cap, v = .slice (some ⟨b, off, none⟩) e.length cap ∧ b < W.heap.size ∧ W.cell? ⟨b, off + k, none⟩ = some (.int .u8 (bv (gb e k))) := by
  obtain ⟨ao, cap, rfl, _, hc, _⟩ := h
  rw [bl_len] at hc ⊢
  obtain ⟨b, off, rfl, hb, hcl⟩ := hc k hk
  exact ⟨b, off, cap, rfl, hb, by rw [hcl, bl_get]; rfl⟩
set_option maxRecDepth 100000 in
set_option maxHeartbeats 4000000 in
theorem bits_box (key nonce extra d other : List B) (hk : key.length = 32) (hno : nonce.length = 16) (w : World) (ve vd vo : Value) (hS : Sta w) (hK : Kon w) (hE : BysC w ve extra) (hD : BysC w vd d) (hO : BysC w vo other) (hlen : 2097216 < extra.length ∨ 2097216 < d.length) : Calls Tryd.prog 4 #[.agg (boxr key nonce ve vd), vo] w fun e w' => e = .returned (.bool true) ∧ Below w.heap.size w w' := by
  have hkl : (bl key).length = 32 := by rw [bl_len, hk]
  have hiN := info_bl infoN nonce hno
  obtain ⟨hE, qE⟩ := hE
  obtain ⟨hD, qD⟩ := hD
  obtain ⟨ue, uec, rfl⟩ : ∃ ao cap, ve = .slice ao extra.length cap := by
    obtain ⟨⟨ao, cap, h, _⟩, _⟩ := hE
    rw [bl_len] at h
    exact ⟨ao, cap, h⟩
  obtain ⟨ud, udc, rfl⟩ : ∃ ao cap, vd = .slice ao d.length cap := by
    obtain ⟨⟨ao, cap, h, _⟩, _⟩ := hD
    rw [bl_len] at h
    exact ⟨ao, cap, h⟩
  replace qE := qE _ _ _ rfl
  replace qD := qD _ _ _ rfl
  have hel : extra.length ≤ 140737488351232 := hE.2.1
  have hdl : d.length ≤ 140737488351232 := hD.2.1
  have RB := hp1_0 w (.cells (boxr key nonce (.slice ue extra.length uec) (.slice ud d.length udc)) 28)
  have hw : Below w.heap.size w (w.alloc (.cells (boxr key nonce (.slice ue extra.length uec) (.slice ud d.length udc)) 28)) := (Below.refl _ _).alloc (Nat.le_refl _) _
  have hEh : Hid (∀ V, Below w.heap.size w V → BysB V (.slice ue extra.length uec) extra) := hide (fun V h => hE.keep h)
  have hDh : Hid (∀ V, Below w.heap.size w V → BysB V (.slice ud d.length udc) d) := hide (fun V h => hD.keep h)
  clear hE hD
  obtain ⟨hO, qO⟩ := hO
  obtain ⟨uo, uoc, rfl⟩ : ∃ ao cap, vo = .slice ao other.length cap := by
    obtain ⟨⟨ao, cap, h, _⟩, _⟩ := hO
    rw [bl_len] at h
    exact ⟨ao, cap, h⟩
  have hol : other.length ≤ 140737488351232 := hO.2.1
  have hOh : Hid (∀ V, Below w.heap.size w V → BysB V (.slice uo other.length uoc) other) := hide (fun V h => hO.keep h)
  clear hO qO
  have hb_ : Hid (true = decide (2097216 < extra.length ∨ 2097216 < d.length)) := hide (decide_eq_true hlen).symm
  go_enter Tryd.func4, Tryd.ntmps4
  go_wp2_with (first | (refine wpList_box rfl 28 _ rfl _ rfl (bBox _) ?_; refine wpList_stay ?_) | fail)
  unfold WpStay
  generalize w.alloc (.cells (boxr key nonce (.slice ue extra.length uec) (.slice ud d.length udc)) 28) = w0 at *
  have cE_ := (box_cell RB hk hno).1
  have cD_ := (box_cell RB hk hno).2
  go_wp2_with (first | (refine wpList_load_part rfl 23 _ rfl w.heap.size 0 rfl 28 (boxr key nonce (.slice ue extra.length uec) (.slice ud d.length udc)) (0, 0) (irow .u8 (bl key)) _ RB (box_key _ _ _ _) Tryd.underlying23 rfl (infok8 _ hkl) ?_) | (refine wpList_load_part rfl 25 _ rfl w.heap.size 32 rfl 28 (boxr key nonce (.slice ue extra.length uec) (.slice ud d.length udc)) (0, 0) (irow .u8 (bl nonce)) _ RB (box_nonce _ _ _ _ hk) Tryd.underlying25 rfl hiN ?_) | fail)
  clear cE_ cD_
  refine (l_lives w0 (hS.below hw) (hK.below hw)).mono ?_
  rintro e_ w1 ⟨rfl, hb⟩
  replace RB := keep hb RB
  replace hw := Below.after hw hb
  have sz_w1 := hb.size
  clear hb
  go_wp2_with (first | (refine wpList_load_want rfl 28 _ rfl (w.heap.size) rfl 28 (boxr key nonce (.slice ue extra.length uec) (.slice ud d.length udc)) (0, 0) _ RB Tryd.underlying28 rfl (infoBx () hk hno) ?_) | fail)
  refine (l_long key nonce extra d hk hno w1 ue ud uec udc true hb_.out).mono ?_
  rintro e_ w2 ⟨rfl, hb⟩
  replace RB := keep hb RB
  replace hw := Below.after hw hb
  have sz_w2 := hb.size
  clear hb
  have cE_ := (box_cell RB hk hno).1
  have cD_ := (box_cell RB hk hno).2
  go_wp2_with (first | (refine wpList_load_part rfl 23 _ rfl w.heap.size 0 rfl 28 (boxr key nonce (.slice ue extra.length uec) (.slice ud d.length udc)) (0, 0) (irow .u8 (bl key)) _ RB (box_key _ _ _ _) Tryd.underlying23 rfl (infok8 _ hkl) ?_) | (refine wpList_load_part rfl 25 _ rfl w.heap.size 32 rfl 28 (boxr key nonce (.slice ue extra.length uec) (.slice ud d.length udc)) (0, 0) (irow .u8 (bl nonce)) _ RB (box_nonce _ _ _ _ hk) Tryd.underlying25 rfl hiN ?_) | fail)
  clear cE_ cD_
  refine (l_lives w2 (hS.below hw) (hK.below hw)).mono ?_
  rintro e_ w3 ⟨rfl, hb⟩
  replace RB := keep hb RB
  replace hw := Below.after hw hb
  have sz_w3 := hb.size
  clear hb
  go_wp2
  go_ret
  exact ⟨rfl, hw⟩
set_option maxRecDepth 100000 in
set_option maxHeartbeats 4000000 in
theorem bits_oth (key nonce extra d other : List B) (hk : key.length = 32) (hno : nonce.length = 16) (w : World) (ve vd vo : Value) (hS : Sta w) (hK : Kon w) (hE : BysC w ve extra) (hD : BysC w vd d) (hO : BysC w vo other) (hnl : ¬ (2097216 < extra.length ∨ 2097216 < d.length)) (hlen : 2097216 < other.length) : Calls Tryd.prog 4 #[.agg (boxr key nonce ve vd), vo] w fun e w' => e = .returned (.bool true) ∧ Below w.heap.size w w' := by
  have hkl : (bl key).length = 32 := by rw [bl_len, hk]
  have hiN := info_bl infoN nonce hno
  obtain ⟨hE, qE⟩ := hE
  obtain ⟨hD, qD⟩ := hD
  obtain ⟨ue, uec, rfl⟩ : ∃ ao cap, ve = .slice ao extra.length cap := by
    obtain ⟨⟨ao, cap, h, _⟩, _⟩ := hE
    rw [bl_len] at h
    exact ⟨ao, cap, h⟩
  obtain ⟨ud, udc, rfl⟩ : ∃ ao cap, vd = .slice ao d.length cap := by
    obtain ⟨⟨ao, cap, h, _⟩, _⟩ := hD
    rw [bl_len] at h
    exact ⟨ao, cap, h⟩
  replace qE := qE _ _ _ rfl
  replace qD := qD _ _ _ rfl
  have hel : extra.length ≤ 140737488351232 := hE.2.1
  have hdl : d.length ≤ 140737488351232 := hD.2.1
  have RB := hp1_0 w (.cells (boxr key nonce (.slice ue extra.length uec) (.slice ud d.length udc)) 28)
  have hw : Below w.heap.size w (w.alloc (.cells (boxr key nonce (.slice ue extra.length uec) (.slice ud d.length udc)) 28)) := (Below.refl _ _).alloc (Nat.le_refl _) _
  have hEh : Hid (∀ V, Below w.heap.size w V → BysB V (.slice ue extra.length uec) extra) := hide (fun V h => hE.keep h)
  have hDh : Hid (∀ V, Below w.heap.size w V → BysB V (.slice ud d.length udc) d) := hide (fun V h => hD.keep h)
  clear hE hD
  obtain ⟨hO, qO⟩ := hO
  obtain ⟨uo, uoc, rfl⟩ : ∃ ao cap, vo = .slice ao other.length cap := by
    obtain ⟨⟨ao, cap, h, _⟩, _⟩ := hO
    rw [bl_len] at h
    exact ⟨ao, cap, h⟩
  have hol : other.length ≤ 140737488351232 := hO.2.1
  have hOh : Hid (∀ V, Below w.heap.size w V → BysB V (.slice uo other.length uoc) other) := hide (fun V h => hO.keep h)
  clear hO qO
  have hb_ : Hid (false = decide (2097216 < extra.length ∨ 2097216 < d.length)) := hide (decide_eq_false hnl).symm
  have q9 : decide ((2097216 : Int) < (other.length : Int)) = true := by simp; omega
  go_enter Tryd.func4, Tryd.ntmps4
  go_wp2_with (first | (refine wpList_box rfl 28 _ rfl _ rfl (bBox _) ?_; refine wpList_stay ?_) | fail)
  unfold WpStay
  generalize w.alloc (.cells (boxr key nonce (.slice ue extra.length uec) (.slice ud d.length udc)) 28) = w0 at *
  have cE_ := (box_cell RB hk hno).1
  have cD_ := (box_cell RB hk hno).2
  go_wp2_with (first | (refine wpList_load_part rfl 23 _ rfl w.heap.size 0 rfl 28 (boxr key nonce (.slice ue extra.length uec) (.slice ud d.length udc)) (0, 0) (irow .u8 (bl key)) _ RB (box_key _ _ _ _) Tryd.underlying23 rfl (infok8 _ hkl) ?_) | (refine wpList_load_part rfl 25 _ rfl w.heap.size 32 rfl 28 (boxr key nonce (.slice ue extra.length uec) (.slice ud d.length udc)) (0, 0) (irow .u8 (bl nonce)) _ RB (box_nonce _ _ _ _ hk) Tryd.underlying25 rfl hiN ?_) | fail)
  clear cE_ cD_
  refine (l_lives w0 (hS.below hw) (hK.below hw)).mono ?_
  rintro e_ w1 ⟨rfl, hb⟩
  replace RB := keep hb RB
  replace hw := Below.after hw hb
  have sz_w1 := hb.size
  clear hb
  go_wp2_with (first | (refine wpList_load_want rfl 28 _ rfl (w.heap.size) rfl 28 (boxr key nonce (.slice ue extra.length uec) (.slice ud d.length udc)) (0, 0) _ RB Tryd.underlying28 rfl (infoBx () hk hno) ?_) | fail)
  refine (l_long key nonce extra d hk hno w1 ue ud uec udc false hb_.out).mono ?_
  rintro e_ w2 ⟨rfl, hb⟩
  replace RB := keep hb RB
  replace hw := Below.after hw hb
  have sz_w2 := hb.size
  clear hb
  have cE_ := (box_cell RB hk hno).1
  have cD_ := (box_cell RB hk hno).2
  go_wp2_with (first | (refine wpList_load_part rfl 23 _ rfl w.heap.size 0 rfl 28 (boxr key nonce (.slice ue extra.length uec) (.slice ud d.length udc)) (0, 0) (irow .u8 (bl key)) _ RB (box_key _ _ _ _) Tryd.underlying23 rfl (infok8 _ hkl) ?_) | (refine wpList_load_part rfl 25 _ rfl w.heap.size 32 rfl 28 (boxr key nonce (.slice ue extra.length uec) (.slice ud d.length udc)) (0, 0) (irow .u8 (bl nonce)) _ RB (box_nonce _ _ _ _ hk) Tryd.underlying25 rfl hiN ?_) | fail)
  clear cE_ cD_
  refine (l_lives w2 (hS.below hw) (hK.below hw)).mono ?_
  rintro e_ w3 ⟨rfl, hb⟩
  replace RB := keep hb RB
  replace hw := Below.after hw hb
  have sz_w3 := hb.size
  clear hb
  go_wp2
  go_ret
  exact ⟨rfl, hw⟩
set_option maxRecDepth 100000 in
set_option maxHeartbeats 4000000 in
theorem bits_ok (key nonce extra d other : List B) (hk : key.length = 32) (hno : nonce.length = 16) (w : World) (ve vd vo : Value) (hS : Sta w) (hK : Kon w) (hE : BysC w ve extra) (hD : BysC w vd d) (hO : BysC w vo other) (hlen : extra.length ≤ 2097216 ∧ d.length ≤ 2097216 ∧ other.length ≤ 2097216) : Calls Tryd.prog 4 #[.agg (boxr key nonce ve vd), vo] w fun e w' => e = .returned (.bool true) ∧ Below w.heap.size w w' := by
  have hkl : (bl key).length = 32 := by rw [bl_len, hk]
  have hiN := info_bl infoN nonce hno
  obtain ⟨hE, qE⟩ := hE
  obtain ⟨hD, qD⟩ := hD
  obtain ⟨ue, uec, rfl⟩ : ∃ ao cap, ve = .slice ao extra.length cap := by
    obtain ⟨⟨ao, cap, h, _⟩, _⟩ := hE
    rw [bl_len] at h
    exact ⟨ao, cap, h⟩
  obtain ⟨ud, udc, rfl⟩ : ∃ ao cap, vd = .slice ao d.length cap := by
    obtain ⟨⟨ao, cap, h, _⟩, _⟩ := hD
    rw [bl_len] at h
    exact ⟨ao, cap, h⟩
  replace qE := qE _ _ _ rfl
  replace qD := qD _ _ _ rfl
  have hel : extra.length ≤ 140737488351232 := hE.2.1
  have hdl : d.length ≤ 140737488351232 := hD.2.1
  have RB := hp1_0 w (.cells (boxr key nonce (.slice ue extra.length uec) (.slice ud d.length udc)) 28)
  have hw : Below w.heap.size w (w.alloc (.cells (boxr key nonce (.slice ue extra.length uec) (.slice ud d.length udc)) 28)) := (Below.refl _ _).alloc (Nat.le_refl _) _
  have hEh : Hid (∀ V, Below w.heap.size w V → BysB V (.slice ue extra.length uec) extra) := hide (fun V h => hE.keep h)
  have hDh : Hid (∀ V, Below w.heap.size w V → BysB V (.slice ud d.length udc) d) := hide (fun V h => hD.keep h)
  clear hE hD
  obtain ⟨hO, qO⟩ := hO
  obtain ⟨uo, uoc, rfl⟩ : ∃ ao cap, vo = .slice ao other.length cap := by
    obtain ⟨⟨ao, cap, h, _⟩, _⟩ := hO
    rw [bl_len] at h
    exact ⟨ao, cap, h⟩
  have hol : other.length ≤ 140737488351232 := hO.2.1
  have hOh : Hid (∀ V, Below w.heap.size w V → BysB V (.slice uo other.length uoc) other) := hide (fun V h => hO.keep h)
  clear hO qO
  have hb_ : Hid (false = decide (2097216 < extra.length ∨ 2097216 < d.length)) := hide (decide_eq_false (by omega)).symm
  have q9 : decide ((2097216 : Int) < (other.length : Int)) = false := by simp; omega
  obtain ⟨LA, eLA⟩ : ∃ L, bx key nonce extra d = L := ⟨_, rfl⟩
  obtain ⟨LB, eLB⟩ : ∃ L, bx key nonce extra other = L := ⟨_, rfl⟩
  have s1 : slr key nonce extra d = LA := by rw [← eLA]; exact (slr_ok key nonce extra d hlen.1 hlen.2.1).1
  have s2 : sle extra d = 0 := (slr_ok key nonce extra d hlen.1 hlen.2.1).2
  have s3 : slr key nonce extra other = LB := by rw [← eLB]; exact (slr_ok key nonce extra other hlen.1 hlen.2.2).1
  have s4 : sle extra other = 0 := (slr_ok key nonce extra other hlen.1 hlen.2.2).2
  have lA : Hid (LA.length = d.length + 16) := hide (by rw [← eLA, bx_len])
  have lB : Hid (LB.length = other.length + 16) := hide (by rw [← eLB, bx_len])
  have hbit : Hid (∀ k, k < d.length → k < other.length → gb LA k ^^^ gb LB k = gb d k ^^^ gb other k) := hide (fun k h1 h2 => by rw [← eLA, ← eLB]; exact bits_eq key nonce extra d other k h1 h2)
  clear eLA eLB
  go_enter Tryd.func4, Tryd.ntmps4
  go_wp2_with (first | (refine wpList_box rfl 28 _ rfl _ rfl (bBox _) ?_; refine wpList_stay ?_) | fail)
  unfold WpStay
  generalize w.alloc (.cells (boxr key nonce (.slice ue extra.length uec) (.slice ud d.length udc)) 28) = w0 at *
  have cE_ := (box_cell RB hk hno).1
  have cD_ := (box_cell RB hk hno).2
  go_wp2_with (first | (refine wpList_load_part rfl 23 _ rfl w.heap.size 0 rfl 28 (boxr key nonce (.slice ue extra.length uec) (.slice ud d.length udc)) (0, 0) (irow .u8 (bl key)) _ RB (box_key _ _ _ _) Tryd.underlying23 rfl (infok8 _ hkl) ?_) | (refine wpList_load_part rfl 25 _ rfl w.heap.size 32 rfl 28 (boxr key nonce (.slice ue extra.length uec) (.slice ud d.length udc)) (0, 0) (irow .u8 (bl nonce)) _ RB (box_nonce _ _ _ _ hk) Tryd.underlying25 rfl hiN ?_) | fail)
  clear cE_ cD_
  refine (l_lives w0 (hS.below hw) (hK.below hw)).mono ?_
  rintro e_ w1 ⟨rfl, hb⟩
  replace RB := keep hb RB
  replace hw := Below.after hw hb
  have sz_w1 := hb.size
  clear hb
  go_wp2_with (first | (refine wpList_load_want rfl 28 _ rfl (w.heap.size) rfl 28 (boxr key nonce (.slice ue extra.length uec) (.slice ud d.length udc)) (0, 0) _ RB Tryd.underlying28 rfl (infoBx () hk hno) ?_) | fail)
  refine (l_long key nonce extra d hk hno w1 ue ud uec udc false hb_.out).mono ?_
  rintro e_ w2 ⟨rfl, hb⟩
  replace RB := keep hb RB
  replace hw := Below.after hw hb
  have sz_w2 := hb.size
  clear hb
  have cE_ := (box_cell RB hk hno).1
  have cD_ := (box_cell RB hk hno).2
  go_wp2_with (first | (refine wpList_load_part rfl 23 _ rfl w.heap.size 0 rfl 28 (boxr key nonce (.slice ue extra.length uec) (.slice ud d.length udc)) (0, 0) (irow .u8 (bl key)) _ RB (box_key _ _ _ _) Tryd.underlying23 rfl (infok8 _ hkl) ?_) | (refine wpList_load_part rfl 25 _ rfl w.heap.size 32 rfl 28 (boxr key nonce (.slice ue extra.length uec) (.slice ud d.length udc)) (0, 0) (irow .u8 (bl nonce)) _ RB (box_nonce _ _ _ _ hk) Tryd.underlying25 rfl hiN ?_) | fail)
  clear cE_ cD_
  have cX := a_seal key nonce extra d hk hno w2 _ _ (hS.below hw) (hK.below hw) (hEh.out _ hw) (hDh.out _ hw) (fun a l c h => by cases h; exact qE)
  rw [s1, s2] at cX
  refine cX.mono ?_
  rintro e_ w3 ⟨_, rfl, ⟨va, rfl, hOva⟩, hb⟩
  obtain ⟨aA, cA, rfl⟩ := slen_own hOva
  clear cX s1 s2
  replace RB := keep hb RB
  replace hw := Below.after hw hb
  have sz_w3 := hb.size
  clear hb
  have cE_ := (box_cell RB hk hno).1
  have cD_ := (box_cell RB hk hno).2
  go_wp2_with (first | (refine wpList_load_part rfl 23 _ rfl w.heap.size 0 rfl 28 (boxr key nonce (.slice ue extra.length uec) (.slice ud d.length udc)) (0, 0) (irow .u8 (bl key)) _ RB (box_key _ _ _ _) Tryd.underlying23 rfl (infok8 _ hkl) ?_) | (refine wpList_load_part rfl 25 _ rfl w.heap.size 32 rfl 28 (boxr key nonce (.slice ue extra.length uec) (.slice ud d.length udc)) (0, 0) (irow .u8 (bl nonce)) _ RB (box_nonce _ _ _ _ hk) Tryd.underlying25 rfl hiN ?_) | fail)
  clear cE_ cD_
  have cX := a_seal key nonce extra other hk hno w3 _ _ (hS.below hw) (hK.below hw) (hEh.out _ hw) (hOh.out _ hw) (fun a l c h => by cases h; exact qE)
  rw [s3, s4] at cX
  refine cX.mono ?_
  rintro e_ w4 ⟨_, rfl, ⟨vb, rfl, hOvb⟩, hb⟩
  obtain ⟨aB, cB, rfl⟩ := slen_own hOvb
  clear cX s3 s4
  replace RB := keep hb RB
  replace hOva := hOva.keep hb
  replace hw := Below.after hw hb
  have sz_w4 := hb.size
  clear hb
  have hwr : IntKind.i64.wrap ((d.length : Int) + 16) = (d.length : Int) + 16 := by rw [IntKind.wrap_i64]; omega
  have hwr2 : IntKind.i64.wrap ((other.length : Int) + 16) = (other.length : Int) + 16 := by rw [IntKind.wrap_i64]; omega
  have hcA : ((LA.length : Nat) : Int) = (d.length : Int) + 16 := by rw [lA.out]; omega
  have hcB : ((LB.length : Nat) : Int) = (other.length : Int) + 16 := by rw [lB.out]; omega
  have cE_ := (box_cell RB hk hno).1
  have cD_ := (box_cell RB hk hno).2
  go_wp2_with (fail)
  clear cE_ cD_
  clear hwr hwr2 hcA hcB q9 hb_
  obtain ⟨ba, eba⟩ : ∃ n, n = w2.heap.size := ⟨_, rfl⟩
  obtain ⟨bb, ebb⟩ : ∃ n, n = w3.heap.size := ⟨_, rfl⟩
  rw [← eba] at hOva
  rw [← ebb] at hOvb
  clear eba ebb
  go_loopw [9] (fun i wr => ∃ k : Nat, k ≤ d.length ∧ i = .int .i64 k ∧ wr.heap[w.heap.size]? = some (.cells (boxr key nonce (.slice ue extra.length uec) (.slice ud d.length udc)) 28 (0, 0)) ∧ Own wr ba (.slice aA LA.length cA) LA ∧ Own wr bb (.slice aB LB.length cB) LB ∧ Below w.heap.size w wr) (fun i _ => d.length - (intOf i).toNat)
  case atStart => exact ⟨0, by omega, rfl, RB, hOva, hOvb, hw⟩
  case round =>
    clear RB hOva hOvb hw
    obtain ⟨k, hk2, rfl, RB, hOva, hOvb, hw⟩ := hrel
    by_cases hlt : k < d.length
    · have hd : decide ((k : Int) < (d.length : Int)) = true := by simp; omega
      by_cases hlt2 : k < other.length
      · have hd2 : decide ((k : Int) < (other.length : Int)) = true := by simp; omega
        have e1 := hbit.out k hlt hlt2
        have kA : k < LA.length := by rw [lA.out]; omega
        have kB : k < LB.length := by rw [lB.out]; omega
        obtain ⟨b1, o1, y1, ey1, lb1, c1⟩ := bys_cell hOva.bys k kA
        obtain ⟨b2, o2, y2, ey2, lb2, c2⟩ := bys_cell hOvb.bys k kB
        obtain ⟨b3, o3, y3, ey3, lb3, c3⟩ := bys_cell (hDh.out _ hw).1 k hlt
        obtain ⟨b4, o4, y4, ey4, lb4, c4⟩ := bys_cell (hOh.out _ hw).1 k hlt2
        cases ey1
        cases ey2
        cases ey3
        cases ey4
        have cE_ := (box_cell RB hk hno).1
        have cD_ := (box_cell RB hk hno).2
        go_wp2_with (fail)
        clear cE_ cD_
        have hbd : Below wr.heap.size wr wr.drew := below_drN (Below.refl _ _) 1
        replace RB := keep hbd RB
        replace hOva := hOva.keep hbd
        replace hOvb := hOvb.keep hbd
        replace c1 : wr.drew.cell? ⟨b1, o1 + k, none⟩ = _ := (hbd.cell (p := ⟨b1, o1 + k, none⟩) lb1).trans c1
        replace c2 : wr.drew.cell? ⟨b2, o2 + k, none⟩ = _ := (hbd.cell (p := ⟨b2, o2 + k, none⟩) lb2).trans c2
        replace c3 : wr.drew.cell? ⟨b3, o3 + k, none⟩ = _ := (hbd.cell (p := ⟨b3, o3 + k, none⟩) lb3).trans c3
        replace c4 : wr.drew.cell? ⟨b4, o4 + k, none⟩ = _ := (hbd.cell (p := ⟨b4, o4 + k, none⟩) lb4).trans c4
        replace hw := Below.after hw hbd
        clear hbd
        refine wp_region_noPanic ?_
        refine wp_region_held (S := fun W => W.heap[w.heap.size]? = some (.cells (boxr key nonce (.slice ue extra.length uec) (.slice (some ⟨b3, o3, none⟩) d.length udc)) 28 (0, 0)) ∧ W.cell? ⟨b1, o1 + k, none⟩ = some (.int .u8 (bv (gb LA k))) ∧ W.cell? ⟨b2, o2 + k, none⟩ = some (.int .u8 (bv (gb LB k))) ∧ W.cell? ⟨b3, o3 + k, none⟩ = some (.int .u8 (bv (gb d k))) ∧ W.cell? ⟨b4, o4 + k, none⟩ = some (.int .u8 (bv (gb other k)))) (by kernel_rfl) ?_
        change wpAnyH _ _ _ _ _ _ _ _ (World.drew _)
        generalize wr.drew = wd at *
        refine wpAnyH_take (i := 0) (v := ?v1) rfl (by kernel_rfl) (by kernel_rfl) (by kernel_rfl) (fun _ _ _ h => h) (Or.inl ⟨by rfl, ?y1⟩) (⟨RB, c1, c2, c3, c4⟩) ?r1
        case y1 =>
          intro w_ hS_
          go_simp
          try with_reducible rfl
        simp only [Act.put, List.getElem_toArray, List.getElem_cons_zero, List.setIfInBounds_toArray, List.set_cons_succ, List.set_cons_zero]
        refine wpAnyH_take (i := 1) (v := ?v2) rfl (by kernel_rfl) (by kernel_rfl) (by kernel_rfl) (fun _ _ _ h => h) (Or.inl ⟨by rfl, ?y2⟩) (⟨RB, c1, c2, c3, c4⟩) ?r2
        case y2 =>
          intro w_ hS_
          go_simp
          try with_reducible rfl
        simp only [Act.put, List.getElem_toArray, List.getElem_cons_succ, List.getElem_cons_zero, List.setIfInBounds_toArray, List.set_cons_succ, List.set_cons_zero]
        refine wpAnyH_take (i := 2) (v := ?v3) rfl (by kernel_rfl) (by kernel_rfl) (by kernel_rfl) (fun _ _ _ h => h) (Or.inl ⟨by rfl, ?y3⟩) (⟨RB, c1, c2, c3, c4⟩) ?r3
        case y3 =>
          intro w_ hS_
          go_simp
          try with_reducible rfl
        simp only [Act.put, List.getElem_toArray, List.getElem_cons_succ, List.getElem_cons_zero, List.setIfInBounds_toArray, List.set_cons_succ, List.set_cons_zero]
        refine wpAnyH_take (i := 3) (v := .int .u8 (bv (gb LA k))) rfl (by kernel_rfl) (by kernel_rfl) (by kernel_rfl) (fun _ _ _ h => h) (Or.inl ⟨by rfl, ?y4⟩) (⟨RB, c1, c2, c3, c4⟩) ?r4
        case y4 =>
          intro w_ hS_
          have c_ := hS_.2.1
          go_simp
          try with_reducible rfl
        simp only [Act.put, List.getElem_toArray, List.getElem_cons_succ, List.getElem_cons_zero, List.setIfInBounds_toArray, List.set_cons_succ, List.set_cons_zero]
        refine wpAnyH_take (i := 4) (v := ?v5) rfl (by kernel_rfl) (by kernel_rfl) (by kernel_rfl) (fun _ _ _ h => h) (Or.inl ⟨by rfl, ?y5⟩) (⟨RB, c1, c2, c3, c4⟩) ?r5
        case y5 =>
          intro w_ hS_
          go_simp
          try with_reducible rfl
        simp only [Act.put, List.getElem_toArray, List.getElem_cons_succ, List.getElem_cons_zero, List.setIfInBounds_toArray, List.set_cons_succ, List.set_cons_zero]
        refine wpAnyH_take (i := 5) (v := ?v6) rfl (by kernel_rfl) (by kernel_rfl) (by kernel_rfl) (fun _ _ _ h => h) (Or.inl ⟨by rfl, ?y6⟩) (⟨RB, c1, c2, c3, c4⟩) ?r6
        case y6 =>
          intro w_ hS_
          go_simp
          try with_reducible rfl
        simp only [Act.put, List.getElem_toArray, List.getElem_cons_succ, List.getElem_cons_zero, List.setIfInBounds_toArray, List.set_cons_succ, List.set_cons_zero]
        refine wpAnyH_take (i := 6) (v := ?v7) rfl (by kernel_rfl) (by kernel_rfl) (by kernel_rfl) (fun _ _ _ h => h) (Or.inl ⟨by rfl, ?y7⟩) (⟨RB, c1, c2, c3, c4⟩) ?r7
        case y7 =>
          intro w_ hS_
          go_simp
          try with_reducible rfl
        simp only [Act.put, List.getElem_toArray, List.getElem_cons_succ, List.getElem_cons_zero, List.setIfInBounds_toArray, List.set_cons_succ, List.set_cons_zero]
        refine wpAnyH_take (i := 7) (v := .int .u8 (bv (gb LB k))) rfl (by kernel_rfl) (by kernel_rfl) (by kernel_rfl) (fun _ _ _ h => h) (Or.inl ⟨by rfl, ?y8⟩) (⟨RB, c1, c2, c3, c4⟩) ?r8
        case y8 =>
          intro w_ hS_
          have c_ := hS_.2.2.1
          go_simp
          try with_reducible rfl
        simp only [Act.put, List.getElem_toArray, List.getElem_cons_succ, List.getElem_cons_zero, List.setIfInBounds_toArray, List.set_cons_succ, List.set_cons_zero]
        refine wpAnyH_take (i := 8) (v := .int .u8 (bv (gb d k ^^^ gb other k))) rfl (by kernel_rfl) (by kernel_rfl) (by kernel_rfl) (fun _ _ _ h => h) (Or.inl ⟨by rfl, ?y9⟩) (⟨RB, c1, c2, c3, c4⟩) ?r9
        case y9 =>
          intro w_ hS_
          go_simp
          rw [xor8, e1]
        simp only [Act.put, List.getElem_toArray, List.getElem_cons_succ, List.getElem_cons_zero, List.setIfInBounds_toArray, List.set_cons_succ, List.set_cons_zero]
        refine wpAnyH_take (i := 9) (v := ?v10) rfl (by kernel_rfl) (by kernel_rfl) (by kernel_rfl) (fun _ _ _ h => h) (Or.inl ⟨by rfl, ?y10⟩) (⟨RB, c1, c2, c3, c4⟩) ?r10
        case y10 =>
          intro w_ hS_
          go_simp
          try with_reducible rfl
        simp only [Act.put, List.getElem_toArray, List.getElem_cons_succ, List.getElem_cons_zero, List.setIfInBounds_toArray, List.set_cons_succ, List.set_cons_zero]
        refine wpAnyH_take (i := 10) (v := .slice (some ⟨b3, o3, none⟩) d.length udc) rfl (by kernel_rfl) (by kernel_rfl) (by kernel_rfl) (fun _ _ _ h => h) (Or.inl ⟨by rfl, ?y11⟩) (⟨RB, c1, c2, c3, c4⟩) ?r11
        case y11 =>
          intro w_ hS_
          have c_ := (box_cell hS_.1 hk hno).2
          go_simp
          try with_reducible rfl
        simp only [Act.put, List.getElem_toArray, List.getElem_cons_succ, List.getElem_cons_zero, List.setIfInBounds_toArray, List.set_cons_succ, List.set_cons_zero]
        refine wpAnyH_take (i := 11) (v := ?v12) rfl (by kernel_rfl) (by kernel_rfl) (by kernel_rfl) (fun _ _ _ h => h) (Or.inl ⟨by rfl, ?y12⟩) (⟨RB, c1, c2, c3, c4⟩) ?r12
        case y12 =>
          intro w_ hS_
          go_simp
          try with_reducible rfl
        simp only [Act.put, List.getElem_toArray, List.getElem_cons_succ, List.getElem_cons_zero, List.setIfInBounds_toArray, List.set_cons_succ, List.set_cons_zero]
        refine wpAnyH_take (i := 12) (v := ?v13) rfl (by kernel_rfl) (by kernel_rfl) (by kernel_rfl) (fun _ _ _ h => h) (Or.inl ⟨by rfl, ?y13⟩) (⟨RB, c1, c2, c3, c4⟩) ?r13
        case y13 =>
          intro w_ hS_
          go_simp
          try with_reducible rfl
        simp only [Act.put, List.getElem_toArray, List.getElem_cons_succ, List.getElem_cons_zero, List.setIfInBounds_toArray, List.set_cons_succ, List.set_cons_zero]
        refine wpAnyH_take (i := 13) (v := .int .u8 (bv (gb d k))) rfl (by kernel_rfl) (by kernel_rfl) (by kernel_rfl) (fun _ _ _ h => h) (Or.inl ⟨by rfl, ?y14⟩) (⟨RB, c1, c2, c3, c4⟩) ?r14
        case y14 =>
          intro w_ hS_
          have c_ := hS_.2.2.2.1
          go_simp
          try with_reducible rfl
        simp only [Act.put, List.getElem_toArray, List.getElem_cons_succ, List.getElem_cons_zero, List.setIfInBounds_toArray, List.set_cons_succ, List.set_cons_zero]
        refine wpAnyH_take (i := 14) (v := ?v15) rfl (by kernel_rfl) (by kernel_rfl) (by kernel_rfl) (fun _ _ _ h => h) (Or.inl ⟨by rfl, ?y15⟩) (⟨RB, c1, c2, c3, c4⟩) ?r15
        case y15 =>
          intro w_ hS_
          go_simp
          try with_reducible rfl
        simp only [Act.put, List.getElem_toArray, List.getElem_cons_succ, List.getElem_cons_zero, List.setIfInBounds_toArray, List.set_cons_succ, List.set_cons_zero]
        refine wpAnyH_take (i := 15) (v := ?v16) rfl (by kernel_rfl) (by kernel_rfl) (by kernel_rfl) (fun _ _ _ h => h) (Or.inl ⟨by rfl, ?y16⟩) (⟨RB, c1, c2, c3, c4⟩) ?r16
        case y16 =>
          intro w_ hS_
          go_simp
          try with_reducible rfl
        simp only [Act.put, List.getElem_toArray, List.getElem_cons_succ, List.getElem_cons_zero, List.setIfInBounds_toArray, List.set_cons_succ, List.set_cons_zero]
        refine wpAnyH_take (i := 16) (v := ?v17) rfl (by kernel_rfl) (by kernel_rfl) (by kernel_rfl) (fun _ _ _ h => h) (Or.inl ⟨by rfl, ?y17⟩) (⟨RB, c1, c2, c3, c4⟩) ?r17
        case y17 =>
          intro w_ hS_
          go_simp
          try with_reducible rfl
        simp only [Act.put, List.getElem_toArray, List.getElem_cons_succ, List.getElem_cons_zero, List.setIfInBounds_toArray, List.set_cons_succ, List.set_cons_zero]
        refine wpAnyH_take (i := 17) (v := .int .u8 (bv (gb other k))) rfl (by kernel_rfl) (by kernel_rfl) (by kernel_rfl) (fun _ _ _ h => h) (Or.inl ⟨by rfl, ?y18⟩) (⟨RB, c1, c2, c3, c4⟩) ?r18
        case y18 =>
          intro w_ hS_
          have c_ := hS_.2.2.2.2
          go_simp
          try with_reducible rfl
        simp only [Act.put, List.getElem_toArray, List.getElem_cons_succ, List.getElem_cons_zero, List.setIfInBounds_toArray, List.set_cons_succ, List.set_cons_zero]
        refine wpAnyH_take (i := 18) (v := .int .u8 (bv (gb d k ^^^ gb other k))) rfl (by kernel_rfl) (by kernel_rfl) (by kernel_rfl) (fun _ _ _ h => h) (Or.inl ⟨by rfl, ?y19⟩) (⟨RB, c1, c2, c3, c4⟩) ?r19
        case y19 =>
          intro w_ hS_
          go_simp
          rw [xor8]
        simp only [Act.put, List.getElem_toArray, List.getElem_cons_succ, List.getElem_cons_zero, List.setIfInBounds_toArray, List.set_cons_succ, List.set_cons_zero]
        refine wpAnyH_take (i := 19) (v := ?v20) rfl (by kernel_rfl) (by kernel_rfl) (by kernel_rfl) (fun _ _ _ h => h) (Or.inl ⟨by rfl, ?y20⟩) (⟨RB, c1, c2, c3, c4⟩) ?r20
        case y20 =>
          intro w_ hS_
          go_simp
          try with_reducible rfl
        simp only [Act.put, List.getElem_toArray, List.getElem_cons_succ, List.getElem_cons_zero, List.setIfInBounds_toArray, List.set_cons_succ, List.set_cons_zero]
        refine wpAnyH_done (by kernel_rfl) ?_ _
        refine NoPanic.normal ?_
        clear c1 c2 c3 c4 lb1 lb2 lb3 lb4 e1
        go_wp2
        refine ⟨⟨k + 1, by omega, by go_num, RB, hOva, hOvb, hw⟩, ?_⟩
        simp [intOf]; omega
      · have hd2 : decide ((k : Int) < (other.length : Int)) = false := by simp; omega
        have cE_ := (box_cell RB hk hno).1
        have cD_ := (box_cell RB hk hno).2
        go_wp2
        go_ret
        exact ⟨rfl, hw⟩
    · have hd : decide ((k : Int) < (d.length : Int)) = false := by simp; omega
      have cE_ := (box_cell RB hk hno).1
      have cD_ := (box_cell RB hk hno).2
      go_wp2
      go_ret
      exact ⟨rfl, hw⟩
theorem bits_any (key nonce extra d other : List B) (hk : key.length = 32) (hno : nonce.length = 16) (w : World) (ve vd vo : Value) (hS : Sta w) (hK : Kon w) (hE : BysC w ve extra) (hD : BysC w vd d) (hO : BysC w vo other) : Calls Tryd.prog 4 #[.agg (boxr key nonce ve vd), vo] w fun e w' => e = .returned (.bool true) ∧ Below w.heap.size w w' := by
  by_cases h : 2097216 < extra.length ∨ 2097216 < d.length
  · exact bits_box key nonce extra d other hk hno w ve vd vo hS hK hE hD hO h
  by_cases h2 : 2097216 < other.length
  · exact bits_oth key nonce extra d other hk hno w ve vd vo hS hK hE hD hO h h2
  · exact bits_ok key nonce extra d other hk hno w ve vd vo hS hK hE hD hO (by omega)

end Go.Proofs.YtamieopjigjfiabDoor
