import Derived.Test.YtamieopjigjfiabDoorProg
import Derived.WalkKit
import Derived.WalkSpells
import Derived.WalkLawsBesides
import Derived.Lib.QuietBelow
import Derived.BigQuiet
import Derived.OrdersHeld
import Derived.OwnWalk
import Derived.Deep.RegionHeld3
import Derived.Test.YtamieopjigjfiabDoorKa
import Derived.Test.YtamieopjigjfiabDoorSz
import Derived.Test.YtamieopjigjfiabDoorWo
namespace Go.Proofs.YtamieopjigjfiabDoor
set_option maxRecDepth 100000
open Go Go.RowKit Go.Sort
attribute [local go_sem] setCell_drewN alloc_drewN

set_option maxRecDepth 100000 in
set_option maxHeartbeats 4000000 in
theorem a_seal_long (key nonce extra plain : List B) (w : World) (ve vp : Value) (hE : BysB w ve extra) (hP : BysB w vp plain) (hlong : 2097216 < extra.length ∨ 2097216 < plain.length) : Calls Tryd.prog 8 #[.agg (irow .u8 (bl key)), .agg (irow .u8 (bl nonce)), ve, vp] w fun e w' => e = .returned (.tuple #[.slice none 0 0, .int .i64 2]) ∧ Below w.heap.size w w' := by
  obtain ⟨ue, uec, rfl⟩ : ∃ ao cap, ve = .slice ao extra.length cap := by
    obtain ⟨⟨ao, cap, h, _⟩, _⟩ := hE
    rw [bl_len] at h
    exact ⟨ao, cap, h⟩
  obtain ⟨up, upc, rfl⟩ : ∃ ao cap, vp = .slice ao plain.length cap := by
    obtain ⟨⟨ao, cap, h, _⟩, _⟩ := hP
    rw [bl_len] at h
    exact ⟨ao, cap, h⟩
  have R0 := hp2_0 w (.cells (irow .u8 (bl key)) 23) (.cells (irow .u8 (bl nonce)) 25)
  have R1 := hp2_1 w (.cells (irow .u8 (bl key)) 23) (.cells (irow .u8 (bl nonce)) 25)
  have hw : Below w.heap.size w ((w.alloc (.cells (irow .u8 (bl key)) 23)).alloc (.cells (irow .u8 (bl nonce)) 25)) := (((Below.refl _ _).alloc (Nat.le_refl _) _).alloc (by simp) _)
  by_cases h1 : 2097216 < extra.length
  · have q1 : decide ((2097216 : Int) < (extra.length : Int)) = true := by simp; omega
    clear hlong hE hP
    go_enter Tryd.func8, Tryd.ntmps8
    go_wp2_with (first | (refine wpList_box rfl 23 _ rfl _ rfl (bK _) ?_) | (refine wpList_box rfl 25 _ rfl _ rfl (bNo _) ?_) | fail)
    go_ret2
    exact ⟨rfl, hw⟩
  · have q1 : decide ((2097216 : Int) < (extra.length : Int)) = false := by simp; omega
    have q2 : decide ((2097216 : Int) < (plain.length : Int)) = true := by simp; omega
    clear hlong hE hP
    go_enter Tryd.func8, Tryd.ntmps8
    go_wp2_with (first | (refine wpList_box rfl 23 _ rfl _ rfl (bK _) ?_) | (refine wpList_box rfl 25 _ rfl _ rfl (bNo _) ?_) | fail)
    go_ret2
    exact ⟨rfl, hw⟩
set_option maxRecDepth 100000 in
set_option maxHeartbeats 4000000 in
theorem a_seal_ok (key nonce extra plain : List B) (hk : key.length = 32) (hno : nonce.length = 16) (w : World) (ve vp : Value) (hS : Sta w) (hK : Kon w) (hE : BysB w ve extra) (hP : BysB w vp plain) (qE : ∀ a l c, ve = .slice a l c → l ≤ c) (hel : extra.length ≤ 2097216) (hpl : plain.length ≤ 2097216) : Calls Tryd.prog 8 #[.agg (irow .u8 (bl key)), .agg (irow .u8 (bl nonce)), ve, vp] w fun e w' => ∃ v, e = .returned (.tuple #[v, .int .i64 0]) ∧ Own w' w.heap.size v (bx key nonce extra plain) ∧ Below w.heap.size w w' := by
  have hkl : (bl key).length = 32 := by rw [bl_len, hk]
  have hcl : (bl (ck key)).length = 32 := by rw [bl_len, ck_len]
  have hdl : (bl (tk key)).length = 32 := by rw [bl_len, tk_len]
  have hiN := info_bl infoN nonce hno
  obtain ⟨ue, uec, rfl⟩ : ∃ ao cap, ve = .slice ao extra.length cap := by
    obtain ⟨⟨ao, cap, h, _⟩, _⟩ := hE
    rw [bl_len] at h
    exact ⟨ao, cap, h⟩
  obtain ⟨up, upc, rfl⟩ : ∃ ao cap, vp = .slice ao plain.length cap := by
    obtain ⟨⟨ao, cap, h, _⟩, _⟩ := hP
    rw [bl_len] at h
    exact ⟨ao, cap, h⟩
  have R0 := hp2_0 w (.cells (irow .u8 (bl key)) 23) (.cells (irow .u8 (bl nonce)) 25)
  have R1 := hp2_1 w (.cells (irow .u8 (bl key)) 23) (.cells (irow .u8 (bl nonce)) 25)
  have hw : Below w.heap.size w ((w.alloc (.cells (irow .u8 (bl key)) 23)).alloc (.cells (irow .u8 (bl nonce)) 25)) := (((Below.refl _ _).alloc (Nat.le_refl _) _).alloc (by simp) _)
  replace qE := qE _ _ _ rfl
  have q1 : decide ((2097216 : Int) < (extra.length : Int)) = false := by simp; omega
  have q2 : decide ((2097216 : Int) < (plain.length : Int)) = false := by simp; omega
  have hEh : Hid (∀ V, Below w.heap.size w V → BysB V (.slice ue extra.length uec) extra) := hide (fun V h => hE.keep h)
  have hPh : Hid (∀ V, Below w.heap.size w V → BysB V (.slice up plain.length upc) plain) := hide (fun V h => hP.keep h)
  clear hE hP
  go_enter Tryd.func8, Tryd.ntmps8
  go_wp2_with (first | (refine wpList_box rfl 23 _ rfl _ rfl (bK _) ?_) | (refine wpList_box rfl 25 _ rfl _ rfl (bNo _) ?_) | (refine wpList_load_want rfl 23 _ rfl (w.heap.size) rfl 23 (irow .u8 (bl key)) (0, 0) _ R0 Tryd.underlying23 rfl (infok8 _ hkl) ?_) | fail)
  try simp only [size_alloc1, Act.put, List.setIfInBounds_toArray, List.set_cons_succ, List.set_cons_zero]
  generalize ((w.alloc (.cells (irow .u8 (bl key)) 23)).alloc (.cells (irow .u8 (bl nonce)) 25)) = w0 at *
  refine (a_keys key hk w0 (hS.below hw) (hK.below hw)).mono ?_
  rintro e_ w1 ⟨rfl, hb⟩
  replace R1 := keep hb R1
  replace hw := Below.after hw hb
  clear hb
  clear R0 q1 q2
  have z1 := hp2_0 w1 (.cells (irow .u8 (zr 32)) 23) (.cells (irow .u8 (zr 32)) 23)
  have z2 := hp2_1 w1 (.cells (irow .u8 (zr 32)) 23) (.cells (irow .u8 (zr 32)) 23)
  have z3 := (setRow_other ((w1.alloc (.cells (irow .u8 (zr 32)) 23)).alloc (.cells (irow .u8 (zr 32)) 23)) (w1.heap.size) (w1.heap.size + 1) (irow .u8 (bl (ck key))) (by omega)).trans z2
  have rC := (setRow_other (((w1.alloc (.cells (irow .u8 (zr 32)) 23)).alloc (.cells (irow .u8 (zr 32)) 23)).setRow (w1.heap.size) (irow .u8 (bl (ck key)))) (w1.heap.size + 1) (w1.heap.size) (irow .u8 (bl (tk key))) (by omega)).trans (setRow_heap ((w1.alloc (.cells (irow .u8 (zr 32)) 23)).alloc (.cells (irow .u8 (zr 32)) 23)) (w1.heap.size) _ (irow .u8 (bl (ck key))) _ _ z1)
  have rD := setRow_heap (((w1.alloc (.cells (irow .u8 (zr 32)) 23)).alloc (.cells (irow .u8 (zr 32)) 23)).setRow (w1.heap.size) (irow .u8 (bl (ck key)))) (w1.heap.size + 1) _ (irow .u8 (bl (tk key))) _ _ z3
  have hbF : Below w1.heap.size w1 ((((w1.alloc (.cells (irow .u8 (zr 32)) 23)).alloc (.cells (irow .u8 (zr 32)) 23)).setRow (w1.heap.size) (irow .u8 (bl (ck key)))).setRow (w1.heap.size + 1) (irow .u8 (bl (tk key)))) := below_setRow (below_setRow (((Below.refl _ _).alloc (Nat.le_refl _) _).alloc (by simp) _) (Nat.le_refl _) (irow .u8 (bl (ck key)))) (Nat.le_succ _) (irow .u8 (bl (tk key)))
  have R1F := keep hbF R1
  go_wp2_with (first | (refine wpList_alloc rfl 23 rfl (irow .u8 (zr 32)) zkey ?_) | (refine wpList_store_row rfl 23 _ _ rfl (w1.heap.size) (irow .u8 (bl (ck key))) rfl rfl 23 _ z1 (infok8 _ hcl) (fit32 _ _ (zr_len 32) hcl) (irow_one _ _) ?_; refine wpList_stay ?_) | fail)
  unfold WpStay
  go_wp2_with (first | (refine wpList_store_row rfl 23 _ _ rfl (w1.heap.size + 1) (irow .u8 (bl (tk key))) rfl rfl 23 _ z3 (infok8 _ hdl) (fit32 _ _ (zr_len 32) hdl) (irow_one _ _) ?_; refine wpList_stay ?_) | fail)
  unfold WpStay
  clear z1 z2 z3 R1
  generalize ((((w1.alloc (.cells (irow .u8 (zr 32)) 23)).alloc (.cells (irow .u8 (zr 32)) 23)).setRow (w1.heap.size) (irow .u8 (bl (ck key)))).setRow (w1.heap.size + 1) (irow .u8 (bl (tk key)))) = w2 at *
  replace hw := Below.after hw hbF
  clear hbF
  generalize w1.heap.size = g1 at *
  go_wp2_with (first | (refine wpList_load_want rfl 23 _ rfl (g1) rfl 23 (irow .u8 (bl (ck key))) (0, 0) _ rC Tryd.underlying23 rfl (infok8 _ hcl) ?_) | (refine wpList_load_want rfl 25 _ rfl (w.heap.size + 1) rfl 25 (irow .u8 (bl nonce)) (0, 0) _ R1F Tryd.underlying25 rfl hiN ?_) | fail)
  clear rC
  refine (a_crypt (ck key) nonce (ck_len _) hno 0 (by decide) plain w2 _ (hPh.out _ hw)).mono ?_
  rintro e_ w3 ⟨vt, rfl, hT, hb⟩
  replace hT : Own w3 w2.heap.size vt (cfx key nonce plain) := hT
  have hbx : Hid (bx key nonce extra plain = cfx key nonce plain ++ lb ((hm (bl (tk key)) (und nonce extra (cfx key nonce plain))).take 16)) := hide rfl
  have hTl : Hid ((cfx key nonce plain).length = plain.length) := hide (cfx_len _ _ _)
  generalize cfx key nonce plain = T at *
  have qT := own_capB hT
  obtain ⟨aot, act, rfl⟩ := slen_own hT
  replace R1F := keep hb R1F
  replace rD := keep hb rD
  replace hw := Below.after hw hb
  clear hb
  go_wp2_with (first | (refine wpList_load_want rfl 23 _ rfl (g1 + 1) rfl 23 (irow .u8 (bl (tk key))) (0, 0) _ rD Tryd.underlying23 rfl (infok8 _ hdl) ?_) | (refine wpList_load_want rfl 25 _ rfl (w.heap.size + 1) rfl 25 (irow .u8 (bl nonce)) (0, 0) _ R1F Tryd.underlying25 rfl hiN ?_) | fail)
  refine (a_tagOf (tk key) nonce extra T (tk_len _) hno w3 _ _ (hS.below hw) (hK.below hw) (hEh.out _ hw) (hT.bysB (by rw [hTl.out]; omega)) (fun a l c h => by cases h; exact qE) qT).mono ?_
  rintro e_ w4 ⟨_, rfl, gt, rfl, lgt, rt, hb⟩
  have hs3 := hw.size
  replace hT := hT.keep hb
  replace hw := Below.after hw hb
  clear hb
  clear R1F rD
  have hHl := hm_len (bl (tk key)) (und nonce extra T)
  have hHz := hm_bd (bl (tk key)) (und nonce extra T)
  generalize hm (bl (tk key)) (und nonce extra T) = H at *
  have hba : Below w4.heap.size w4 (w4.alloc (.cells #[.slice aot T.length act, .slice (some ⟨gt, 0, none⟩) 16 32] 26)) := (Below.refl _ _).alloc (Nat.le_refl _) _
  have rp := hp1_0 w4 (.cells #[.slice aot T.length act, .slice (some ⟨gt, 0, none⟩) 16 32] 26)
  have hBt := tag_bys (keep hba rt) hHl hHz
  have hBT := (hT.keep hba).bysB (show T.length ≤ 140737488351232 by rw [hTl.out]; omega)
  have htl : (lb (H.take 16)).length = 16 := by rw [lb_len, List.length_take]; omega
  have hs4 := hw.size
  replace hw := Below.after hw hba
  clear hba rt hT
  generalize lb (H.take 16) = G at *
  go_wp2_with (fail)
  generalize w4.alloc (.cells #[.slice aot T.length act, .slice (some ⟨gt, 0, none⟩) 16 32] 26) = w5 at *
  have cC := a_concat2 T G w5 w4.heap.size aot (some ⟨gt, 0, none⟩) act 32 (by rw [htl]; exact rp) hBT (by rw [htl]; exact hBt) (by omega) (by rw [hTl.out]; omega)
  refine cC.mono ?_
  rintro e_ w6 ⟨v6, rfl, hO, hb⟩
  have hs5 := hw.size
  rw [← hbx.out] at hO
  generalize eY : bx key nonce extra plain = Y at *
  replace eY := hide eY
  obtain ⟨ao6, ac6, rfl⟩ := slen_own hO
  replace hw := Below.after hw hb
  clear hb
  go_wp2
  go_ret2
  exact ⟨_, rfl, by rw [eY.out]; exact own_down hO hs5, hw⟩
theorem a_seal (key nonce extra plain : List B) (hk : key.length = 32) (hno : nonce.length = 16) (w : World) (ve vp : Value) (hS : Sta w) (hK : Kon w) (hE : BysB w ve extra) (hP : BysB w vp plain) (qE : ∀ a l c, ve = .slice a l c → l ≤ c) : Calls Tryd.prog 8 #[.agg (irow .u8 (bl key)), .agg (irow .u8 (bl nonce)), ve, vp] w fun e w' => ∃ u, e = .returned u ∧ (∃ v, u = .tuple #[v, .int .i64 (sle extra plain)] ∧ Own w' w.heap.size v (slr key nonce extra plain)) ∧ Below w.heap.size w w' := by
  by_cases h : 2097216 < extra.length ∨ 2097216 < plain.length
  · rw [sle, slr, if_pos h, if_pos h]
    exact (a_seal_long key nonce extra plain w ve vp hE hP h).mono fun _ w' ⟨h1, h2⟩ => ⟨_, h1, ⟨_, rfl, own_none w' _⟩, h2⟩
  · rw [sle, slr, if_neg h, if_neg h]
    exact (a_seal_ok key nonce extra plain hk hno w ve vp hS hK hE hP qE (by omega) (by omega)).mono fun _ w' ⟨v, h1, h2, h3⟩ => ⟨_, h1, ⟨v, rfl, h2⟩, h3⟩

end Go.Proofs.YtamieopjigjfiabDoor
