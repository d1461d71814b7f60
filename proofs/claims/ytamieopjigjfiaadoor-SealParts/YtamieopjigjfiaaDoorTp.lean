import Derived.Test.YtamieopjigjfiaaDoorProg
import Derived.WalkKit
import Derived.WalkSpells
import Derived.WalkLawsBesides
import Derived.Lib.QuietBelow
import Derived.BigQuiet
import Derived.OrdersHeld
import Derived.OwnWalk
import Derived.Lib.SlBytesConst
import Derived.Deep.RegionHeld3
import Derived.Test.YtamieopjigjfiaaDoorKa
import Derived.Test.YtamieopjigjfiaaDoorTb
import Derived.Test.YtamieopjigjfiaaDoorTu
namespace Go.Proofs.YtamieopjigjfiaaDoor
set_option maxRecDepth 100000
open Go Go.RowKit Go.Sort
attribute [local go_sem] setCell_drewN alloc_drewN

theorem own_setR {W : World} {b g : Nat} {v : Value} {d : List B} (h : Own W b v d) (cs : Array Value) (hx : ∀ k, v.ownBlock = some k → k ≠ g) : Own (W.setRow g cs) b v d := by
  obtain ⟨q1, q2 | ⟨g1, cap1, cur, hv, hbg, hg, hq⟩⟩ := h
  · exact ⟨q1, .inl q2⟩
  · subst hv
    exact ⟨q1, .inr ⟨g1, cap1, cur, rfl, hbg, (setRow_other W g g1 cs (hx g1 rfl)).trans hg, hq⟩⟩
set_option maxRecDepth 100000 in
set_option maxHeartbeats 4000000 in
theorem parts_long (key nonce extra d : List B) (hk : key.length = 32) (hno : nonce.length = 16) (w : World) (ve vd : Value) (hS : Sta w) (hK : Kon w) (hE : BysC w ve extra) (hD : BysC w vd d) (hlen : 2097216 < extra.length ∨ 2097216 < d.length) : Calls Tryd.prog 8 #[.agg (boxr key nonce ve vd)] w fun e w' => e = .returned (.bool true) ∧ Below w.heap.size w w' := by
  have hkl : (bl key).length = 32 := by rw [bl_len, hk]
  have hiN := info_bl infoN nonce hno
  obtain ⟨hE, qE⟩ := hE
  obtain ⟨hD, qD⟩ := hD
  obtain ⟨ue, uec, rfl⟩ : ∃ ao cap, ve = .slice ao extra.length cap := by
    obtain ⟨⟨ao, cap, h, _⟩, _⟩ := hE
    rw [bl_len] at h
    exact ⟨ao, cap, h⟩
  obtain ⟨ud, udc, rfl⟩ : ∃ ao cap, vd = .slice ao d.length cap := by
    obtain ⟨⟨ao, cap, h, _⟩, _⟩ := hD
    rw [bl_len] at h
    exact ⟨ao, cap, h⟩
  replace qE := qE _ _ _ rfl
  replace qD := qD _ _ _ rfl
  have hel : extra.length ≤ 140737488351232 := hE.2.1
  have hdl : d.length ≤ 140737488351232 := hD.2.1
  have RB := hp1_0 w (.cells (boxr key nonce (.slice ue extra.length uec) (.slice ud d.length udc)) 31)
  have hw : Below w.heap.size w (w.alloc (.cells (boxr key nonce (.slice ue extra.length uec) (.slice ud d.length udc)) 31)) := (Below.refl _ _).alloc (Nat.le_refl _) _
  have hEh : Hid (∀ V, Below w.heap.size w V → BysB V (.slice ue extra.length uec) extra) := hide (fun V h => hE.keep h)
  have hDh : Hid (∀ V, Below w.heap.size w V → BysB V (.slice ud d.length udc) d) := hide (fun V h => hD.keep h)
  clear hE hD
  have hb_ : Hid (true = decide (2097216 < extra.length ∨ 2097216 < d.length)) := hide (decide_eq_true hlen).symm
  go_enter Tryd.func8, Tryd.ntmps8
  go_wp2_with (first | (refine wpList_box rfl 31 _ rfl _ rfl (bBox _) ?_; refine wpList_stay ?_) | fail)
  unfold WpStay
  generalize w.alloc (.cells (boxr key nonce (.slice ue extra.length uec) (.slice ud d.length udc)) 31) = w0 at *
  have cE_ := (box_cell RB hk hno).1
  have cD_ := (box_cell RB hk hno).2
  go_wp2_with (first | (refine wpList_load_part rfl 23 _ rfl w.heap.size 0 rfl 31 (boxr key nonce (.slice ue extra.length uec) (.slice ud d.length udc)) (0, 0) (irow .u8 (bl key)) _ RB (box_key _ _ _ _) Tryd.underlying23 rfl (infok8 _ hkl) ?_) | (refine wpList_load_part rfl 28 _ rfl w.heap.size 32 rfl 31 (boxr key nonce (.slice ue extra.length uec) (.slice ud d.length udc)) (0, 0) (irow .u8 (bl nonce)) _ RB (box_nonce _ _ _ _ hk) Tryd.underlying28 rfl hiN ?_) | fail)
  clear cE_ cD_
  refine (l_lives w0 (hS.below hw) (hK.below hw)).mono ?_
  rintro e_ w1 ⟨rfl, hb⟩
  replace RB := keep hb RB
  replace hw := Below.after hw hb
  have sz_w1 := hb.size
  clear hb
  go_wp2_with (first | (refine wpList_load_want rfl 31 _ rfl (w.heap.size) rfl 31 (boxr key nonce (.slice ue extra.length uec) (.slice ud d.length udc)) (0, 0) _ RB Tryd.underlying31 rfl (infoBx () hk hno) ?_) | fail)
  refine (l_long key nonce extra d hk hno w1 ue ud uec udc true hb_.out).mono ?_
  rintro e_ w2 ⟨rfl, hb⟩
  replace RB := keep hb RB
  replace hw := Below.after hw hb
  have sz_w2 := hb.size
  clear hb
  have cE_ := (box_cell RB hk hno).1
  have cD_ := (box_cell RB hk hno).2
  go_wp2_with (first | (refine wpList_load_part rfl 23 _ rfl w.heap.size 0 rfl 31 (boxr key nonce (.slice ue extra.length uec) (.slice ud d.length udc)) (0, 0) (irow .u8 (bl key)) _ RB (box_key _ _ _ _) Tryd.underlying23 rfl (infok8 _ hkl) ?_) | (refine wpList_load_part rfl 28 _ rfl w.heap.size 32 rfl 31 (boxr key nonce (.slice ue extra.length uec) (.slice ud d.length udc)) (0, 0) (irow .u8 (bl nonce)) _ RB (box_nonce _ _ _ _ hk) Tryd.underlying28 rfl hiN ?_) | fail)
  clear cE_ cD_
  refine (l_lives w2 (hS.below hw) (hK.below hw)).mono ?_
  rintro e_ w3 ⟨rfl, hb⟩
  replace RB := keep hb RB
  replace hw := Below.after hw hb
  have sz_w3 := hb.size
  clear hb
  go_wp2
  go_ret
  exact ⟨rfl, hw⟩
set_option maxRecDepth 100000 in
set_option maxHeartbeats 4000000 in
theorem parts_ok (key nonce extra d : List B) (hk : key.length = 32) (hno : nonce.length = 16) (w : World) (ve vd : Value) (hS : Sta w) (hK : Kon w) (hE : BysC w ve extra) (hD : BysC w vd d) (hlen : extra.length ≤ 2097216 ∧ d.length ≤ 2097216) : Calls Tryd.prog 8 #[.agg (boxr key nonce ve vd)] w fun e w' => e = .returned (.bool true) ∧ Below w.heap.size w w' := by
  have hkl : (bl key).length = 32 := by rw [bl_len, hk]
  have hiN := info_bl infoN nonce hno
  obtain ⟨hE, qE⟩ := hE
  obtain ⟨hD, qD⟩ := hD
  obtain ⟨ue, uec, rfl⟩ : ∃ ao cap, ve = .slice ao extra.length cap := by
    obtain ⟨⟨ao, cap, h, _⟩, _⟩ := hE
    rw [bl_len] at h
    exact ⟨ao, cap, h⟩
  obtain ⟨ud, udc, rfl⟩ : ∃ ao cap, vd = .slice ao d.length cap := by
    obtain ⟨⟨ao, cap, h, _⟩, _⟩ := hD
    rw [bl_len] at h
    exact ⟨ao, cap, h⟩
  replace qE := qE _ _ _ rfl
  replace qD := qD _ _ _ rfl
  have hel : extra.length ≤ 140737488351232 := hE.2.1
  have hdl : d.length ≤ 140737488351232 := hD.2.1
  have RB := hp1_0 w (.cells (boxr key nonce (.slice ue extra.length uec) (.slice ud d.length udc)) 31)
  have hw : Below w.heap.size w (w.alloc (.cells (boxr key nonce (.slice ue extra.length uec) (.slice ud d.length udc)) 31)) := (Below.refl _ _).alloc (Nat.le_refl _) _
  have hEh : Hid (∀ V, Below w.heap.size w V → BysB V (.slice ue extra.length uec) extra) := hide (fun V h => hE.keep h)
  have hDh : Hid (∀ V, Below w.heap.size w V → BysB V (.slice ud d.length udc) d) := hide (fun V h => hD.keep h)
  clear hE hD
  obtain ⟨LA, eLA⟩ : ∃ L, slr key nonce extra d = L := ⟨_, rfl⟩
  have hE2 : sle extra d = 0 := (slr_ok key nonce extra d hlen.1 hlen.2).2
  have eB : LA = bx key nonce extra d := by rw [← eLA]; exact (slr_ok key nonce extra d hlen.1 hlen.2).1
  have hLl : Hid (LA.length = d.length + 16) := hide (by rw [eB, bx_len])
  have hT1 : Hid (LA.take d.length = cfx key nonce d) := hide (by rw [eB, bx_text])
  have hT2 : Hid (decide (16 ≤ LA.length ∧ otg LA = tg key nonce extra (obx LA)) = true) := hide (decide_eq_true ⟨by rw [eB, bx_len]; omega, by rw [eB, otg_bx, obx_bx]⟩)
  have hb_ : Hid (false = decide (2097216 < extra.length ∨ 2097216 < d.length)) := hide (decide_eq_false (by omega)).symm
  have hcl : (bl (ck key)).length = 32 := by rw [bl_len, ck_len]
  replace eLA := hide eLA
  clear eB
  go_enter Tryd.func8, Tryd.ntmps8
  go_wp2_with (first | (refine wpList_box rfl 31 _ rfl _ rfl (bBox _) ?_; refine wpList_stay ?_) | fail)
  unfold WpStay
  generalize w.alloc (.cells (boxr key nonce (.slice ue extra.length uec) (.slice ud d.length udc)) 31) = w0 at *
  have cE_ := (box_cell RB hk hno).1
  have cD_ := (box_cell RB hk hno).2
  go_wp2_with (first | (refine wpList_load_part rfl 23 _ rfl w.heap.size 0 rfl 31 (boxr key nonce (.slice ue extra.length uec) (.slice ud d.length udc)) (0, 0) (irow .u8 (bl key)) _ RB (box_key _ _ _ _) Tryd.underlying23 rfl (infok8 _ hkl) ?_) | (refine wpList_load_part rfl 28 _ rfl w.heap.size 32 rfl 31 (boxr key nonce (.slice ue extra.length uec) (.slice ud d.length udc)) (0, 0) (irow .u8 (bl nonce)) _ RB (box_nonce _ _ _ _ hk) Tryd.underlying28 rfl hiN ?_) | fail)
  clear cE_ cD_
  refine (l_lives w0 (hS.below hw) (hK.below hw)).mono ?_
  rintro e_ w1 ⟨rfl, hb⟩
  replace RB := keep hb RB
  replace hw := Below.after hw hb
  have sz_w1 := hb.size
  clear hb
  go_wp2_with (first | (refine wpList_load_want rfl 31 _ rfl (w.heap.size) rfl 31 (boxr key nonce (.slice ue extra.length uec) (.slice ud d.length udc)) (0, 0) _ RB Tryd.underlying31 rfl (infoBx () hk hno) ?_) | fail)
  refine (l_long key nonce extra d hk hno w1 ue ud uec udc false hb_.out).mono ?_
  rintro e_ w2 ⟨rfl, hb⟩
  replace RB := keep hb RB
  replace hw := Below.after hw hb
  have sz_w2 := hb.size
  clear hb
  have cE_ := (box_cell RB hk hno).1
  have cD_ := (box_cell RB hk hno).2
  go_wp2_with (first | (refine wpList_load_part rfl 23 _ rfl w.heap.size 0 rfl 31 (boxr key nonce (.slice ue extra.length uec) (.slice ud d.length udc)) (0, 0) (irow .u8 (bl key)) _ RB (box_key _ _ _ _) Tryd.underlying23 rfl (infok8 _ hkl) ?_) | (refine wpList_load_part rfl 28 _ rfl w.heap.size 32 rfl 31 (boxr key nonce (.slice ue extra.length uec) (.slice ud d.length udc)) (0, 0) (irow .u8 (bl nonce)) _ RB (box_nonce _ _ _ _ hk) Tryd.underlying28 rfl hiN ?_) | fail)
  clear cE_ cD_
  have cX := a_seal key nonce extra d hk hno w2 _ _ (hS.below hw) (hK.below hw) (hEh.out _ hw) (hDh.out _ hw) (fun a l c h => by cases h; exact qE)
  rw [eLA.out, hE2] at cX
  refine cX.mono ?_
  rintro e_ w3 ⟨_, rfl, ⟨va, rfl, hOva⟩, hb⟩
  have qA := own_capB hOva
  obtain ⟨aA, cA, rfl⟩ := slen_own hOva
  clear cX hE2
  replace RB := keep hb RB
  replace hw := Below.after hw hb
  have sz_w3 := hb.size
  clear hb
  have kc := fun (W : World) (C : Array Value) (n c : Nat) => Go.Lib.run_convert_bytes_const (P := Tryd.prog) W 29 5 C n c Tryd.underlying29 Tryd.underlying5
  have cE_ := (box_cell RB hk hno).1
  have cD_ := (box_cell RB hk hno).2
  go_wp2_with (first | (refine wpList_load_part rfl 23 _ rfl w.heap.size 0 rfl 31 (boxr key nonce (.slice ue extra.length uec) (.slice ud d.length udc)) (0, 0) (irow .u8 (bl key)) _ RB (box_key _ _ _ _) Tryd.underlying23 rfl (infok8 _ hkl) ?_) | (refine wpList_load_part rfl 28 _ rfl w.heap.size 32 rfl 31 (boxr key nonce (.slice ue extra.length uec) (.slice ud d.length udc)) (0, 0) (irow .u8 (bl nonce)) _ RB (box_nonce _ _ _ _ hk) Tryd.underlying28 rfl hiN ?_) | fail)
  clear cE_ cD_
  have hba : Below w3.heap.size w3 (w3.alloc (.cells #[.int .u8 112, .int .u8 97, .int .u8 119, .int .u8 108, .int .u8 32, .int .u8 115, .int .u8 101, .int .u8 97, .int .u8 108] 5 (9, 10))) := (Below.refl _ _).alloc (Nat.le_refl _) _
  have hI := ps9_bys w3
  replace RB := keep hba RB
  replace hOva := hOva.keep hba
  replace hw := Below.after hw hba
  clear hba kc
  generalize w3.alloc (.cells #[.int .u8 112, .int .u8 97, .int .u8 119, .int .u8 108, .int .u8 32, .int .u8 115, .int .u8 101, .int .u8 97, .int .u8 108] 5 (9, 10)) = w4x at *
  have cX := a_expand (bl key) ps9 64 w4x _ (hS.below hw) (hK.below hw) hkl (bl_bnd _) hI (fun a l c h => by cases h; exact Nat.le_refl _) (by decide) (by decide)
  refine cX.mono ?_
  rintro e_ w4 ⟨v_, g, rfl, rfl, lg, rg, hb⟩
  clear cX hI lg
  replace RB := keep hb RB
  replace hOva := hOva.keep hb
  replace hw := Below.after hw hb
  have sz_w4 := hb.size
  clear hb
  have hwr : IntKind.i64.wrap ((d.length : Int) + 16) = (d.length : Int) + 16 := by rw [IntKind.wrap_i64]; omega
  have hcast : ((LA.length : Nat) : Int) = (d.length : Int) + 16 := by rw [hLl.out]; omega
  have lgg := lt_of_row rg
  have hOv0 := own_high hOva
  have hba : Below w4.heap.size w4 (w4.alloc (.cells (irow .u8 (zr 32)) 23)) := (Below.refl _ _).alloc (Nat.le_refl _) _
  have rk := hp1_0 w4 (.cells (irow .u8 (zr 32)) 23)
  have lB2 := lt_of_row RB
  have cE_ := (box_cell RB hk hno).1
  have cD_ := (box_cell RB hk hno).2
  go_wp2_with (first | (refine wpList_alloc rfl 23 rfl (irow .u8 (zr 32)) zkey ?_; refine wpList_stay ?_) | fail)
  unfold WpStay
  clear cE_ cD_
  clear hwr hcast
  replace RB := keep hba RB
  replace rg := keep hba rg
  replace hOva := hOva.keep hba
  replace hw := Below.after hw hba
  have hgk : w.heap.size < w4.heap.size ∧ g < w4.heap.size := ⟨lB2, lgg⟩
  have hoh2 : ∀ k, (Value.slice aA LA.length cA).ownBlock = some k → k ≠ w4.heap.size := fun k h e => by
    have := hOv0 k h
    omega
  clear hba lgg lB2
  generalize w4.alloc (.cells (irow .u8 (zr 32)) 23) = w5 at *
  generalize w4.heap.size = gk at *
  have ecl : ((xpd (bl key) ps9 64).take 32).length = Nat.min 64 32 := by rw [List.length_take, xpd_len]; rfl
  have hcp := copy_irow (o := 0) (dLen := 32) (dCap := 32) (b := g) (off := 0) (m := 64) (cap := 64) (c := (xpd (bl key) ps9 64).take 32) rk (fun j hj => by
    have hj2 : j < 32 := by rw [ecl] at hj; exact hj
    rw [Nat.zero_add, irow_cell rg (by rw [xpd_len]; omega), List.getD_eq_getElem?_getD, List.getD_eq_getElem?_getD, List.getElem?_take_of_lt hj2]) ecl (by rw [ecl, zr_len]; decide)
  rw [← bl_ck, List.take_zero, List.nil_append] at hcp
  have e0 : (zr 32).drop (0 + 32) = [] := List.drop_eq_nil_of_le (by rw [zr_len]; decide)
  rw [hcl, e0, List.append_nil, show goInt ((32 : Nat) : Int) = .int .i64 32 from rfl] at hcp
  have sk := slice_k gk
  go_wp2_with (fail)
  clear hcp e0 ecl sk hOv0
  replace RB := (setRow_other w5 gk (w.heap.size) (irow .u8 (bl (ck key))) (by omega)).trans RB
  replace hOva := own_setR hOva (irow .u8 (bl (ck key))) hoh2
  replace rk := setRow_heap w5 gk _ (irow .u8 (bl (ck key))) _ _ rk
  replace hw := below_setRow hw (show w.heap.size ≤ gk by omega) (irow .u8 (bl (ck key)))
  clear rg hoh2
  generalize w5.setRow gk (irow .u8 (bl (ck key))) = w5s at *
  have slA := slice_to aA LA.length cA d.length (by have := qA _ _ _ rfl; rw [hLl.out] at this; omega)
  have hbd : Below w5s.heap.size w5s w5s.drew := below_drN (Below.refl _ _) 1
  replace RB := keep hbd RB
  replace rk := keep hbd rk
  replace hOva := hOva.keep hbd
  replace hw := Below.after hw hbd
  clear hbd
  refine wp_region_noPanic ?_
  refine wp_region_held (S := fun W => W.heap[w.heap.size]? = some (.cells (boxr key nonce (.slice ue extra.length uec) (.slice ud d.length udc)) 31 (0, 0)) ∧ W.heap[gk]? = some (.cells (irow .u8 (bl (ck key))) 23 (0, 0))) (by kernel_rfl) ?_
  change wpAnyH _ _ _ _ _ _ _ _ (World.drew _)
  generalize w5s.drew = wd9 at *
  refine wpAnyH_take (i := 0) (v := ?v1) rfl (by kernel_rfl) (by kernel_rfl) (by kernel_rfl) (fun _ _ _ h => h) (Or.inl ⟨by rfl, ?y1⟩) (⟨RB, rk⟩) ?r1
  case y1 =>
    intro w_ hS_
    go_simp
    try with_reducible rfl
  simp only [Act.put, List.getElem_toArray, List.getElem_cons_zero, List.setIfInBounds_toArray, List.set_cons_succ, List.set_cons_zero]
  refine wpAnyH_take (i := 1) (v := ?v2) rfl (by kernel_rfl) (by kernel_rfl) (by kernel_rfl) (fun _ _ _ h => h) (Or.inl ⟨by rfl, ?y2⟩) (⟨RB, rk⟩) ?r2
  case y2 =>
    intro w_ hS_
    go_simp
    try with_reducible rfl
  simp only [Act.put, List.getElem_toArray, List.getElem_cons_succ, List.getElem_cons_zero, List.setIfInBounds_toArray, List.set_cons_succ, List.set_cons_zero]
  refine wpAnyH_take (i := 2) (v := .slice ud d.length udc) rfl (by kernel_rfl) (by kernel_rfl) (by kernel_rfl) (fun _ _ _ h => h) (Or.inl ⟨by rfl, ?y3⟩) (⟨RB, rk⟩) ?r3
  case y3 =>
    intro w_ hS_
    have c_ := (box_cell (hS_.1) hk hno).2
    go_simp
    try with_reducible rfl
  simp only [Act.put, List.getElem_toArray, List.getElem_cons_succ, List.getElem_cons_zero, List.setIfInBounds_toArray, List.set_cons_succ, List.set_cons_zero]
  refine wpAnyH_take (i := 3) (v := ?v4) rfl (by kernel_rfl) (by kernel_rfl) (by kernel_rfl) (fun _ _ _ h => h) (Or.inl ⟨by rfl, ?y4⟩) (⟨RB, rk⟩) ?r4
  case y4 =>
    intro w_ hS_
    go_simp
    try with_reducible rfl
  simp only [Act.put, List.getElem_toArray, List.getElem_cons_succ, List.getElem_cons_zero, List.setIfInBounds_toArray, List.set_cons_succ, List.set_cons_zero]
  refine wpAnyH_take (i := 4) (v := ?v5) rfl (by kernel_rfl) (by kernel_rfl) (by kernel_rfl) (fun _ _ _ h => h) (Or.inl ⟨by rfl, ?y5⟩) (⟨RB, rk⟩) ?r5
  case y5 =>
    intro w_ hS_
    go_simp
    try with_reducible rfl
  simp only [Act.put, List.getElem_toArray, List.getElem_cons_succ, List.getElem_cons_zero, List.setIfInBounds_toArray, List.set_cons_succ, List.set_cons_zero]
  refine wpAnyH_take (i := 5) (v := .agg (irow .u8 (bl (ck key)))) rfl (by kernel_rfl) (by kernel_rfl) (by kernel_rfl) (fun _ _ _ h => h) (Or.inl ⟨by rfl, ?y6⟩) (⟨RB, rk⟩) ?r6
  case y6 =>
    intro w_ hS_
    simp only [List.getElem_toArray, List.getElem_cons_succ, List.getElem_cons_zero]
    exact run_load_part 23 _ (by rfl) (gk) 0 (by rfl) 23 (irow .u8 (bl (ck key))) (0, 0) (irow .u8 (bl (ck key))) _ (hS_.2) (all_row _) Tryd.underlying23 rfl (infok8 _ hcl)
  simp only [Act.put, List.getElem_toArray, List.getElem_cons_succ, List.getElem_cons_zero, List.setIfInBounds_toArray, List.set_cons_succ, List.set_cons_zero]
  refine wpAnyH_take (i := 6) (v := ?v7) rfl (by kernel_rfl) (by kernel_rfl) (by kernel_rfl) (fun _ _ _ h => h) (Or.inl ⟨by rfl, ?y7⟩) (⟨RB, rk⟩) ?r7
  case y7 =>
    intro w_ hS_
    go_simp
    try with_reducible rfl
  simp only [Act.put, List.getElem_toArray, List.getElem_cons_succ, List.getElem_cons_zero, List.setIfInBounds_toArray, List.set_cons_succ, List.set_cons_zero]
  refine wpAnyH_take (i := 7) (v := .agg (irow .u8 (bl nonce))) rfl (by kernel_rfl) (by kernel_rfl) (by kernel_rfl) (fun _ _ _ h => h) (Or.inl ⟨by rfl, ?y8⟩) (⟨RB, rk⟩) ?r8
  case y8 =>
    intro w_ hS_
    simp only [List.getElem_toArray, List.getElem_cons_succ, List.getElem_cons_zero]
    exact run_load_part 28 _ (by rfl) (w.heap.size) 32 (by rfl) 31 (boxr key nonce (.slice ue extra.length uec) (.slice ud d.length udc)) (0, 0) (irow .u8 (bl nonce)) _ (hS_.1) (box_nonce _ _ _ _ hk) Tryd.underlying28 rfl hiN
  simp only [Act.put, List.getElem_toArray, List.getElem_cons_succ, List.getElem_cons_zero, List.setIfInBounds_toArray, List.set_cons_succ, List.set_cons_zero]
  refine wpAnyH_take (i := 8) (v := ?v9) rfl (by kernel_rfl) (by kernel_rfl) (by kernel_rfl) (fun _ _ _ h => h) (Or.inl ⟨by rfl, ?y9⟩) (⟨RB, rk⟩) ?r9
  case y9 =>
    intro w_ hS_
    go_simp
    try with_reducible rfl
  simp only [Act.put, List.getElem_toArray, List.getElem_cons_succ, List.getElem_cons_zero, List.setIfInBounds_toArray, List.set_cons_succ, List.set_cons_zero]
  refine wpAnyH_take (i := 9) (v := .slice ud d.length udc) rfl (by kernel_rfl) (by kernel_rfl) (by kernel_rfl) (fun _ _ _ h => h) (Or.inl ⟨by rfl, ?y10⟩) (⟨RB, rk⟩) ?r10
  case y10 =>
    intro w_ hS_
    have c_ := (box_cell (hS_.1) hk hno).2
    go_simp
    try with_reducible rfl
  simp only [Act.put, List.getElem_toArray, List.getElem_cons_succ, List.getElem_cons_zero, List.setIfInBounds_toArray, List.set_cons_succ, List.set_cons_zero]
  refine wpAnyH_one (k := 10) (fuel := 12) (by kernel_rfl) rfl (by kernel_rfl) (fun K_ hK_ => ?_)
  have cR : Calls Tryd.prog 23 #[.agg (irow .u8 (bl (ck key))), .agg (irow .u8 (bl nonce)), .int .u64 0, .slice ud d.length udc] wd9 fun e w' => ∃ u, e = .returned u ∧ Own w' wd9.heap.size u (cfx key nonce d) ∧ Below wd9.heap.size wd9 w' := a_crypt (ck key) nonce (ck_len _) hno 0 (by decide) d wd9 _ (hDh.out _ hw)
  refine wp_call_ex (f := 23) (by kernel_rfl) (cR) (fun v_ q1 hX_ => ?_)
  obtain ⟨hO, hb_⟩ := hX_
  replace RB := keep hb_ RB
  replace rk := keep hb_ rk
  replace hOva := hOva.keep hb_
  replace hw := Below.after hw hb_
  clear hb_
  clear cR
  refine hK_ _ _ (⟨RB, rk⟩) ?_
  simp only [Act.put, List.getElem_toArray, List.getElem_cons_succ, List.getElem_cons_zero, List.setIfInBounds_toArray, List.set_cons_succ, List.set_cons_zero]
  clear hK_
  refine wpAnyH_one (k := 11) (fuel := 11) (by kernel_rfl) rfl (by kernel_rfl) (fun K_ hK_ => ?_)
  have hT := bysB_take (m := d.length) (hOva.bysB (by rw [hLl.out]; omega)) (by rw [hLl.out]; omega)
  rw [hT1.out] at hT
  have cS := sB_eq (cfx key nonce d) q1 _ _ hT.1 hO.bys
  clear hT
  refine wp_call_ex (f := 14) (by kernel_rfl) (ex1s cS) (fun v_ q2 hX_ => ?_)
  obtain ⟨rfl, hb_⟩ := hX_
  replace RB := keep hb_ RB
  replace rk := keep hb_ rk
  replace hOva := hOva.keep hb_
  replace hO := hO.keep hb_
  replace hw := Below.after hw hb_
  clear hb_
  clear cS hO
  refine hK_ _ _ (⟨RB, rk⟩) ?_
  simp only [Act.put, List.getElem_toArray, List.getElem_cons_succ, List.getElem_cons_zero, List.setIfInBounds_toArray, List.set_cons_succ, List.set_cons_zero]
  clear hK_
  refine wpAnyH_take (i := 12) (v := ?v11) rfl (by kernel_rfl) (by kernel_rfl) (by kernel_rfl) (fun _ _ _ h => h) (Or.inl ⟨by rfl, ?y11⟩) (⟨RB, rk⟩) ?r11
  case y11 =>
    intro w_ hS_
    go_simp
    try with_reducible rfl
  simp only [Act.put, List.getElem_toArray, List.getElem_cons_succ, List.getElem_cons_zero, List.setIfInBounds_toArray, List.set_cons_succ, List.set_cons_zero]
  refine wpAnyH_take (i := 13) (v := ?v12) rfl (by kernel_rfl) (by kernel_rfl) (by kernel_rfl) (fun _ _ _ h => h) (Or.inl ⟨by rfl, ?y12⟩) (⟨RB, rk⟩) ?r12
  case y12 =>
    intro w_ hS_
    go_simp
    try with_reducible rfl
  simp only [Act.put, List.getElem_toArray, List.getElem_cons_succ, List.getElem_cons_zero, List.setIfInBounds_toArray, List.set_cons_succ, List.set_cons_zero]
  refine wpAnyH_take (i := 14) (v := .agg (irow .u8 (bl key))) rfl (by kernel_rfl) (by kernel_rfl) (by kernel_rfl) (fun _ _ _ h => h) (Or.inl ⟨by rfl, ?y13⟩) (⟨RB, rk⟩) ?r13
  case y13 =>
    intro w_ hS_
    simp only [List.getElem_toArray, List.getElem_cons_succ, List.getElem_cons_zero]
    exact run_load_part 23 _ (by rfl) (w.heap.size) 0 (by rfl) 31 (boxr key nonce (.slice ue extra.length uec) (.slice ud d.length udc)) (0, 0) (irow .u8 (bl key)) _ (hS_.1) (box_key _ _ _ _) Tryd.underlying23 rfl (infok8 _ hkl)
  simp only [Act.put, List.getElem_toArray, List.getElem_cons_succ, List.getElem_cons_zero, List.setIfInBounds_toArray, List.set_cons_succ, List.set_cons_zero]
  refine wpAnyH_take (i := 15) (v := ?v14) rfl (by kernel_rfl) (by kernel_rfl) (by kernel_rfl) (fun _ _ _ h => h) (Or.inl ⟨by rfl, ?y14⟩) (⟨RB, rk⟩) ?r14
  case y14 =>
    intro w_ hS_
    go_simp
    try with_reducible rfl
  simp only [Act.put, List.getElem_toArray, List.getElem_cons_succ, List.getElem_cons_zero, List.setIfInBounds_toArray, List.set_cons_succ, List.set_cons_zero]
  refine wpAnyH_take (i := 16) (v := .agg (irow .u8 (bl nonce))) rfl (by kernel_rfl) (by kernel_rfl) (by kernel_rfl) (fun _ _ _ h => h) (Or.inl ⟨by rfl, ?y15⟩) (⟨RB, rk⟩) ?r15
  case y15 =>
    intro w_ hS_
    simp only [List.getElem_toArray, List.getElem_cons_succ, List.getElem_cons_zero]
    exact run_load_part 28 _ (by rfl) (w.heap.size) 32 (by rfl) 31 (boxr key nonce (.slice ue extra.length uec) (.slice ud d.length udc)) (0, 0) (irow .u8 (bl nonce)) _ (hS_.1) (box_nonce _ _ _ _ hk) Tryd.underlying28 rfl hiN
  simp only [Act.put, List.getElem_toArray, List.getElem_cons_succ, List.getElem_cons_zero, List.setIfInBounds_toArray, List.set_cons_succ, List.set_cons_zero]
  refine wpAnyH_take (i := 17) (v := ?v16) rfl (by kernel_rfl) (by kernel_rfl) (by kernel_rfl) (fun _ _ _ h => h) (Or.inl ⟨by rfl, ?y16⟩) (⟨RB, rk⟩) ?r16
  case y16 =>
    intro w_ hS_
    go_simp
    try with_reducible rfl
  simp only [Act.put, List.getElem_toArray, List.getElem_cons_succ, List.getElem_cons_zero, List.setIfInBounds_toArray, List.set_cons_succ, List.set_cons_zero]
  refine wpAnyH_take (i := 18) (v := .slice ue extra.length uec) rfl (by kernel_rfl) (by kernel_rfl) (by kernel_rfl) (fun _ _ _ h => h) (Or.inl ⟨by rfl, ?y17⟩) (⟨RB, rk⟩) ?r17
  case y17 =>
    intro w_ hS_
    have c_ := (box_cell (hS_.1) hk hno).1
    go_simp
    try with_reducible rfl
  simp only [Act.put, List.getElem_toArray, List.getElem_cons_succ, List.getElem_cons_zero, List.setIfInBounds_toArray, List.set_cons_succ, List.set_cons_zero]
  refine wpAnyH_take (i := 19) (v := ?v18) rfl (by kernel_rfl) (by kernel_rfl) (by kernel_rfl) (fun _ _ _ h => h) (Or.inl ⟨by rfl, ?y18⟩) (⟨RB, rk⟩) ?r18
  case y18 =>
    intro w_ hS_
    go_simp
    try with_reducible rfl
  simp only [Act.put, List.getElem_toArray, List.getElem_cons_succ, List.getElem_cons_zero, List.setIfInBounds_toArray, List.set_cons_succ, List.set_cons_zero]
  refine wpAnyH_one (k := 20) (fuel := 2) (by kernel_rfl) rfl (by kernel_rfl) (fun K_ hK_ => ?_)
  have cT := l_tagged key nonce extra LA hk hno q2 _ _ (hS.below hw) (hK.below hw) (hEh.out _ hw) (hOva.bysB (by rw [hLl.out]; omega)) qA (by rw [hLl.out]; omega)
  rw [hT2.out] at cT
  refine wp_call_ex (f := 24) (by kernel_rfl) (ex1s cT) (fun v_ q3 hX_ => ?_)
  obtain ⟨rfl, hb_⟩ := hX_
  replace RB := keep hb_ RB
  replace rk := keep hb_ rk
  replace hOva := hOva.keep hb_
  replace hw := Below.after hw hb_
  clear hb_
  clear cT
  refine hK_ _ _ (⟨RB, rk⟩) ?_
  simp only [Act.put, List.getElem_toArray, List.getElem_cons_succ, List.getElem_cons_zero, List.setIfInBounds_toArray, List.set_cons_succ, List.set_cons_zero]
  clear hK_
  refine wpAnyH_take (i := 21) (v := ?v19) rfl (by kernel_rfl) (by kernel_rfl) (by kernel_rfl) (fun _ _ _ h => h) (Or.inl ⟨by rfl, ?y19⟩) (⟨RB, rk⟩) ?r19
  case y19 =>
    intro w_ hS_
    go_simp
    try with_reducible rfl
  simp only [Act.put, List.getElem_toArray, List.getElem_cons_succ, List.getElem_cons_zero, List.setIfInBounds_toArray, List.set_cons_succ, List.set_cons_zero]
  refine wpAnyH_take (i := 22) (v := ?v20) rfl (by kernel_rfl) (by kernel_rfl) (by kernel_rfl) (fun _ _ _ h => h) (Or.inl ⟨by rfl, ?y20⟩) (⟨RB, rk⟩) ?r20
  case y20 =>
    intro w_ hS_
    go_simp
    try with_reducible rfl
  simp only [Act.put, List.getElem_toArray, List.getElem_cons_succ, List.getElem_cons_zero, List.setIfInBounds_toArray, List.set_cons_succ, List.set_cons_zero]
  refine wpAnyH_done (by kernel_rfl) ?_ _
  refine NoPanic.normal ?_
  go_wp2
  go_ret
  exact ⟨rfl, hw⟩
theorem parts_any (key nonce extra d : List B) (hk : key.length = 32) (hno : nonce.length = 16) (w : World) (ve vd : Value) (hS : Sta w) (hK : Kon w) (hE : BysC w ve extra) (hD : BysC w vd d) : Calls Tryd.prog 8 #[.agg (boxr key nonce ve vd)] w fun e w' => e = .returned (.bool true) ∧ Below w.heap.size w w' := by
  by_cases h : 2097216 < extra.length ∨ 2097216 < d.length
  · exact parts_long key nonce extra d hk hno w ve vd hS hK hE hD h
  · exact parts_ok key nonce extra d hk hno w ve vd hS hK hE hD (by omega)

end Go.Proofs.YtamieopjigjfiaaDoor
