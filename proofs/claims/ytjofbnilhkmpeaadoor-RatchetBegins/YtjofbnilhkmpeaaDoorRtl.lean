import Derived.Test.YtjofbnilhkmpeaaDoorProg
import Derived.WalkKit
import Derived.WalkSpells
import Derived.WalkLawsBesides
import Derived.Lib.QuietBelow
import Derived.BigQuiet
import Derived.OrdersHeld
import Derived.Deep.RegionHeld3
import Derived.OwnWalk
import Derived.Test.YtjofbnilhkmpeaaDoorKa
import Derived.Test.YtjofbnilhkmpeaaDoorRtg
namespace Go.Proofs.YtjofbnilhkmpeaaDoor
set_option maxRecDepth 100000
open Go Go.RowKit Go.Sort Go.ChangeMaps Go.MapKept
attribute [local go_sem] setCell_drewN alloc_drewN

/-- How the two begin. -/
def alS (v k c : Int) (sh pe hA hB : List Int) : Stt := ⟨v, k, c, sh, zr 32, zr 32, pe, false, true, true, zr 32, zr 32, hA, 0, 0, false, zr 32, zr 32, hB, 0, false, .slice none 0 0⟩
def boS (v k c : Int) (sh opr opu hA hB : List Int) : Stt := ⟨v, k, c, sh, opr, opu, zr 32, true, false, false, zr 32, zr 32, hB, 0, 0, false, zr 32, zr 32, hA, 0, false, .slice none 0 0⟩
theorem alS_ok {v k c : Int} {sh pe hA hB : List Int} (h1 : sh.length = 32) (h2 : pe.length = 32) (h3 : hA.length = 32) (h4 : hB.length = 32) : (alS v k c sh pe hA hB).ok := ⟨h1, rfl, rfl, h2, rfl, rfl, h3, rfl, rfl, h4, rfl⟩
theorem boS_ok {v k c : Int} {sh opr opu hA hB : List Int} (h1 : sh.length = 32) (h2 : opr.length = 32) (h5 : opu.length = 32) (h3 : hA.length = 32) (h4 : hB.length = 32) : (boS v k c sh opr opu hA hB).ok := ⟨h1, h2, h5, rfl, rfl, rfl, h4, rfl, rfl, h3, rfl⟩
theorem mts_nil : mts [] [] = false := by rw [mts_false]; exact List.nodup_nil
theorem rck_al (v k c : Int) (sh pe hA hB : List Int) : rck (alS v k c sh pe hA hB) [] = cfE v k c := by
  by_cases h0 : cfE v k c = 0
  · have hc := (cf_ok h0).2.2.2.1
    have h5 : B5 (alS v k c sh pe hA hB) ([] : List Sr).length = false := by simp [B5, alS]; omega
    rw [h0, rk7 (s := (alS v k c sh pe hA hB)) h0 h5 (by simp [B7, alS]) (by simp [B9, alS]) (by simp [B11, alS]) (by simp [B13, alS]) mts_nil]
  · exact rk0 (s := (alS v k c sh pe hA hB)) h0
theorem rck_bo (v k c : Int) (sh opr opu hA hB : List Int) : rck (boS v k c sh opr opu hA hB) [] = if cfE v k c ≠ 0 then cfE v k c else if ipr opr opu = true then 0 else 130 := by
  by_cases h0 : cfE v k c = 0
  · have hc := (cf_ok h0).2.2.2.1
    rw [if_neg (by rw [h0]; decide)]
    cases hi : ipr opr opu
    · have h5 : B5 (boS v k c sh opr opu hA hB) ([] : List Sr).length = true := by simp [B5, boS, hi]
      rw [rk1 (s := (boS v k c sh opr opu hA hB)) h0 h5]; rfl
    · have h5 : B5 (boS v k c sh opr opu hA hB) ([] : List Sr).length = false := by simp [B5, boS, hi]; omega
      rw [rk7 (s := (boS v k c sh opr opu hA hB)) h0 h5 (by simp [B7, boS]) (by simp [B9, boS]) (by simp [B11, boS]) (by simp [B13, boS]) mts_nil]; rfl
  · rw [if_pos h0]
    exact rk0 (s := (boS v k c sh opr opu hA hB)) h0
theorem spl_nil (W : World) : SpL W (.slice none 0 0) [] := ⟨none, 0, rfl, by simp, by simp, fun _ => rfl, AllOk.nil, fun i hi => by simp at hi⟩
theorem zr_K8 : K8 (zr 32) := ⟨rfl, fun x hx => by simp [zr] at hx; omega⟩
/-- What the document's Alice and Bob answer. -/
def RfR (s : Stt) (e : Ending) : Prop := (rck s [] ≠ 0 ∧ e = .returned (.tuple #[.agg (strow zst), .int .i64 (rck s [])])) ∨ (rck s [] = 0 ∧ e = .returned (.tuple #[.agg (strow s), .int .i64 0]))
theorem builtA (v k c : Int) (sh pe hA hB : List Int) (l_sh : sh.length = 32) (l_pe : pe.length = 32) (l_hA : hA.length = 32) (l_hB : hB.length = 32) : Tryd.prog.built 38 [(0, .agg (cfrow v k c)), (1, .agg (irow .u8 sh)), (3, .agg (irow .u8 pe)), (5, .bool true), (6, .bool true), (9, .agg (irow .u8 hA)), (15, .agg (irow .u8 hB))] = some (strow (alS v k c sh pe hA hB)) := by
  obtain ⟨sh0, sh1, sh2, sh3, sh4, sh5, sh6, sh7, sh8, sh9, sh10, sh11, sh12, sh13, sh14, sh15, sh16, sh17, sh18, sh19, sh20, sh21, sh22, sh23, sh24, sh25, sh26, sh27, sh28, sh29, sh30, sh31, rfl⟩ := len32 sh l_sh
  obtain ⟨pe0, pe1, pe2, pe3, pe4, pe5, pe6, pe7, pe8, pe9, pe10, pe11, pe12, pe13, pe14, pe15, pe16, pe17, pe18, pe19, pe20, pe21, pe22, pe23, pe24, pe25, pe26, pe27, pe28, pe29, pe30, pe31, rfl⟩ := len32 pe l_pe
  obtain ⟨hA0, hA1, hA2, hA3, hA4, hA5, hA6, hA7, hA8, hA9, hA10, hA11, hA12, hA13, hA14, hA15, hA16, hA17, hA18, hA19, hA20, hA21, hA22, hA23, hA24, hA25, hA26, hA27, hA28, hA29, hA30, hA31, rfl⟩ := len32 hA l_hA
  obtain ⟨hB0, hB1, hB2, hB3, hB4, hB5, hB6, hB7, hB8, hB9, hB10, hB11, hB12, hB13, hB14, hB15, hB16, hB17, hB18, hB19, hB20, hB21, hB22, hB23, hB24, hB25, hB26, hB27, hB28, hB29, hB30, hB31, rfl⟩ := len32 hB l_hB
  kernel_rfl
theorem builtB (v k c : Int) (sh opr opu hA hB : List Int) (l_sh : sh.length = 32) (l_opr : opr.length = 32) (l_opu : opu.length = 32) (l_hA : hA.length = 32) (l_hB : hB.length = 32) : Tryd.prog.built 38 [(0, .agg (cfrow v k c)), (1, .agg (irow .u8 sh)), (2, .agg (prow opr opu)), (4, .bool true), (9, .agg (irow .u8 hB)), (15, .agg (irow .u8 hA))] = some (strow (boS v k c sh opr opu hA hB)) := by
  obtain ⟨sh0, sh1, sh2, sh3, sh4, sh5, sh6, sh7, sh8, sh9, sh10, sh11, sh12, sh13, sh14, sh15, sh16, sh17, sh18, sh19, sh20, sh21, sh22, sh23, sh24, sh25, sh26, sh27, sh28, sh29, sh30, sh31, rfl⟩ := len32 sh l_sh
  obtain ⟨opr0, opr1, opr2, opr3, opr4, opr5, opr6, opr7, opr8, opr9, opr10, opr11, opr12, opr13, opr14, opr15, opr16, opr17, opr18, opr19, opr20, opr21, opr22, opr23, opr24, opr25, opr26, opr27, opr28, opr29, opr30, opr31, rfl⟩ := len32 opr l_opr
  obtain ⟨opu0, opu1, opu2, opu3, opu4, opu5, opu6, opu7, opu8, opu9, opu10, opu11, opu12, opu13, opu14, opu15, opu16, opu17, opu18, opu19, opu20, opu21, opu22, opu23, opu24, opu25, opu26, opu27, opu28, opu29, opu30, opu31, rfl⟩ := len32 opu l_opu
  obtain ⟨hA0, hA1, hA2, hA3, hA4, hA5, hA6, hA7, hA8, hA9, hA10, hA11, hA12, hA13, hA14, hA15, hA16, hA17, hA18, hA19, hA20, hA21, hA22, hA23, hA24, hA25, hA26, hA27, hA28, hA29, hA30, hA31, rfl⟩ := len32 hA l_hA
  obtain ⟨hB0, hB1, hB2, hB3, hB4, hB5, hB6, hB7, hB8, hB9, hB10, hB11, hB12, hB13, hB14, hB15, hB16, hB17, hB18, hB19, hB20, hB21, hB22, hB23, hB24, hB25, hB26, hB27, hB28, hB29, hB30, hB31, rfl⟩ := len32 hB l_hB
  kernel_rfl
set_option maxRecDepth 100000 in
set_option maxHeartbeats 4000000 in
theorem a_Alice (v k c : Int) (sh pe hA hB : List Int) (l_sh : sh.length = 32) (l_pe : pe.length = 32) (l_hA : hA.length = 32) (l_hB : hB.length = 32) (w : World) (hF : Lo.Four w) : Calls Tryd.prog 12 #[.agg (irow .u8 sh), .agg (irow .u8 hA), .agg (irow .u8 hB), .agg (irow .u8 pe), .agg (cfrow v k c)] w (FmR (alS v k c sh pe hA hB) [] w) := by
  have R0 := hp5_0 w (.cells (irow .u8 sh) 23) (.cells (irow .u8 hA) 23) (.cells (irow .u8 hB) 23) (.cells (irow .u8 pe) 23) (.cells (cfrow v k c) 27)
  have R1 := hp5_1 w (.cells (irow .u8 sh) 23) (.cells (irow .u8 hA) 23) (.cells (irow .u8 hB) 23) (.cells (irow .u8 pe) 23) (.cells (cfrow v k c) 27)
  have R2 := hp5_2 w (.cells (irow .u8 sh) 23) (.cells (irow .u8 hA) 23) (.cells (irow .u8 hB) 23) (.cells (irow .u8 pe) 23) (.cells (cfrow v k c) 27)
  have R3 := hp5_3 w (.cells (irow .u8 sh) 23) (.cells (irow .u8 hA) 23) (.cells (irow .u8 hB) 23) (.cells (irow .u8 pe) 23) (.cells (cfrow v k c) 27)
  have R4 := hp5_4 w (.cells (irow .u8 sh) 23) (.cells (irow .u8 hA) 23) (.cells (irow .u8 hB) 23) (.cells (irow .u8 pe) 23) (.cells (cfrow v k c) 27)
  have hw : Below w.heap.size w (((((w.alloc (.cells (irow .u8 sh) 23)).alloc (.cells (irow .u8 hA) 23)).alloc (.cells (irow .u8 hB) 23)).alloc (.cells (irow .u8 pe) 23)).alloc (.cells (cfrow v k c) 27)) := ((((((Below.refl _ _).alloc (Nat.le_refl _) _).alloc (by simp) _).alloc (by simp; omega) _).alloc (by simp; omega) _).alloc (by simp; omega) _)
  have cF := a_From (alS v k c sh pe hA hB) (alS_ok l_sh l_pe l_hA l_hB) zr_K8 [] (((((w.alloc (.cells (irow .u8 sh) 23)).alloc (.cells (irow .u8 hA) 23)).alloc (.cells (irow .u8 hB) 23)).alloc (.cells (irow .u8 pe) 23)).alloc (.cells (cfrow v k c) 27)) (spl_nil _) (hF.below hw)
  have zs := hw.size
  go_enter Tryd.func12, Tryd.ntmps12
  go_upto_region 1 with (first | (refine wpList_box rfl 23 _ rfl _ rfl (bKy _) ?_) | (refine wpList_box rfl 27 _ rfl _ rfl (bCfA _) ?_) | fail)
  try simp only [size_alloc1, Act.put, List.setIfInBounds_toArray, List.set_cons_succ, List.set_cons_zero]
  generalize (((((w.alloc (.cells (irow .u8 sh) 23)).alloc (.cells (irow .u8 hA) 23)).alloc (.cells (irow .u8 hB) 23)).alloc (.cells (irow .u8 pe) 23)).alloc (.cells (cfrow v k c) 27)) = w5 at *
  repeat ((fail_if_success (refine wpList_load_want rfl 27 _ rfl (w.heap.size + 1 + 1 + 1 + 1) rfl 27 (cfrow v k c) (0, 0) _ R4 Tryd.underlying27 rfl infoCf ?_)); first | go_skip | go_step)
  refine wpList_load_want rfl 27 _ rfl (w.heap.size + 1 + 1 + 1 + 1) rfl 27 (cfrow v k c) (0, 0) _ R4 Tryd.underlying27 rfl infoCf ?_
  repeat ((fail_if_success (refine wpList_load_want rfl 23 _ rfl (w.heap.size) rfl 23 (irow .u8 sh) (0, 0) _ R0 Tryd.underlying23 rfl (infok8 _ l_sh) ?_)); first | go_skip | go_step)
  refine wpList_load_want rfl 23 _ rfl (w.heap.size) rfl 23 (irow .u8 sh) (0, 0) _ R0 Tryd.underlying23 rfl (infok8 _ l_sh) ?_
  repeat ((fail_if_success (refine wpList_load_want rfl 23 _ rfl (w.heap.size + 1 + 1 + 1) rfl 23 (irow .u8 pe) (0, 0) _ R3 Tryd.underlying23 rfl (infok8 _ l_pe) ?_)); first | go_skip | go_step)
  refine wpList_load_want rfl 23 _ rfl (w.heap.size + 1 + 1 + 1) rfl 23 (irow .u8 pe) (0, 0) _ R3 Tryd.underlying23 rfl (infok8 _ l_pe) ?_
  repeat ((fail_if_success (refine wpList_load_want rfl 23 _ rfl (w.heap.size + 1) rfl 23 (irow .u8 hA) (0, 0) _ R1 Tryd.underlying23 rfl (infok8 _ l_hA) ?_)); first | go_skip | go_step)
  refine wpList_load_want rfl 23 _ rfl (w.heap.size + 1) rfl 23 (irow .u8 hA) (0, 0) _ R1 Tryd.underlying23 rfl (infok8 _ l_hA) ?_
  repeat ((fail_if_success (refine wpList_load_want rfl 23 _ rfl (w.heap.size + 1 + 1) rfl 23 (irow .u8 hB) (0, 0) _ R2 Tryd.underlying23 rfl (infok8 _ l_hB) ?_)); first | go_skip | go_step)
  refine wpList_load_want rfl 23 _ rfl (w.heap.size + 1 + 1) rfl 23 (irow .u8 hB) (0, 0) _ R2 Tryd.underlying23 rfl (infok8 _ l_hB) ?_
  repeat ((fail_if_success (refine wpList_build_as rfl 38 _ rfl [(0, .agg (cfrow v k c)), (1, .agg (irow .u8 sh)), (3, .agg (irow .u8 pe)), (5, .bool true), (6, .bool true), (9, .agg (irow .u8 hA)), (15, .agg (irow .u8 hB))] rfl (strow (alS v k c sh pe hA hB)) (builtA v k c sh pe hA hB l_sh l_pe l_hA l_hB) ?_)); first | go_skip | go_step)
  refine wpList_build_as rfl 38 _ rfl [(0, .agg (cfrow v k c)), (1, .agg (irow .u8 sh)), (3, .agg (irow .u8 pe)), (5, .bool true), (6, .bool true), (9, .agg (irow .u8 hA)), (15, .agg (irow .u8 hB))] rfl (strow (alS v k c sh pe hA hB)) (builtA v k c sh pe hA hB l_sh l_pe l_hA l_hB) ?_
  go_wp2_with (fail)
  refine cF.mono ?_
  rintro e_ w6 h
  unfold FmR
  rcases h with ⟨E, hne, hk, rfl, hb⟩ | ⟨g, b, vv, hk, rfl, hS, hb⟩
  · replace hw := Below.after hw hb
    replace hne := hide hne
    replace hk := hide hk
    clear cF hb
    go_wp2_with (fail)
    go_ret2
    exact .inl ⟨E, hne.out, hk.out, rfl, hw⟩
  · replace hw := Below.after hw hb
    replace hk := hide hk
    clear cF hb
    go_wp2_with (fail)
    go_ret2
    exact .inr ⟨g, b, vv, hk.out, rfl, ⟨hS.row, own_down hS.own zs, hS.map, hS.ok, hS.nod, hS.most0, hS.len, by have := hS.bg; omega, by have := hS.bb; omega, hS.ne, hS.sok⟩, hw⟩
set_option maxRecDepth 100000 in
set_option maxHeartbeats 4000000 in
theorem a_Bob (v k c : Int) (sh opr opu hA hB : List Int) (l_sh : sh.length = 32) (l_opr : opr.length = 32) (l_opu : opu.length = 32) (l_hA : hA.length = 32) (l_hB : hB.length = 32) (ha : K8 opr) (w : World) (hF : Lo.Four w) : Calls Tryd.prog 14 #[.agg (irow .u8 sh), .agg (irow .u8 hA), .agg (irow .u8 hB), .agg (prow opr opu), .agg (cfrow v k c)] w (FmR (boS v k c sh opr opu hA hB) [] w) := by
  have R0 := hp5_0 w (.cells (irow .u8 sh) 23) (.cells (irow .u8 hA) 23) (.cells (irow .u8 hB) 23) (.cells (prow opr opu) 25) (.cells (cfrow v k c) 27)
  have R1 := hp5_1 w (.cells (irow .u8 sh) 23) (.cells (irow .u8 hA) 23) (.cells (irow .u8 hB) 23) (.cells (prow opr opu) 25) (.cells (cfrow v k c) 27)
  have R2 := hp5_2 w (.cells (irow .u8 sh) 23) (.cells (irow .u8 hA) 23) (.cells (irow .u8 hB) 23) (.cells (prow opr opu) 25) (.cells (cfrow v k c) 27)
  have R3 := hp5_3 w (.cells (irow .u8 sh) 23) (.cells (irow .u8 hA) 23) (.cells (irow .u8 hB) 23) (.cells (prow opr opu) 25) (.cells (cfrow v k c) 27)
  have R4 := hp5_4 w (.cells (irow .u8 sh) 23) (.cells (irow .u8 hA) 23) (.cells (irow .u8 hB) 23) (.cells (prow opr opu) 25) (.cells (cfrow v k c) 27)
  have hw : Below w.heap.size w (((((w.alloc (.cells (irow .u8 sh) 23)).alloc (.cells (irow .u8 hA) 23)).alloc (.cells (irow .u8 hB) 23)).alloc (.cells (prow opr opu) 25)).alloc (.cells (cfrow v k c) 27)) := ((((((Below.refl _ _).alloc (Nat.le_refl _) _).alloc (by simp) _).alloc (by simp; omega) _).alloc (by simp; omega) _).alloc (by simp; omega) _)
  have cF := a_From (boS v k c sh opr opu hA hB) (boS_ok l_sh l_opr l_opu l_hA l_hB) ha [] (((((w.alloc (.cells (irow .u8 sh) 23)).alloc (.cells (irow .u8 hA) 23)).alloc (.cells (irow .u8 hB) 23)).alloc (.cells (prow opr opu) 25)).alloc (.cells (cfrow v k c) 27)) (spl_nil _) (hF.below hw)
  have zs := hw.size
  go_enter Tryd.func14, Tryd.ntmps14
  go_upto_region 1 with (first | (refine wpList_box rfl 23 _ rfl _ rfl (bKy _) ?_) | (refine wpList_box rfl 25 _ rfl _ rfl (bPrA _) ?_) | (refine wpList_box rfl 27 _ rfl _ rfl (bCfA _) ?_) | fail)
  try simp only [size_alloc1, Act.put, List.setIfInBounds_toArray, List.set_cons_succ, List.set_cons_zero]
  generalize (((((w.alloc (.cells (irow .u8 sh) 23)).alloc (.cells (irow .u8 hA) 23)).alloc (.cells (irow .u8 hB) 23)).alloc (.cells (prow opr opu) 25)).alloc (.cells (cfrow v k c) 27)) = w5 at *
  repeat ((fail_if_success (refine wpList_load_want rfl 27 _ rfl (w.heap.size + 1 + 1 + 1 + 1) rfl 27 (cfrow v k c) (0, 0) _ R4 Tryd.underlying27 rfl infoCf ?_)); first | go_skip | go_step)
  refine wpList_load_want rfl 27 _ rfl (w.heap.size + 1 + 1 + 1 + 1) rfl 27 (cfrow v k c) (0, 0) _ R4 Tryd.underlying27 rfl infoCf ?_
  repeat ((fail_if_success (refine wpList_load_want rfl 23 _ rfl (w.heap.size) rfl 23 (irow .u8 sh) (0, 0) _ R0 Tryd.underlying23 rfl (infok8 _ l_sh) ?_)); first | go_skip | go_step)
  refine wpList_load_want rfl 23 _ rfl (w.heap.size) rfl 23 (irow .u8 sh) (0, 0) _ R0 Tryd.underlying23 rfl (infok8 _ l_sh) ?_
  repeat ((fail_if_success (refine wpList_load_want rfl 25 _ rfl (w.heap.size + 1 + 1 + 1) rfl 25 (prow opr opu) (0, 0) _ R3 Tryd.underlying25 rfl (infoPr l_opr l_opu) ?_)); first | go_skip | go_step)
  refine wpList_load_want rfl 25 _ rfl (w.heap.size + 1 + 1 + 1) rfl 25 (prow opr opu) (0, 0) _ R3 Tryd.underlying25 rfl (infoPr l_opr l_opu) ?_
  repeat ((fail_if_success (refine wpList_load_want rfl 23 _ rfl (w.heap.size + 1 + 1) rfl 23 (irow .u8 hB) (0, 0) _ R2 Tryd.underlying23 rfl (infok8 _ l_hB) ?_)); first | go_skip | go_step)
  refine wpList_load_want rfl 23 _ rfl (w.heap.size + 1 + 1) rfl 23 (irow .u8 hB) (0, 0) _ R2 Tryd.underlying23 rfl (infok8 _ l_hB) ?_
  repeat ((fail_if_success (refine wpList_load_want rfl 23 _ rfl (w.heap.size + 1) rfl 23 (irow .u8 hA) (0, 0) _ R1 Tryd.underlying23 rfl (infok8 _ l_hA) ?_)); first | go_skip | go_step)
  refine wpList_load_want rfl 23 _ rfl (w.heap.size + 1) rfl 23 (irow .u8 hA) (0, 0) _ R1 Tryd.underlying23 rfl (infok8 _ l_hA) ?_
  repeat ((fail_if_success (refine wpList_build_as rfl 38 _ rfl [(0, .agg (cfrow v k c)), (1, .agg (irow .u8 sh)), (2, .agg (prow opr opu)), (4, .bool true), (9, .agg (irow .u8 hB)), (15, .agg (irow .u8 hA))] rfl (strow (boS v k c sh opr opu hA hB)) (builtB v k c sh opr opu hA hB l_sh l_opr l_opu l_hA l_hB) ?_)); first | go_skip | go_step)
  refine wpList_build_as rfl 38 _ rfl [(0, .agg (cfrow v k c)), (1, .agg (irow .u8 sh)), (2, .agg (prow opr opu)), (4, .bool true), (9, .agg (irow .u8 hB)), (15, .agg (irow .u8 hA))] rfl (strow (boS v k c sh opr opu hA hB)) (builtB v k c sh opr opu hA hB l_sh l_opr l_opu l_hA l_hB) ?_
  go_wp2_with (fail)
  refine cF.mono ?_
  rintro e_ w6 h
  unfold FmR
  rcases h with ⟨E, hne, hk, rfl, hb⟩ | ⟨g, b, vv, hk, rfl, hS, hb⟩
  · replace hw := Below.after hw hb
    replace hne := hide hne
    replace hk := hide hk
    clear cF hb
    go_wp2_with (fail)
    go_ret2
    exact .inl ⟨E, hne.out, hk.out, rfl, hw⟩
  · replace hw := Below.after hw hb
    replace hk := hide hk
    clear cF hb
    go_wp2_with (fail)
    go_ret2
    exact .inr ⟨g, b, vv, hk.out, rfl, ⟨hS.row, own_down hS.own zs, hS.map, hS.ok, hS.nod, hS.most0, hS.len, by have := hS.bg; omega, by have := hS.bb; omega, hS.ne, hS.sok⟩, hw⟩

end Go.Proofs.YtjofbnilhkmpeaaDoor
