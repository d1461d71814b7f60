import Derived.Test.YtgbkbcgjagcgbaaGreatDoorProg
import Derived.WalkKit
import Derived.WalkSpells
import Derived.WalkLawsBesides
import Derived.Lib.QuietBelow
import Derived.BigQuiet
import Derived.OrdersHeld
import Derived.Deep.RegionHeld3
import Derived.OwnWalk
import Derived.Deep.Cut
import Derived.Test.YtgbkbcgjagcgbaaGreatDoorKa
import Derived.Test.YtgbkbcgjagcgbaaGreatDoorAgq
namespace Go.Proofs.YtgbkbcgjagcgbaaGreatDoor
set_option maxRecDepth 100000
open Go Go.RowKit Go.Sort
attribute [local go_sem] setCell_drewN alloc_drewN
set_option maxRecDepth 100000 in
set_option maxHeartbeats 4000000 in
theorem answers_any (ia ib sa sb oa ob p f : List Int) (h : Bool) (kia : K8 ia) (kib : K8 ib) (ksa : K8 sa) (ksb : K8 sb) (koa : K8 oa) (kob : K8 ob) (kp : K8 p) (kf : K8 f) (w : World) (hF : Lo.Four w) (hS : Sta w) (hK : Kon w) : Calls Tryz.prog 4 #[.agg (psrow ia ib sa sb oa ob h), .agg (irow .u8 p), .agg (irow .u8 f)] w fun e w' => e = .returned (.bool true) ∧ Below w.heap.size w w' := by
 have R0 := hp3_0 w (.cells (psrow ia ib sa sb oa ob h) 39) (.cells (irow .u8 p) 23) (.cells (irow .u8 f) 23)
 have R1 := hp3_1 w (.cells (psrow ia ib sa sb oa ob h) 39) (.cells (irow .u8 p) 23) (.cells (irow .u8 f) 23)
 have R2 := hp3_2 w (.cells (psrow ia ib sa sb oa ob h) 39) (.cells (irow .u8 p) 23) (.cells (irow .u8 f) 23)
 have hw : Below w.heap.size w (((w.alloc (.cells (psrow ia ib sa sb oa ob h) 39)).alloc (.cells (irow .u8 p) 23)).alloc (.cells (irow .u8 f) 23)) := ((((Below.refl _ _).alloc (Nat.le_refl _) _).alloc (by simp) _).alloc (by simp; omega) _)
 replace hF := hF.below hw
 replace hS := hS.below hw
 replace hK := hK.below hw
 have zn := zr_len 32
 have bt := both2 ia ib sa sb oa ob p f h kia.1 ksa.1 koa.1 kp.1 kf.1
 have cA : ∀ W : World, Lo.Four W → Sta W → Kon W → Calls Tryz.prog 9 #[.agg (prow ia ib), .agg (prow sa sb), .agg (prow oa ob), .bool h, .agg (irow .u8 p), .agg (irow .u8 f)] W (AnsR (ans true ((hlv sa p ia f sa f oa f h).map shH) (fer erH (hlv sa p ia f sa f oa f h)) p ib) W) := fun W a b c => (a_Answer ia ib sa sb oa ob p f h kia kib ksa ksb koa kob kp kf W a b c).mono fun e w' hX => by
   have q := hX.toAns
   rw [bt.1, bt.2] at q
   exact q
 have cR : ∀ W : World, Calls Tryz.prog 10 #[.agg (prow ia ib), .agg (prow sa sb), .agg (prow oa ob), .bool h, .agg (irow .u8 p), .agg (irow .u8 f)] W (AnsR (ans true ((hlv sa p ia f sa f oa f h).map shH) (fer erH (hlv sa p ia f sa f oa f h)) p ib) W) := fun W => (r_Answer ia ib sa sb oa ob p f h kia kib ksa koa kp kf W).mono fun e w' hX => hX.toAns
 have ok := ans_ok true ((hlv sa p ia f sa f oa f h).map shH) (fer erH (hlv sa p ia f sa f oa f h)) p ib kp kib
 have xI := ps_iaib ia ib sa sb oa ob h kia.1 kib.1
 have xS := ps_sasb ia ib sa sb oa ob h kia.1 kib.1 ksa.1 ksb.1
 have xO := ps_oaob ia ib sa sb oa ob h kia.1 kib.1 ksa.1 ksb.1 koa.1 kob.1
 have qh := ps_h ia ib sa sb oa ob h kia.1 kib.1 ksa.1 ksb.1 koa.1 kob.1
 clear bt
 generalize ans true ((hlv sa p ia f sa f oa f h).map shH) (fer erH (hlv sa p ia f sa f oa f h)) p ib = t at *
 generalize psrow ia ib sa sb oa ob h = RP at *
 go_enter Tryz.func4, Tryz.ntmps4
 go_upto_region 1 with (first | (refine wpList_box rfl 39 _ rfl _ rfl (box_psrow _) ?_) | (refine wpList_box rfl 23 _ rfl _ rfl (bKy _) ?_) | fail)
 try simp only [size_alloc1, Act.put, List.setIfInBounds_toArray, List.set_cons_succ, List.set_cons_zero]
 generalize (((w.alloc (.cells RP 39)).alloc (.cells (irow .u8 p) 23)).alloc (.cells (irow .u8 f) 23)) = w1 at *
 have cb0 : w1.cell? ⟨w.heap.size, 192, none⟩ = some (.bool h) := (cell_of_row _ _ _ _ _ _ R0).trans qh
 repeat ((fail_if_success (refine wpList_load_part rfl 25 _ rfl (w.heap.size) 0 rfl 39 RP (0, 0) (prow ia ib) _ R0 xI Tryz.underlying25 rfl (infoPr kia.1 kib.1) ?_)); first | go_skip | go_step)
 refine wpList_load_part rfl 25 _ rfl (w.heap.size) 0 rfl 39 RP (0, 0) (prow ia ib) _ R0 xI Tryz.underlying25 rfl (infoPr kia.1 kib.1) ?_
 repeat ((fail_if_success (refine wpList_load_part rfl 25 _ rfl (w.heap.size) 64 rfl 39 RP (0, 0) (prow sa sb) _ R0 xS Tryz.underlying25 rfl (infoPr ksa.1 ksb.1) ?_)); first | go_skip | go_step)
 refine wpList_load_part rfl 25 _ rfl (w.heap.size) 64 rfl 39 RP (0, 0) (prow sa sb) _ R0 xS Tryz.underlying25 rfl (infoPr ksa.1 ksb.1) ?_
 repeat ((fail_if_success (refine wpList_load_part rfl 25 _ rfl (w.heap.size) 128 rfl 39 RP (0, 0) (prow oa ob) _ R0 xO Tryz.underlying25 rfl (infoPr koa.1 kob.1) ?_)); first | go_skip | go_step)
 refine wpList_load_part rfl 25 _ rfl (w.heap.size) 128 rfl 39 RP (0, 0) (prow oa ob) _ R0 xO Tryz.underlying25 rfl (infoPr koa.1 kob.1) ?_
 repeat ((fail_if_success (refine wpList_load_want rfl 23 _ rfl (w.heap.size + 1) rfl 23 (irow .u8 p) (0, 0) _ R1 Tryz.underlying23 rfl (infoKy _ kp.1) ?_)); first | go_skip | go_step)
 refine wpList_load_want rfl 23 _ rfl (w.heap.size + 1) rfl 23 (irow .u8 p) (0, 0) _ R1 Tryz.underlying23 rfl (infoKy _ kp.1) ?_
 repeat ((fail_if_success (refine wpList_load_want rfl 23 _ rfl (w.heap.size + 1 + 1) rfl 23 (irow .u8 f) (0, 0) _ R2 Tryz.underlying23 rfl (infoKy _ kf.1) ?_)); first | go_skip | go_step)
 refine wpList_load_want rfl 23 _ rfl (w.heap.size + 1 + 1) rfl 23 (irow .u8 f) (0, 0) _ R2 Tryz.underlying23 rfl (infoKy _ kf.1) ?_
 try simp only [Act.put, List.setIfInBounds_toArray, List.set_cons_succ, List.set_cons_zero]
 go_wp2_with (fail)
 refine (cA w1 hF hS hK).mono ?_
 rintro e_ v0W hX
 obtain ⟨v0, rfl, hO0, hb⟩ := hX
 have ltR00 := lt_of_row R0
 replace R0 := keep hb R0
 have ltR10 := lt_of_row R1
 replace R1 := keep hb R1
 have ltR20 := lt_of_row R2
 replace R2 := keep hb R2
 have sz0 := hw.size
 replace hF := hF.below hb
 replace hS := hS.below hb
 replace hK := hK.below hb
 replace hw := Below.after hw hb
 clear hb
 clear cb0
 have on0 := own_oneI hO0
 have z_ := hp1_0 v0W (.cells scz 30)
 go_wp2_with (first | (refine wpList_alloc rfl 30 rfl scz zScA ?_) | (refine wpList_store_row rfl 30 _ _ rfl (v0W.heap.size) (scr t.a t.b t.c v0) rfl rfl 30 _ z_ (info_scr _ _ _ _ ok.a ok.b ok.c) (fit_scr _ _ _ _ zn zn zn _ _ _ _ ok.a ok.b ok.c) (scr_one _ _ _ _ on0) ?_; refine wpList_stay ?_) | fail)
 unfold WpStay
 try simp only [Act.put, List.setIfInBounds_toArray, List.set_cons_succ, List.set_cons_zero]
 have S0 := setRow_heap (v0W.alloc (.cells scz 30)) v0W.heap.size _ (scr t.a t.b t.c v0) _ _ z_
 have hb_ : Below v0W.heap.size v0W ((v0W.alloc (.cells scz 30)).setRow v0W.heap.size (scr t.a t.b t.c v0)) := below_setRow ((Below.refl _ _).alloc (Nat.le_refl _) _) (Nat.le_refl _) _
 replace R0 := keep hb_ R0
 replace R1 := keep hb_ R1
 replace R2 := keep hb_ R2
 have lp00 := fun z e => (hO0.lt z e).2
 replace hO0 := hO0.keep hb_
 have sy0 := hw.size
 have sx0 := hb_.size
 replace hF := hF.below hb_
 replace hS := hS.below hb_
 replace hK := hK.below hb_
 replace hw := Below.after hw hb_
 clear hb_ z_
 generalize (v0W.alloc (.cells scz 30)).setRow v0W.heap.size (scr t.a t.b t.c v0) = a0W at *
 generalize v0W.heap.size = g0 at *
 go_upto_region 2 with (fail)
 have cb1 : a0W.cell? ⟨w.heap.size, 192, none⟩ = some (.bool h) := (cell_of_row _ _ _ _ _ _ R0).trans qh
 repeat ((fail_if_success (refine wpList_load_part rfl 25 _ rfl (w.heap.size) 0 rfl 39 RP (0, 0) (prow ia ib) _ R0 xI Tryz.underlying25 rfl (infoPr kia.1 kib.1) ?_)); first | go_skip | go_step)
 refine wpList_load_part rfl 25 _ rfl (w.heap.size) 0 rfl 39 RP (0, 0) (prow ia ib) _ R0 xI Tryz.underlying25 rfl (infoPr kia.1 kib.1) ?_
 repeat ((fail_if_success (refine wpList_load_part rfl 25 _ rfl (w.heap.size) 64 rfl 39 RP (0, 0) (prow sa sb) _ R0 xS Tryz.underlying25 rfl (infoPr ksa.1 ksb.1) ?_)); first | go_skip | go_step)
 refine wpList_load_part rfl 25 _ rfl (w.heap.size) 64 rfl 39 RP (0, 0) (prow sa sb) _ R0 xS Tryz.underlying25 rfl (infoPr ksa.1 ksb.1) ?_
 repeat ((fail_if_success (refine wpList_load_part rfl 25 _ rfl (w.heap.size) 128 rfl 39 RP (0, 0) (prow oa ob) _ R0 xO Tryz.underlying25 rfl (infoPr koa.1 kob.1) ?_)); first | go_skip | go_step)
 refine wpList_load_part rfl 25 _ rfl (w.heap.size) 128 rfl 39 RP (0, 0) (prow oa ob) _ R0 xO Tryz.underlying25 rfl (infoPr koa.1 kob.1) ?_
 repeat ((fail_if_success (refine wpList_load_want rfl 23 _ rfl (w.heap.size + 1) rfl 23 (irow .u8 p) (0, 0) _ R1 Tryz.underlying23 rfl (infoKy _ kp.1) ?_)); first | go_skip | go_step)
 refine wpList_load_want rfl 23 _ rfl (w.heap.size + 1) rfl 23 (irow .u8 p) (0, 0) _ R1 Tryz.underlying23 rfl (infoKy _ kp.1) ?_
 repeat ((fail_if_success (refine wpList_load_want rfl 23 _ rfl (w.heap.size + 1 + 1) rfl 23 (irow .u8 f) (0, 0) _ R2 Tryz.underlying23 rfl (infoKy _ kf.1) ?_)); first | go_skip | go_step)
 refine wpList_load_want rfl 23 _ rfl (w.heap.size + 1 + 1) rfl 23 (irow .u8 f) (0, 0) _ R2 Tryz.underlying23 rfl (infoKy _ kf.1) ?_
 try simp only [Act.put, List.setIfInBounds_toArray, List.set_cons_succ, List.set_cons_zero]
 go_wp2_with (fail)
 refine (cA a0W hF hS hK).mono ?_
 rintro e_ v1W hX
 obtain ⟨v1, rfl, hO1, hb⟩ := hX
 have ltR01 := lt_of_row R0
 replace R0 := keep hb R0
 have ltR11 := lt_of_row R1
 replace R1 := keep hb R1
 have ltR21 := lt_of_row R2
 replace R2 := keep hb R2
 have ltS01 := lt_of_row S0
 replace S0 := keep hb S0
 have lo01 := fun z e => (hO0.lt z e).2
 replace hO0 := hO0.keep hb
 have sz1 := hw.size
 replace hF := hF.below hb
 replace hS := hS.below hb
 replace hK := hK.below hb
 replace hw := Below.after hw hb
 clear hb
 clear cb1
 have on1 := own_oneI hO1
 have z_ := hp1_0 v1W (.cells scz 30)
 go_wp2_with (first | (refine wpList_alloc rfl 30 rfl scz zScA ?_) | (refine wpList_store_row rfl 30 _ _ rfl (v1W.heap.size) (scr t.a t.b t.c v1) rfl rfl 30 _ z_ (info_scr _ _ _ _ ok.a ok.b ok.c) (fit_scr _ _ _ _ zn zn zn _ _ _ _ ok.a ok.b ok.c) (scr_one _ _ _ _ on1) ?_; refine wpList_stay ?_) | fail)
 unfold WpStay
 try simp only [Act.put, List.setIfInBounds_toArray, List.set_cons_succ, List.set_cons_zero]
 have S1 := setRow_heap (v1W.alloc (.cells scz 30)) v1W.heap.size _ (scr t.a t.b t.c v1) _ _ z_
 have hb_ : Below v1W.heap.size v1W ((v1W.alloc (.cells scz 30)).setRow v1W.heap.size (scr t.a t.b t.c v1)) := below_setRow ((Below.refl _ _).alloc (Nat.le_refl _) _) (Nat.le_refl _) _
 replace R0 := keep hb_ R0
 replace R1 := keep hb_ R1
 replace R2 := keep hb_ R2
 replace S0 := keep hb_ S0
 have lp01 := fun z e => (hO0.lt z e).2
 replace hO0 := hO0.keep hb_
 have lp11 := fun z e => (hO1.lt z e).2
 replace hO1 := hO1.keep hb_
 have sy1 := hw.size
 have sx1 := hb_.size
 replace hF := hF.below hb_
 replace hS := hS.below hb_
 replace hK := hK.below hb_
 replace hw := Below.after hw hb_
 clear hb_ z_
 generalize (v1W.alloc (.cells scz 30)).setRow v1W.heap.size (scr t.a t.b t.c v1) = a1W at *
 generalize v1W.heap.size = g1 at *
 go_upto_region 3 with (fail)
 have cb2 : a1W.cell? ⟨w.heap.size, 192, none⟩ = some (.bool h) := (cell_of_row _ _ _ _ _ _ R0).trans qh
 repeat ((fail_if_success (refine wpList_load_part rfl 25 _ rfl (w.heap.size) 0 rfl 39 RP (0, 0) (prow ia ib) _ R0 xI Tryz.underlying25 rfl (infoPr kia.1 kib.1) ?_)); first | go_skip | go_step)
 refine wpList_load_part rfl 25 _ rfl (w.heap.size) 0 rfl 39 RP (0, 0) (prow ia ib) _ R0 xI Tryz.underlying25 rfl (infoPr kia.1 kib.1) ?_
 repeat ((fail_if_success (refine wpList_load_part rfl 25 _ rfl (w.heap.size) 64 rfl 39 RP (0, 0) (prow sa sb) _ R0 xS Tryz.underlying25 rfl (infoPr ksa.1 ksb.1) ?_)); first | go_skip | go_step)
 refine wpList_load_part rfl 25 _ rfl (w.heap.size) 64 rfl 39 RP (0, 0) (prow sa sb) _ R0 xS Tryz.underlying25 rfl (infoPr ksa.1 ksb.1) ?_
 repeat ((fail_if_success (refine wpList_load_part rfl 25 _ rfl (w.heap.size) 128 rfl 39 RP (0, 0) (prow oa ob) _ R0 xO Tryz.underlying25 rfl (infoPr koa.1 kob.1) ?_)); first | go_skip | go_step)
 refine wpList_load_part rfl 25 _ rfl (w.heap.size) 128 rfl 39 RP (0, 0) (prow oa ob) _ R0 xO Tryz.underlying25 rfl (infoPr koa.1 kob.1) ?_
 repeat ((fail_if_success (refine wpList_load_want rfl 23 _ rfl (w.heap.size + 1) rfl 23 (irow .u8 p) (0, 0) _ R1 Tryz.underlying23 rfl (infoKy _ kp.1) ?_)); first | go_skip | go_step)
 refine wpList_load_want rfl 23 _ rfl (w.heap.size + 1) rfl 23 (irow .u8 p) (0, 0) _ R1 Tryz.underlying23 rfl (infoKy _ kp.1) ?_
 repeat ((fail_if_success (refine wpList_load_want rfl 23 _ rfl (w.heap.size + 1 + 1) rfl 23 (irow .u8 f) (0, 0) _ R2 Tryz.underlying23 rfl (infoKy _ kf.1) ?_)); first | go_skip | go_step)
 refine wpList_load_want rfl 23 _ rfl (w.heap.size + 1 + 1) rfl 23 (irow .u8 f) (0, 0) _ R2 Tryz.underlying23 rfl (infoKy _ kf.1) ?_
 try simp only [Act.put, List.setIfInBounds_toArray, List.set_cons_succ, List.set_cons_zero]
 go_wp2_with (fail)
 refine (cR a1W).mono ?_
 rintro e_ v2W hX
 obtain ⟨v2, rfl, hO2, hb⟩ := hX
 have ltR02 := lt_of_row R0
 replace R0 := keep hb R0
 have ltR12 := lt_of_row R1
 replace R1 := keep hb R1
 have ltR22 := lt_of_row R2
 replace R2 := keep hb R2
 have ltS02 := lt_of_row S0
 replace S0 := keep hb S0
 have ltS12 := lt_of_row S1
 replace S1 := keep hb S1
 have lo02 := fun z e => (hO0.lt z e).2
 replace hO0 := hO0.keep hb
 have lo12 := fun z e => (hO1.lt z e).2
 replace hO1 := hO1.keep hb
 have sz2 := hw.size
 replace hF := hF.below hb
 replace hS := hS.below hb
 replace hK := hK.below hb
 replace hw := Below.after hw hb
 clear hb
 clear cb2
 have on2 := own_oneI hO2
 have z_ := hp1_0 v2W (.cells scz 30)
 go_wp2_with (first | (refine wpList_alloc rfl 30 rfl scz zScA ?_) | (refine wpList_store_row rfl 30 _ _ rfl (v2W.heap.size) (scr t.a t.b t.c v2) rfl rfl 30 _ z_ (info_scr _ _ _ _ ok.a ok.b ok.c) (fit_scr _ _ _ _ zn zn zn _ _ _ _ ok.a ok.b ok.c) (scr_one _ _ _ _ on2) ?_; refine wpList_stay ?_) | fail)
 unfold WpStay
 try simp only [Act.put, List.setIfInBounds_toArray, List.set_cons_succ, List.set_cons_zero]
 have S2 := setRow_heap (v2W.alloc (.cells scz 30)) v2W.heap.size _ (scr t.a t.b t.c v2) _ _ z_
 have hb_ : Below v2W.heap.size v2W ((v2W.alloc (.cells scz 30)).setRow v2W.heap.size (scr t.a t.b t.c v2)) := below_setRow ((Below.refl _ _).alloc (Nat.le_refl _) _) (Nat.le_refl _) _
 replace R0 := keep hb_ R0
 replace R1 := keep hb_ R1
 replace R2 := keep hb_ R2
 replace S0 := keep hb_ S0
 replace S1 := keep hb_ S1
 have lp02 := fun z e => (hO0.lt z e).2
 replace hO0 := hO0.keep hb_
 have lp12 := fun z e => (hO1.lt z e).2
 replace hO1 := hO1.keep hb_
 have lp22 := fun z e => (hO2.lt z e).2
 replace hO2 := hO2.keep hb_
 have sy2 := hw.size
 have sx2 := hb_.size
 replace hF := hF.below hb_
 replace hS := hS.below hb_
 replace hK := hK.below hb_
 replace hw := Below.after hw hb_
 clear hb_ z_
 generalize (v2W.alloc (.cells scz 30)).setRow v2W.heap.size (scr t.a t.b t.c v2) = a2W at *
 generalize v2W.heap.size = g2 at *
 clear hF hS hK
 have B0 := ((Sec.bys (.inl hO0)) (by have := ok.l; omega) ok.z).1
 have B1 := ((Sec.bys (.inl hO1)) (by have := ok.l; omega) ok.z).1
 have B2 := ((Sec.bys (.inl hO2)) (by have := ok.l; omega) ok.z).1
 have q0 := sc_v t.a t.b t.c v0 ok.a ok.b ok.c
 have q1 := sc_v t.a t.b t.c v1 ok.a ok.b ok.c
 have ol := ok.l
 have i0 := info_scr t.a t.b t.c v0 ok.a ok.b ok.c
 have i1 := info_scr t.a t.b t.c v1 ok.a ok.b ok.c
 have i2 := info_scr t.a t.b t.c v2 ok.a ok.b ok.c
 have cS := fun W (h0 : Bys W v0 t.l) (h2 : Bys W v2 t.l) => l_sameSec t.a t.b t.c t.l v0 v2 ok.a ok.b ok.c W h0 h2
 have cT := fun W (h0 : Bys W v1 t.l) (h2 : Bys W v2 t.l) => l_sameSec t.a t.b t.c t.l v1 v2 ok.a ok.b ok.c W h0 h2
 generalize scr t.a t.b t.c v0 = A0 at *
 generalize scr t.a t.b t.c v1 = A1 at *
 generalize scr t.a t.b t.c v2 = A2 at *
 generalize t.e = E at *
 go_upto_region 4 with (fail)
 repeat ((fail_if_success (refine wpList_load_want rfl 30 _ rfl g0 rfl 30 A0 (0, 0) _ S0 Tryz.underlying30 rfl i0 ?_)); first | go_skip | go_step)
 refine wpList_load_want rfl 30 _ rfl g0 rfl 30 A0 (0, 0) _ S0 Tryz.underlying30 rfl i0 ?_
 repeat ((fail_if_success (refine wpList_load_want rfl 30 _ rfl g2 rfl 30 A2 (0, 0) _ S2 Tryz.underlying30 rfl i2 ?_)); first | go_skip | go_step)
 refine wpList_load_want rfl 30 _ rfl g2 rfl 30 A2 (0, 0) _ S2 Tryz.underlying30 rfl i2 ?_
 try simp only [Act.put, List.setIfInBounds_toArray, List.set_cons_succ, List.set_cons_zero]
 go_wp2_with (fail)
 refine (cS _ B0 B2).mono ?_
 rintro e_ wP ⟨rfl, hb⟩
 replace S0 := keep hb S0
 replace S1 := keep hb S1
 replace S2 := keep hb S2
 replace hO0 := hO0.keep hb
 replace hO1 := hO1.keep hb
 replace B1 := B1.keep hb
 replace B2 := B2.keep hb
 replace hw := Below.after hw hb
 clear hb cS B0
 go_wp2_with (first | (refine wpList_load_want rfl 30 _ rfl g1 rfl 30 A1 (0, 0) _ S1 Tryz.underlying30 rfl i1 ?_) | (refine wpList_load_want rfl 30 _ rfl g2 rfl 30 A2 (0, 0) _ S2 Tryz.underlying30 rfl i2 ?_) | fail)
 refine (cT _ B1 B2).mono ?_
 rintro e_ wQ ⟨rfl, hb⟩
 replace S0 := keep hb S0
 replace S1 := keep hb S1
 replace hO0 := hO0.keep hb
 replace hO1 := hO1.keep hb
 replace hw := Below.after hw hb
 clear hb cT B1 B2 S2
 obtain ⟨x0, y0, hx0⟩ := hO0.form
 obtain ⟨x1, y1, hx1⟩ := hO1.form
 generalize t.l.length = n0 at hx0 hx1
 subst hx0 hx1
 have c_0 : wQ.cell? ⟨g0, 96, none⟩ = some (.slice x0 n0 y0) := (cell_of_row _ _ _ _ _ _ S0).trans q0
 have c_1 : wQ.cell? ⟨g1, 96, none⟩ = some (.slice x1 n0 y1) := (cell_of_row _ _ _ _ _ _ S1).trans q1
 have rP := hp1_0 wQ (.cells #[.slice x0 n0 y0, .slice x1 n0 y1] 28)
 have hb_ : Below wQ.heap.size wQ (wQ.alloc (.cells #[.slice x0 n0 y0, .slice x1 n0 y1] 28)) := (Below.refl _ _).alloc (Nat.le_refl _) _
 have szQ := hw.size
 have u0 := fun z e => (hO0.lt z e)
 have u1 := fun z e => (hO1.lt z e)
 replace hO0 := (hO0.keep hb_).down (by omega)
 replace hO1 := (hO1.keep hb_).down (by omega)
 have szA := hb_.size
 have cA2 := l_apart2 (.slice x0 n0 y0) (.slice x1 n0 y1) t.l t.l w.heap.size wQ.heap.size _ hO0 hO1 (fun k e f => by have := lp00 k e; have := (u1 k f).1; omega) (fun k e => by have := (u0 k e).2; omega) (fun k e => by have := (u1 k e).2; omega) ol ol (by omega) rP
 replace hw := hw.trans (hb_.mono szQ)
 clear hb_ hO0 hO1 S0 S1
 go_wp2_with (fail)
 refine cA2.mono ?_
 rintro e_ wZ ⟨rfl, hb⟩
 replace hw := hw.trans hb
 go_wp2_with (fail)
 go_ret
 exact ⟨rfl, hw⟩
end Go.Proofs.YtgbkbcgjagcgbaaGreatDoor
