import Derived.Test.YtgbkbcgjagcgbaaGreatDoorProg
import Derived.WalkKit
import Derived.WalkSpells
import Derived.WalkLawsBesides
import Derived.Lib.QuietBelow
import Derived.BigQuiet
import Derived.OrdersHeld
import Derived.Deep.RegionHeld3
import Derived.OwnWalk
import Derived.Deep.Cut
import Derived.Test.YtgbkbcgjagcgbaaGreatDoorKa
import Derived.Test.YtgbkbcgjagcgbaaGreatDoorAgo
namespace Go.Proofs.YtgbkbcgjagcgbaaGreatDoor
set_option maxRecDepth 100000
open Go Go.RowKit Go.Sort
attribute [local go_sem] setCell_drewN alloc_drewN
theorem built_h (a b : List Int) (ha : a.length = 32) (hb : b.length = 32) : Tryz.prog.built 49 [(0, .agg (irow .u8 a)), (1, .agg (irow .u8 b))] = some (irow .u8 (a ++ b)) := by
 obtain ⟨a0, a1, a2, a3, a4, a5, a6, a7, a8, a9, a10, a11, a12, a13, a14, a15, a16, a17, a18, a19, a20, a21, a22, a23, a24, a25, a26, a27, a28, a29, a30, a31, rfl⟩ := len32 a ha
 obtain ⟨b0, b1, b2, b3, b4, b5, b6, b7, b8, b9, b10, b11, b12, b13, b14, b15, b16, b17, b18, b19, b20, b21, b22, b23, b24, b25, b26, b27, b28, b29, b30, b31, rfl⟩ := len32 b hb
 kernel_rfl
def hlv (a b c d e f g i : List Int) (h : Bool) : List (List Int) := [a ++ b, c ++ d, e ++ f] ++ if h then [g ++ i] else []
theorem hlv_f (a b c d e f g i : List Int) : hlv a b c d e f g i false = [a ++ b, c ++ d, e ++ f] := by simp [hlv]
theorem hlv_t (a b c d e f g i : List Int) : hlv a b c d e f g i true = [a ++ b, c ++ d, e ++ f] ++ [g ++ i] := by simp [hlv]
theorem hlv_n (a b c d e f g i : List Int) (h : Bool) : 0 < (hlv a b c d e f g i h).length ∧ (hlv a b c d e f g i h).length ≤ 4 := by
 cases h
 · rw [hlv_f]; exact ⟨by simp, by simp⟩
 · rw [hlv_t]; exact ⟨by simp, by simp⟩
theorem hlv_all {P : List Int → Prop} {a b c d e f g i : List Int} {h : Bool} (h1 : P (a ++ b)) (h2 : P (c ++ d)) (h3 : P (e ++ f)) (h4 : P (g ++ i)) : ∀ m ∈ hlv a b c d e f g i h, P m := by
 intro m hm
 cases h
 · rw [hlv_f] at hm
   simp only [List.mem_cons, List.not_mem_nil, or_false] at hm
   rcases hm with rfl | rfl | rfl <;> assumption
 · rw [hlv_t] at hm
   simp only [List.mem_append, List.mem_cons, List.not_mem_nil, or_false] at hm
   rcases hm with (rfl | rfl | rfl) | rfl <;> assumption
set_option maxRecDepth 100000 in
set_option maxHeartbeats 4000000 in
theorem r_Answer (ia ib sa sb oa ob p f : List Int) (h : Bool) (kia : K8 ia) (kib : K8 ib) (ksa : K8 sa) (koa : K8 oa) (kp : K8 p) (kf : K8 f) (w : World) : Calls Tryz.prog 10 #[.agg (prow ia ib), .agg (prow sa sb), .agg (prow oa ob), .bool h, .agg (irow .u8 p), .agg (irow .u8 f)] w (SeR shH erH (hlv sa p ia f sa f oa f h) p ib w) := by
 rw [prow_irow, prow_irow, prow_irow]
 have R0 := hp6_0 w (.cells (irow .u8 (ia ++ ib)) 25) (.cells (irow .u8 (sa ++ sb)) 25) (.cells (irow .u8 (oa ++ ob)) 25) (.cells (irow .u8 p) 23) (.cells (irow .u8 f) 23) (.cells scz 30)
 have R1 := hp6_1 w (.cells (irow .u8 (ia ++ ib)) 25) (.cells (irow .u8 (sa ++ sb)) 25) (.cells (irow .u8 (oa ++ ob)) 25) (.cells (irow .u8 p) 23) (.cells (irow .u8 f) 23) (.cells scz 30)
 have R2 := hp6_2 w (.cells (irow .u8 (ia ++ ib)) 25) (.cells (irow .u8 (sa ++ sb)) 25) (.cells (irow .u8 (oa ++ ob)) 25) (.cells (irow .u8 p) 23) (.cells (irow .u8 f) 23) (.cells scz 30)
 have R3 := hp6_3 w (.cells (irow .u8 (ia ++ ib)) 25) (.cells (irow .u8 (sa ++ sb)) 25) (.cells (irow .u8 (oa ++ ob)) 25) (.cells (irow .u8 p) 23) (.cells (irow .u8 f) 23) (.cells scz 30)
 have R4 := hp6_4 w (.cells (irow .u8 (ia ++ ib)) 25) (.cells (irow .u8 (sa ++ sb)) 25) (.cells (irow .u8 (oa ++ ob)) 25) (.cells (irow .u8 p) 23) (.cells (irow .u8 f) 23) (.cells scz 30)
 have R5 := hp6_5 w (.cells (irow .u8 (ia ++ ib)) 25) (.cells (irow .u8 (sa ++ sb)) 25) (.cells (irow .u8 (oa ++ ob)) 25) (.cells (irow .u8 p) 23) (.cells (irow .u8 f) 23) (.cells scz 30)
 have hw : Below w.heap.size w ((((((w.alloc (.cells (irow .u8 (ia ++ ib)) 25)).alloc (.cells (irow .u8 (sa ++ sb)) 25)).alloc (.cells (irow .u8 (oa ++ ob)) 25)).alloc (.cells (irow .u8 p) 23)).alloc (.cells (irow .u8 f) 23)).alloc (.cells scz 30)) := (((((((Below.refl _ _).alloc (Nat.le_refl _) _).alloc (by simp) _).alloc (by simp; omega) _).alloc (by simp; omega) _).alloc (by simp; omega) _).alloc (by simp; omega) _)
 have l0 : (sa ++ p).length = 64 := by simp [ksa.1, kp.1]
 have bb0 : B8 (sa ++ p) := B8.app ksa.2 kp.2
 have l1 : (ia ++ f).length = 64 := by simp [kia.1, kf.1]
 have bb1 : B8 (ia ++ f) := B8.app kia.2 kf.2
 have l2 : (sa ++ f).length = 64 := by simp [ksa.1, kf.1]
 have bb2 : B8 (sa ++ f) := B8.app ksa.2 kf.2
 have l3 : (oa ++ f).length = 64 := by simp [koa.1, kf.1]
 have bb3 : B8 (oa ++ f) := B8.app koa.2 kf.2
 have hh : ∀ m ∈ (hlv sa p ia f sa f oa f h), m.length = 64 := hlv_all l0 l1 l2 l3
 have hB : ∀ m ∈ (hlv sa p ia f sa f oa f h), B8 m := hlv_all bb0 bb1 bb2 bb3
 obtain ⟨n1, n4⟩ := hlv_n sa p ia f sa f oa f h
 have xia := app_ext0 ia ib
 have xsa := app_ext0 sa sb
 have xoa := app_ext0 oa ob
 have xib := app_ext1 ia ib 32 kia.1
 go_enter Tryz.func10, Tryz.ntmps10
 go_upto_region 1 with (first | (refine wpList_box rfl 25 _ rfl _ rfl (bPrA _) ?_) | (refine wpList_box rfl 23 _ rfl _ rfl (bKy _) ?_) | (refine wpList_alloc rfl 30 rfl scz zScA ?_) | fail)
 try simp only [size_alloc1, Act.put, List.setIfInBounds_toArray, List.set_cons_succ, List.set_cons_zero]
 generalize ((((((w.alloc (.cells (irow .u8 (ia ++ ib)) 25)).alloc (.cells (irow .u8 (sa ++ sb)) 25)).alloc (.cells (irow .u8 (oa ++ ob)) 25)).alloc (.cells (irow .u8 p) 23)).alloc (.cells (irow .u8 f) 23)).alloc (.cells scz 30)) = w2 at *
 repeat ((fail_if_success (refine wpList_load_part rfl 23 _ rfl (w.heap.size + 1) 0 rfl 25 (irow .u8 (sa ++ sb)) (0, 0) (irow .u8 sa) _ R1 xsa Tryz.underlying23 rfl (infoKy _ ksa.1) ?_)); first | go_skip | go_step)
 refine wpList_load_part rfl 23 _ rfl (w.heap.size + 1) 0 rfl 25 (irow .u8 (sa ++ sb)) (0, 0) (irow .u8 sa) _ R1 xsa Tryz.underlying23 rfl (infoKy _ ksa.1) ?_
 repeat ((fail_if_success (refine wpList_load_want rfl 23 _ rfl (w.heap.size + 1 + 1 + 1) rfl 23 (irow .u8 p) (0, 0) _ R3 Tryz.underlying23 rfl (infoKy _ kp.1) ?_)); first | go_skip | go_step)
 refine wpList_load_want rfl 23 _ rfl (w.heap.size + 1 + 1 + 1) rfl 23 (irow .u8 p) (0, 0) _ R3 Tryz.underlying23 rfl (infoKy _ kp.1) ?_
 try simp only [Act.put, List.setIfInBounds_toArray, List.set_cons_succ, List.set_cons_zero]
 repeat ((fail_if_success (refine wpList_build_as rfl 49 _ rfl [(0, .agg (irow .u8 sa)), (1, .agg (irow .u8 p))] rfl (irow .u8 (sa ++ p)) (built_h sa p ksa.1 kp.1) ?_)); first | go_skip | go_step)
 refine wpList_build_as rfl 49 _ rfl [(0, .agg (irow .u8 sa)), (1, .agg (irow .u8 p))] rfl (irow .u8 (sa ++ p)) (built_h sa p ksa.1 kp.1) ?_
 try simp only [Act.put, List.setIfInBounds_toArray, List.set_cons_succ, List.set_cons_zero]
 repeat ((fail_if_success (refine wpList_load_part rfl 23 _ rfl (w.heap.size) 0 rfl 25 (irow .u8 (ia ++ ib)) (0, 0) (irow .u8 ia) _ R0 xia Tryz.underlying23 rfl (infoKy _ kia.1) ?_)); first | go_skip | go_step)
 refine wpList_load_part rfl 23 _ rfl (w.heap.size) 0 rfl 25 (irow .u8 (ia ++ ib)) (0, 0) (irow .u8 ia) _ R0 xia Tryz.underlying23 rfl (infoKy _ kia.1) ?_
 repeat ((fail_if_success (refine wpList_load_want rfl 23 _ rfl (w.heap.size + 1 + 1 + 1 + 1) rfl 23 (irow .u8 f) (0, 0) _ R4 Tryz.underlying23 rfl (infoKy _ kf.1) ?_)); first | go_skip | go_step)
 refine wpList_load_want rfl 23 _ rfl (w.heap.size + 1 + 1 + 1 + 1) rfl 23 (irow .u8 f) (0, 0) _ R4 Tryz.underlying23 rfl (infoKy _ kf.1) ?_
 try simp only [Act.put, List.setIfInBounds_toArray, List.set_cons_succ, List.set_cons_zero]
 repeat ((fail_if_success (refine wpList_build_as rfl 49 _ rfl [(0, .agg (irow .u8 ia)), (1, .agg (irow .u8 f))] rfl (irow .u8 (ia ++ f)) (built_h ia f kia.1 kf.1) ?_)); first | go_skip | go_step)
 refine wpList_build_as rfl 49 _ rfl [(0, .agg (irow .u8 ia)), (1, .agg (irow .u8 f))] rfl (irow .u8 (ia ++ f)) (built_h ia f kia.1 kf.1) ?_
 try simp only [Act.put, List.setIfInBounds_toArray, List.set_cons_succ, List.set_cons_zero]
 repeat ((fail_if_success (refine wpList_load_part rfl 23 _ rfl (w.heap.size + 1) 0 rfl 25 (irow .u8 (sa ++ sb)) (0, 0) (irow .u8 sa) _ R1 xsa Tryz.underlying23 rfl (infoKy _ ksa.1) ?_)); first | go_skip | go_step)
 refine wpList_load_part rfl 23 _ rfl (w.heap.size + 1) 0 rfl 25 (irow .u8 (sa ++ sb)) (0, 0) (irow .u8 sa) _ R1 xsa Tryz.underlying23 rfl (infoKy _ ksa.1) ?_
 repeat ((fail_if_success (refine wpList_load_want rfl 23 _ rfl (w.heap.size + 1 + 1 + 1 + 1) rfl 23 (irow .u8 f) (0, 0) _ R4 Tryz.underlying23 rfl (infoKy _ kf.1) ?_)); first | go_skip | go_step)
 refine wpList_load_want rfl 23 _ rfl (w.heap.size + 1 + 1 + 1 + 1) rfl 23 (irow .u8 f) (0, 0) _ R4 Tryz.underlying23 rfl (infoKy _ kf.1) ?_
 try simp only [Act.put, List.setIfInBounds_toArray, List.set_cons_succ, List.set_cons_zero]
 repeat ((fail_if_success (refine wpList_build_as rfl 49 _ rfl [(0, .agg (irow .u8 sa)), (1, .agg (irow .u8 f))] rfl (irow .u8 (sa ++ f)) (built_h sa f ksa.1 kf.1) ?_)); first | go_skip | go_step)
 refine wpList_build_as rfl 49 _ rfl [(0, .agg (irow .u8 sa)), (1, .agg (irow .u8 f))] rfl (irow .u8 (sa ++ f)) (built_h sa f ksa.1 kf.1) ?_
 try simp only [Act.put, List.setIfInBounds_toArray, List.set_cons_succ, List.set_cons_zero]
 repeat ((fail_if_success (refine wpList_bsl3 b3H rfl _ _ _ rfl (sa ++ p) (ia ++ f) (sa ++ f) l0 l1 l2 rfl rfl rfl ?_)); first | go_skip | go_step)
 refine wpList_bsl3 b3H rfl _ _ _ rfl (sa ++ p) (ia ++ f) (sa ++ f) l0 l1 l2 rfl rfl rfl ?_
 have z_ := hp1_0 w2 (.cells (irow .u8 ((sa ++ p) ++ ((ia ++ f) ++ (sa ++ f)))) 49)
 have hb_ : Below w2.heap.size w2 (w2.alloc (.cells (irow .u8 ((sa ++ p) ++ ((ia ++ f) ++ (sa ++ f)))) 49)) := (Below.refl _ _).alloc (Nat.le_refl _) _
 have hO3 := own3 l0 l1 l2 z_
 have sz1 := hw.size
 have ltR0 := lt_of_row R0
 replace R0 := keep hb_ R0
 have ltR1 := lt_of_row R1
 replace R1 := keep hb_ R1
 have ltR2 := lt_of_row R2
 replace R2 := keep hb_ R2
 have ltR3 := lt_of_row R3
 replace R3 := keep hb_ R3
 have ltR4 := lt_of_row R4
 replace R4 := keep hb_ R4
 have ltR5 := lt_of_row R5
 replace R5 := keep hb_ R5
 replace hw := Below.after hw hb_
 clear hb_ z_
 try simp only [Act.put, List.setIfInBounds_toArray, List.set_cons_succ, List.set_cons_zero]
 generalize w2.alloc (.cells (irow .u8 ((sa ++ p) ++ ((ia ++ f) ++ (sa ++ f)))) 49) = w3 at *
 generalize w2.heap.size = g at *
 cases h
 · have hOL : OwnE 49 64 w3 g (.slice (some ⟨g, 0, none⟩) 3 3) (hlv sa p ia f sa f oa f false) := by rw [hlv_f]; exact hO3
   clear hO3
   have cS := r_secrets (hlv sa p ia f sa f oa f false) hh hB n1 n4 p ib kp.1 kib.1 g _ w3 hOL
   go_upto_region 4 with (fail)
   repeat ((fail_if_success (refine wpList_load_want rfl 23 _ rfl (w.heap.size + 1 + 1 + 1) rfl 23 (irow .u8 p) (0, 0) _ R3 Tryz.underlying23 rfl (infoKy _ kp.1) ?_)); first | go_skip | go_step)
   refine wpList_load_want rfl 23 _ rfl (w.heap.size + 1 + 1 + 1) rfl 23 (irow .u8 p) (0, 0) _ R3 Tryz.underlying23 rfl (infoKy _ kp.1) ?_
   repeat ((fail_if_success (refine wpList_load_part rfl 23 _ rfl (w.heap.size) 32 rfl 25 (irow .u8 (ia ++ ib)) (0, 0) (irow .u8 ib) _ R0 xib Tryz.underlying23 rfl (infoKy _ kib.1) ?_)); first | go_skip | go_step)
   refine wpList_load_part rfl 23 _ rfl (w.heap.size) 32 rfl 25 (irow .u8 (ia ++ ib)) (0, 0) (irow .u8 ib) _ R0 xib Tryz.underlying23 rfl (infoKy _ kib.1) ?_
   try simp only [Act.put, List.setIfInBounds_toArray, List.set_cons_succ, List.set_cons_zero]
   go_wp2_with (fail)
   refine cS.mono ?_
   rintro e_ wM ⟨hR, hb⟩
   have ltS := lt_of_row R5
   replace R5 := keep hb R5
   have sz3 := hw.size
   replace hw := Below.after hw hb
   clear hb cS
   have zn := zr_len 32
   rcases hR with ⟨hne, rfl⟩ | ⟨he, v, rfl, hO⟩
   · have R8 := setRow_heap wM (w.heap.size + 1 + 1 + 1 + 1 + 1) _ scz _ _ R5
     have hw8 := below_setRow hw (show w.heap.size ≤ w.heap.size + 1 + 1 + 1 + 1 + 1 by omega) scz
     generalize hE : fer erH (hlv sa p ia f sa f oa f false) = E at *
     replace hE := hide hE
     replace hne := hide hne
     go_wp2_with (first | (refine wpList_store_row rfl 30 _ _ rfl (w.heap.size + 1 + 1 + 1 + 1 + 1) scz rfl rfl 30 _ R5 (info_scr _ _ _ _ zn zn zn) rfl (scr_one _ _ _ _ rfl) ?_) | fail)
     exact bodyPost_ret (Lo.results_row_slot Tryz.results10 _ _ (w.heap.size + 1 + 1 + 1 + 1 + 1) _ _ _ _ _ rfl R8 rfl Tryz.underlying30 rfl (info_scr _ _ _ _ zn zn zn)) rfl ⟨.inl ⟨by rw [hE.out]; exact hne.out, by rw [hE.out]; rfl⟩, hw8⟩
   · have hxl := scb_len ((hlv sa p ia f sa f oa f false).map shH)
     have l0' : (pt (scb ((hlv sa p ia f sa f oa f false).map shH)) 0 32).length = 32 := pt_len _ _ _ (by omega)
     have l32 : (pt (scb ((hlv sa p ia f sa f oa f false).map shH)) 32 32).length = 32 := pt_len _ _ _ (by omega)
     have l64 : (pt (scb ((hlv sa p ia f sa f oa f false).map shH)) 64 32).length = 32 := pt_len _ _ _ (by omega)
     generalize hP0 : pt (scb ((hlv sa p ia f sa f oa f false).map shH)) 0 32 = P0 at *
     generalize hP1 : pt (scb ((hlv sa p ia f sa f oa f false).map shH)) 32 32 = P1 at *
     generalize hP2 : pt (scb ((hlv sa p ia f sa f oa f false).map shH)) 64 32 = P2 at *
     replace hP0 := hide hP0
     replace hP1 := hide hP1
     replace hP2 := hide hP2
     replace he := hide he
     clear hxl
     have hone := own_oneI hO
     have R8 := setRow_heap wM (w.heap.size + 1 + 1 + 1 + 1 + 1) _ (scr P0 P1 P2 v) _ _ R5
     have hw8 := below_setRow hw (show w.heap.size ≤ w.heap.size + 1 + 1 + 1 + 1 + 1 by omega) (scr P0 P1 P2 v)
     have hO8 : OwnI (wM.setRow (w.heap.size + 1 + 1 + 1 + 1 + 1) (scr P0 P1 P2 v)) w.heap.size v (p ++ ib) := (hO.move (fun k o e hk => (setRow_other wM (w.heap.size + 1 + 1 + 1 + 1 + 1) k _ (by have := hO.lt k e; omega)).trans hk)).down sz3
     clear hO
     go_wp2_with (first | (refine wpList_store_row rfl 30 _ _ rfl (w.heap.size + 1 + 1 + 1 + 1 + 1) (scr P0 P1 P2 v) rfl rfl 30 _ R5 (info_scr _ _ _ _ l0' l32 l64) (fit_scr _ _ _ _ zn zn zn _ _ _ _ l0' l32 l64) (scr_one _ _ _ _ hone) ?_) | fail)
     exact bodyPost_ret (Lo.results_row_slot Tryz.results10 _ _ (w.heap.size + 1 + 1 + 1 + 1 + 1) _ _ _ _ _ rfl R8 rfl Tryz.underlying30 rfl (info_scr _ _ _ _ l0' l32 l64)) rfl ⟨.inr ⟨he.out, v, by rw [hP0.out, hP1.out, hP2.out]; rfl, hO8⟩, hw8⟩
 · go_upto_region 3 with (fail)
   repeat ((fail_if_success (refine wpList_load_part rfl 23 _ rfl (w.heap.size + 1 + 1) 0 rfl 25 (irow .u8 (oa ++ ob)) (0, 0) (irow .u8 oa) _ R2 xoa Tryz.underlying23 rfl (infoKy _ koa.1) ?_)); first | go_skip | go_step)
   refine wpList_load_part rfl 23 _ rfl (w.heap.size + 1 + 1) 0 rfl 25 (irow .u8 (oa ++ ob)) (0, 0) (irow .u8 oa) _ R2 xoa Tryz.underlying23 rfl (infoKy _ koa.1) ?_
   repeat ((fail_if_success (refine wpList_load_want rfl 23 _ rfl (w.heap.size + 1 + 1 + 1 + 1) rfl 23 (irow .u8 f) (0, 0) _ R4 Tryz.underlying23 rfl (infoKy _ kf.1) ?_)); first | go_skip | go_step)
   refine wpList_load_want rfl 23 _ rfl (w.heap.size + 1 + 1 + 1 + 1) rfl 23 (irow .u8 f) (0, 0) _ R4 Tryz.underlying23 rfl (infoKy _ kf.1) ?_
   try simp only [Act.put, List.setIfInBounds_toArray, List.set_cons_succ, List.set_cons_zero]
   repeat ((fail_if_success (refine wpList_build_as rfl 49 _ rfl [(0, .agg (irow .u8 oa)), (1, .agg (irow .u8 f))] rfl (irow .u8 (oa ++ f)) (built_h oa f koa.1 kf.1) ?_)); first | go_skip | go_step)
   refine wpList_build_as rfl 49 _ rfl [(0, .agg (irow .u8 oa)), (1, .agg (irow .u8 f))] rfl (irow .u8 (oa ++ f)) (built_h oa f koa.1 kf.1) ?_
   try simp only [Act.put, List.setIfInBounds_toArray, List.set_cons_succ, List.set_cons_zero]
   repeat ((fail_if_success (refine wpList_bslE elH rfl _ rfl (oa ++ f) l3 rfl ?_)); first | go_skip | go_step)
   refine wpList_bslE elH rfl _ rfl (oa ++ f) l3 rfl ?_
   have z_ := hp1_0 w3 (.cells (irow .u8 (oa ++ f)) 49)
   have hb_ : Below w3.heap.size w3 (w3.alloc (.cells (irow .u8 (oa ++ f)) 49)) := (Below.refl _ _).alloc (Nat.le_refl _) _
   replace hO3 := hO3.keep hb_
   replace R0 := keep hb_ R0
   replace R1 := keep hb_ R1
   replace R2 := keep hb_ R2
   replace R3 := keep hb_ R3
   replace R4 := keep hb_ R4
   replace R5 := keep hb_ R5
   replace hw := Below.after hw hb_
   have gl3 := hO3.lt g rfl
   clear hb_
   try simp only [Act.put, List.setIfInBounds_toArray, List.set_cons_succ, List.set_cons_zero]
   generalize w3.alloc (.cells (irow .u8 (oa ++ f)) 49) = w4 at *
   generalize w3.heap.size = g4 at *
   repeat ((fail_if_success (refine wpList_append_E elH rfl _ _ rfl g _ _ rfl hO3 g4 (oa ++ f) l3 rfl z_ (by simp) (by omega) (fun v' w' hO4 hgr hnx => ?_))); first | go_skip | go_step)
   refine wpList_append_E elH rfl _ _ rfl g _ _ rfl hO3 g4 (oa ++ f) l3 rfl z_ (by simp) (by omega) (fun v' w' hO4 hgr hnx => ?_)
   replace R0 := (hgr.block _ (lt_of_row R0) (fun e => by have := (hO3.lt _ e.symm).1; omega)).trans R0
   replace R1 := (hgr.block _ (lt_of_row R1) (fun e => by have := (hO3.lt _ e.symm).1; omega)).trans R1
   replace R2 := (hgr.block _ (lt_of_row R2) (fun e => by have := (hO3.lt _ e.symm).1; omega)).trans R2
   replace R3 := (hgr.block _ (lt_of_row R3) (fun e => by have := (hO3.lt _ e.symm).1; omega)).trans R3
   replace R4 := (hgr.block _ (lt_of_row R4) (fun e => by have := (hO3.lt _ e.symm).1; omega)).trans R4
   replace R5 := (hgr.block _ (lt_of_row R5) (fun e => by have := (hO3.lt _ e.symm).1; omega)).trans R5
   have szg := hgr.size
   replace hw := hw.grown hgr hw.size (fun z e => by have := (hO3.lt z e).1; omega)
   have hOL : OwnE 49 64 w' g v' (hlv sa p ia f sa f oa f true) := by rw [hlv_t]; exact hO4
   clear hgr hnx hO3 hO4 z_
   have cS := r_secrets (hlv sa p ia f sa f oa f true) hh hB n1 n4 p ib kp.1 kib.1 g v' w' hOL
   go_upto_region 4 with (fail)
   repeat ((fail_if_success (refine wpList_load_want rfl 23 _ rfl (w.heap.size + 1 + 1 + 1) rfl 23 (irow .u8 p) (0, 0) _ R3 Tryz.underlying23 rfl (infoKy _ kp.1) ?_)); first | go_skip | go_step)
   refine wpList_load_want rfl 23 _ rfl (w.heap.size + 1 + 1 + 1) rfl 23 (irow .u8 p) (0, 0) _ R3 Tryz.underlying23 rfl (infoKy _ kp.1) ?_
   repeat ((fail_if_success (refine wpList_load_part rfl 23 _ rfl (w.heap.size) 32 rfl 25 (irow .u8 (ia ++ ib)) (0, 0) (irow .u8 ib) _ R0 xib Tryz.underlying23 rfl (infoKy _ kib.1) ?_)); first | go_skip | go_step)
   refine wpList_load_part rfl 23 _ rfl (w.heap.size) 32 rfl 25 (irow .u8 (ia ++ ib)) (0, 0) (irow .u8 ib) _ R0 xib Tryz.underlying23 rfl (infoKy _ kib.1) ?_
   try simp only [Act.put, List.setIfInBounds_toArray, List.set_cons_succ, List.set_cons_zero]
   go_wp2_with (fail)
   refine cS.mono ?_
   rintro e_ wM ⟨hR, hb⟩
   have ltS := lt_of_row R5
   replace R5 := keep hb R5
   have sz3 := hw.size
   replace hw := Below.after hw hb
   clear hb cS
   have zn := zr_len 32
   rcases hR with ⟨hne, rfl⟩ | ⟨he, v, rfl, hO⟩
   · have R8 := setRow_heap wM (w.heap.size + 1 + 1 + 1 + 1 + 1) _ scz _ _ R5
     have hw8 := below_setRow hw (show w.heap.size ≤ w.heap.size + 1 + 1 + 1 + 1 + 1 by omega) scz
     generalize hE : fer erH (hlv sa p ia f sa f oa f true) = E at *
     replace hE := hide hE
     replace hne := hide hne
     go_wp2_with (first | (refine wpList_store_row rfl 30 _ _ rfl (w.heap.size + 1 + 1 + 1 + 1 + 1) scz rfl rfl 30 _ R5 (info_scr _ _ _ _ zn zn zn) rfl (scr_one _ _ _ _ rfl) ?_) | fail)
     exact bodyPost_ret (Lo.results_row_slot Tryz.results10 _ _ (w.heap.size + 1 + 1 + 1 + 1 + 1) _ _ _ _ _ rfl R8 rfl Tryz.underlying30 rfl (info_scr _ _ _ _ zn zn zn)) rfl ⟨.inl ⟨by rw [hE.out]; exact hne.out, by rw [hE.out]; rfl⟩, hw8⟩
   · have hxl := scb_len ((hlv sa p ia f sa f oa f true).map shH)
     have l0' : (pt (scb ((hlv sa p ia f sa f oa f true).map shH)) 0 32).length = 32 := pt_len _ _ _ (by omega)
     have l32 : (pt (scb ((hlv sa p ia f sa f oa f true).map shH)) 32 32).length = 32 := pt_len _ _ _ (by omega)
     have l64 : (pt (scb ((hlv sa p ia f sa f oa f true).map shH)) 64 32).length = 32 := pt_len _ _ _ (by omega)
     generalize hP0 : pt (scb ((hlv sa p ia f sa f oa f true).map shH)) 0 32 = P0 at *
     generalize hP1 : pt (scb ((hlv sa p ia f sa f oa f true).map shH)) 32 32 = P1 at *
     generalize hP2 : pt (scb ((hlv sa p ia f sa f oa f true).map shH)) 64 32 = P2 at *
     replace hP0 := hide hP0
     replace hP1 := hide hP1
     replace hP2 := hide hP2
     replace he := hide he
     clear hxl
     have hone := own_oneI hO
     have R8 := setRow_heap wM (w.heap.size + 1 + 1 + 1 + 1 + 1) _ (scr P0 P1 P2 v) _ _ R5
     have hw8 := below_setRow hw (show w.heap.size ≤ w.heap.size + 1 + 1 + 1 + 1 + 1 by omega) (scr P0 P1 P2 v)
     have hO8 : OwnI (wM.setRow (w.heap.size + 1 + 1 + 1 + 1 + 1) (scr P0 P1 P2 v)) w.heap.size v (p ++ ib) := (hO.move (fun k o e hk => (setRow_other wM (w.heap.size + 1 + 1 + 1 + 1 + 1) k _ (by have := hO.lt k e; omega)).trans hk)).down sz3
     clear hO
     go_wp2_with (first | (refine wpList_store_row rfl 30 _ _ rfl (w.heap.size + 1 + 1 + 1 + 1 + 1) (scr P0 P1 P2 v) rfl rfl 30 _ R5 (info_scr _ _ _ _ l0' l32 l64) (fit_scr _ _ _ _ zn zn zn _ _ _ _ l0' l32 l64) (scr_one _ _ _ _ hone) ?_) | fail)
     exact bodyPost_ret (Lo.results_row_slot Tryz.results10 _ _ (w.heap.size + 1 + 1 + 1 + 1 + 1) _ _ _ _ _ rfl R8 rfl Tryz.underlying30 rfl (info_scr _ _ _ _ l0' l32 l64)) rfl ⟨.inr ⟨he.out, v, by rw [hP0.out, hP1.out, hP2.out]; rfl, hO8⟩, hw8⟩
set_option maxRecDepth 100000 in
set_option maxHeartbeats 4000000 in
theorem r_Start (pa pb fa fb i s o : List Int) (h : Bool) (kpa : K8 pa) (kpb : K8 pb) (kfa : K8 fa) (ki : K8 i) (ks : K8 s) (ko : K8 o) (w : World) : Calls Tryz.prog 6 #[.agg (prow pa pb), .agg (prow fa fb), .agg (brow i s o h)] w (StR (h || decide (o = zr 32)) shH erH (hlv pa s fa i fa s fa o h) pb i w) := by
 rw [prow_irow, prow_irow]
 have R0 := hp4_0 w (.cells (irow .u8 (pa ++ pb)) 25) (.cells (irow .u8 (fa ++ fb)) 25) (.cells (brow i s o h) 27) (.cells scz 30)
 have R1 := hp4_1 w (.cells (irow .u8 (pa ++ pb)) 25) (.cells (irow .u8 (fa ++ fb)) 25) (.cells (brow i s o h) 27) (.cells scz 30)
 have R2 := hp4_2 w (.cells (irow .u8 (pa ++ pb)) 25) (.cells (irow .u8 (fa ++ fb)) 25) (.cells (brow i s o h) 27) (.cells scz 30)
 have R3 := hp4_3 w (.cells (irow .u8 (pa ++ pb)) 25) (.cells (irow .u8 (fa ++ fb)) 25) (.cells (brow i s o h) 27) (.cells scz 30)
 have hw : Below w.heap.size w ((((w.alloc (.cells (irow .u8 (pa ++ pb)) 25)).alloc (.cells (irow .u8 (fa ++ fb)) 25)).alloc (.cells (brow i s o h) 27)).alloc (.cells scz 30)) := (((((Below.refl _ _).alloc (Nat.le_refl _) _).alloc (by simp) _).alloc (by simp; omega) _).alloc (by simp; omega) _)
 have l0 : (pa ++ s).length = 64 := by simp [kpa.1, ks.1]
 have bb0 : B8 (pa ++ s) := B8.app kpa.2 ks.2
 have l1 : (fa ++ i).length = 64 := by simp [kfa.1, ki.1]
 have bb1 : B8 (fa ++ i) := B8.app kfa.2 ki.2
 have l2 : (fa ++ s).length = 64 := by simp [kfa.1, ks.1]
 have bb2 : B8 (fa ++ s) := B8.app kfa.2 ks.2
 have l3 : (fa ++ o).length = 64 := by simp [kfa.1, ko.1]
 have bb3 : B8 (fa ++ o) := B8.app kfa.2 ko.2
 have hh : ∀ m ∈ (hlv pa s fa i fa s fa o h), m.length = 64 := hlv_all l0 l1 l2 l3
 have hB : ∀ m ∈ (hlv pa s fa i fa s fa o h), B8 m := hlv_all bb0 bb1 bb2 bb3
 obtain ⟨n1, n4⟩ := hlv_n pa s fa i fa s fa o h
 have xpa := app_ext0 pa pb
 have xfa := app_ext0 fa fb
 have xpb := app_ext1 pa pb 32 kpa.1
 have cC := r_can i s o h ki.1 ks.1 ko.1
 have iB := info_brow i s o h ki.1 ks.1 ko.1
 have xi := bn_i i s o h ki.1
 have xs := bn_s i s o h ki.1 ks.1
 have xo := bn_o i s o h ki.1 ks.1 ko.1
 have qh := bn_h i s o h ki.1 ks.1 ko.1
 generalize brow i s o h = RB at *
 generalize hcan : (h || decide (o = zr 32)) = can at *
 clear hcan
 go_enter Tryz.func6, Tryz.ntmps6
 go_upto_region 1 with (first | (refine wpList_box rfl 25 _ rfl _ rfl (bPrA _) ?_) | (refine wpList_box rfl 27 _ rfl _ rfl (box_brow _) ?_) | (refine wpList_alloc rfl 30 rfl scz zScA ?_) | fail)
 try simp only [size_alloc1, Act.put, List.setIfInBounds_toArray, List.set_cons_succ, List.set_cons_zero]
 generalize ((((w.alloc (.cells (irow .u8 (pa ++ pb)) 25)).alloc (.cells (irow .u8 (fa ++ fb)) 25)).alloc (.cells RB 27)).alloc (.cells scz 30)) = w1 at *
 repeat ((fail_if_success (refine wpList_load_want rfl 27 _ rfl (w.heap.size + 1 + 1) rfl 27 RB (0, 0) _ R2 Tryz.underlying27 rfl iB ?_)); first | go_skip | go_step)
 refine wpList_load_want rfl 27 _ rfl (w.heap.size + 1 + 1) rfl 27 RB (0, 0) _ R2 Tryz.underlying27 rfl iB ?_
 try simp only [Act.put, List.setIfInBounds_toArray, List.set_cons_succ, List.set_cons_zero]
 go_wp2_with (fail)
 refine (cC w1).mono ?_
 rintro e_ w2 ⟨rfl, hb⟩
 replace R0 := keep hb R0
 replace R1 := keep hb R1
 replace R2 := keep hb R2
 replace R3 := keep hb R3
 replace hw := Below.after hw hb
 clear hb cC iB
 cases can
 · have zn := zr_len 32
   have R8 := setRow_heap w2 (w.heap.size + 1 + 1 + 1) _ scz _ _ R3
   have hw8 := below_setRow hw (show w.heap.size ≤ w.heap.size + 1 + 1 + 1 by omega) scz
   go_wp2_with (first | (refine wpList_build_as rfl 30 _ rfl [] rfl scz builtZc ?_) | (refine wpList_store_row rfl 30 _ _ rfl (w.heap.size + 1 + 1 + 1) scz rfl rfl 30 _ R3 (info_scr _ _ _ _ zn zn zn) rfl (scr_one _ _ _ _ rfl) ?_) | fail)
   exact bodyPost_ret (Lo.results_row_slot Tryz.results6 _ _ (w.heap.size + 1 + 1 + 1) _ _ _ _ _ rfl R8 rfl Tryz.underlying30 rfl (info_scr _ _ _ _ zn zn zn)) rfl (.inl ⟨rfl, rfl, hw8⟩)
 go_upto_region 3 with (fail)
 repeat ((fail_if_success (refine wpList_load_part rfl 23 _ rfl (w.heap.size) 0 rfl 25 (irow .u8 (pa ++ pb)) (0, 0) (irow .u8 pa) _ R0 xpa Tryz.underlying23 rfl (infoKy _ kpa.1) ?_)); first | go_skip | go_step)
 refine wpList_load_part rfl 23 _ rfl (w.heap.size) 0 rfl 25 (irow .u8 (pa ++ pb)) (0, 0) (irow .u8 pa) _ R0 xpa Tryz.underlying23 rfl (infoKy _ kpa.1) ?_
 repeat ((fail_if_success (refine wpList_load_part rfl 23 _ rfl (w.heap.size + 1 + 1) 32 rfl 27 (RB) (0, 0) (irow .u8 s) _ R2 xs Tryz.underlying23 rfl (infoKy _ ks.1) ?_)); first | go_skip | go_step)
 refine wpList_load_part rfl 23 _ rfl (w.heap.size + 1 + 1) 32 rfl 27 (RB) (0, 0) (irow .u8 s) _ R2 xs Tryz.underlying23 rfl (infoKy _ ks.1) ?_
 try simp only [Act.put, List.setIfInBounds_toArray, List.set_cons_succ, List.set_cons_zero]
 repeat ((fail_if_success (refine wpList_build_as rfl 49 _ rfl [(0, .agg (irow .u8 pa)), (1, .agg (irow .u8 s))] rfl (irow .u8 (pa ++ s)) (built_h pa s kpa.1 ks.1) ?_)); first | go_skip | go_step)
 refine wpList_build_as rfl 49 _ rfl [(0, .agg (irow .u8 pa)), (1, .agg (irow .u8 s))] rfl (irow .u8 (pa ++ s)) (built_h pa s kpa.1 ks.1) ?_
 try simp only [Act.put, List.setIfInBounds_toArray, List.set_cons_succ, List.set_cons_zero]
 repeat ((fail_if_success (refine wpList_load_part rfl 23 _ rfl (w.heap.size + 1) 0 rfl 25 (irow .u8 (fa ++ fb)) (0, 0) (irow .u8 fa) _ R1 xfa Tryz.underlying23 rfl (infoKy _ kfa.1) ?_)); first | go_skip | go_step)
 refine wpList_load_part rfl 23 _ rfl (w.heap.size + 1) 0 rfl 25 (irow .u8 (fa ++ fb)) (0, 0) (irow .u8 fa) _ R1 xfa Tryz.underlying23 rfl (infoKy _ kfa.1) ?_
 repeat ((fail_if_success (refine wpList_load_part rfl 23 _ rfl (w.heap.size + 1 + 1) 0 rfl 27 (RB) (0, 0) (irow .u8 i) _ R2 xi Tryz.underlying23 rfl (infoKy _ ki.1) ?_)); first | go_skip | go_step)
 refine wpList_load_part rfl 23 _ rfl (w.heap.size + 1 + 1) 0 rfl 27 (RB) (0, 0) (irow .u8 i) _ R2 xi Tryz.underlying23 rfl (infoKy _ ki.1) ?_
 try simp only [Act.put, List.setIfInBounds_toArray, List.set_cons_succ, List.set_cons_zero]
 repeat ((fail_if_success (refine wpList_build_as rfl 49 _ rfl [(0, .agg (irow .u8 fa)), (1, .agg (irow .u8 i))] rfl (irow .u8 (fa ++ i)) (built_h fa i kfa.1 ki.1) ?_)); first | go_skip | go_step)
 refine wpList_build_as rfl 49 _ rfl [(0, .agg (irow .u8 fa)), (1, .agg (irow .u8 i))] rfl (irow .u8 (fa ++ i)) (built_h fa i kfa.1 ki.1) ?_
 try simp only [Act.put, List.setIfInBounds_toArray, List.set_cons_succ, List.set_cons_zero]
 repeat ((fail_if_success (refine wpList_load_part rfl 23 _ rfl (w.heap.size + 1) 0 rfl 25 (irow .u8 (fa ++ fb)) (0, 0) (irow .u8 fa) _ R1 xfa Tryz.underlying23 rfl (infoKy _ kfa.1) ?_)); first | go_skip | go_step)
 refine wpList_load_part rfl 23 _ rfl (w.heap.size + 1) 0 rfl 25 (irow .u8 (fa ++ fb)) (0, 0) (irow .u8 fa) _ R1 xfa Tryz.underlying23 rfl (infoKy _ kfa.1) ?_
 repeat ((fail_if_success (refine wpList_load_part rfl 23 _ rfl (w.heap.size + 1 + 1) 32 rfl 27 (RB) (0, 0) (irow .u8 s) _ R2 xs Tryz.underlying23 rfl (infoKy _ ks.1) ?_)); first | go_skip | go_step)
 refine wpList_load_part rfl 23 _ rfl (w.heap.size + 1 + 1) 32 rfl 27 (RB) (0, 0) (irow .u8 s) _ R2 xs Tryz.underlying23 rfl (infoKy _ ks.1) ?_
 try simp only [Act.put, List.setIfInBounds_toArray, List.set_cons_succ, List.set_cons_zero]
 repeat ((fail_if_success (refine wpList_build_as rfl 49 _ rfl [(0, .agg (irow .u8 fa)), (1, .agg (irow .u8 s))] rfl (irow .u8 (fa ++ s)) (built_h fa s kfa.1 ks.1) ?_)); first | go_skip | go_step)
 refine wpList_build_as rfl 49 _ rfl [(0, .agg (irow .u8 fa)), (1, .agg (irow .u8 s))] rfl (irow .u8 (fa ++ s)) (built_h fa s kfa.1 ks.1) ?_
 try simp only [Act.put, List.setIfInBounds_toArray, List.set_cons_succ, List.set_cons_zero]
 repeat ((fail_if_success (refine wpList_bsl3 b3H rfl _ _ _ rfl (pa ++ s) (fa ++ i) (fa ++ s) l0 l1 l2 rfl rfl rfl ?_)); first | go_skip | go_step)
 refine wpList_bsl3 b3H rfl _ _ _ rfl (pa ++ s) (fa ++ i) (fa ++ s) l0 l1 l2 rfl rfl rfl ?_
 have z_ := hp1_0 w2 (.cells (irow .u8 ((pa ++ s) ++ ((fa ++ i) ++ (fa ++ s)))) 49)
 have hb_ : Below w2.heap.size w2 (w2.alloc (.cells (irow .u8 ((pa ++ s) ++ ((fa ++ i) ++ (fa ++ s)))) 49)) := (Below.refl _ _).alloc (Nat.le_refl _) _
 have hO3 := own3 l0 l1 l2 z_
 have sz1 := hw.size
 have ltR0 := lt_of_row R0
 replace R0 := keep hb_ R0
 have ltR1 := lt_of_row R1
 replace R1 := keep hb_ R1
 have ltR2 := lt_of_row R2
 replace R2 := keep hb_ R2
 have ltR3 := lt_of_row R3
 replace R3 := keep hb_ R3
 replace hw := Below.after hw hb_
 clear hb_ z_
 try simp only [Act.put, List.setIfInBounds_toArray, List.set_cons_succ, List.set_cons_zero]
 generalize w2.alloc (.cells (irow .u8 ((pa ++ s) ++ ((fa ++ i) ++ (fa ++ s)))) 49) = w3 at *
 generalize w2.heap.size = g at *
 have c_h : w3.cell? ⟨w.heap.size + 1 + 1, 96, none⟩ = some (.bool h) := (cell_of_row _ _ _ _ _ _ R2).trans qh
 cases h
 · have hOL : OwnE 49 64 w3 g (.slice (some ⟨g, 0, none⟩) 3 3) (hlv pa s fa i fa s fa o false) := by rw [hlv_f]; exact hO3
   clear hO3
   have cS := r_secrets (hlv pa s fa i fa s fa o false) hh hB n1 n4 pb i kpb.1 ki.1 g _ w3 hOL
   go_upto_region 6 with (fail)
   repeat ((fail_if_success (refine wpList_load_part rfl 23 _ rfl (w.heap.size) 32 rfl 25 (irow .u8 (pa ++ pb)) (0, 0) (irow .u8 pb) _ R0 xpb Tryz.underlying23 rfl (infoKy _ kpb.1) ?_)); first | go_skip | go_step)
   refine wpList_load_part rfl 23 _ rfl (w.heap.size) 32 rfl 25 (irow .u8 (pa ++ pb)) (0, 0) (irow .u8 pb) _ R0 xpb Tryz.underlying23 rfl (infoKy _ kpb.1) ?_
   repeat ((fail_if_success (refine wpList_load_part rfl 23 _ rfl (w.heap.size + 1 + 1) 0 rfl 27 (RB) (0, 0) (irow .u8 i) _ R2 xi Tryz.underlying23 rfl (infoKy _ ki.1) ?_)); first | go_skip | go_step)
   refine wpList_load_part rfl 23 _ rfl (w.heap.size + 1 + 1) 0 rfl 27 (RB) (0, 0) (irow .u8 i) _ R2 xi Tryz.underlying23 rfl (infoKy _ ki.1) ?_
   try simp only [Act.put, List.setIfInBounds_toArray, List.set_cons_succ, List.set_cons_zero]
   go_wp2_with (fail)
   refine cS.mono ?_
   rintro e_ wM ⟨hR, hb⟩
   have ltS := lt_of_row R3
   replace R3 := keep hb R3
   have sz3 := hw.size
   replace hw := Below.after hw hb
   clear hb cS
   have zn := zr_len 32
   rcases hR with ⟨hne, rfl⟩ | ⟨he, v, rfl, hO⟩
   · have R8 := setRow_heap wM (w.heap.size + 1 + 1 + 1) _ scz _ _ R3
     have hw8 := below_setRow hw (show w.heap.size ≤ w.heap.size + 1 + 1 + 1 by omega) scz
     generalize hE : fer erH (hlv pa s fa i fa s fa o false) = E at *
     replace hE := hide hE
     replace hne := hide hne
     go_wp2_with (first | (refine wpList_store_row rfl 30 _ _ rfl (w.heap.size + 1 + 1 + 1) scz rfl rfl 30 _ R3 (info_scr _ _ _ _ zn zn zn) rfl (scr_one _ _ _ _ rfl) ?_) | fail)
     exact bodyPost_ret (Lo.results_row_slot Tryz.results6 _ _ (w.heap.size + 1 + 1 + 1) _ _ _ _ _ rfl R8 rfl Tryz.underlying30 rfl (info_scr _ _ _ _ zn zn zn)) rfl (.inr ⟨rfl, ⟨.inl ⟨by rw [hE.out]; exact hne.out, by rw [hE.out]; rfl⟩, hw8⟩⟩)
   · have hxl := scb_len ((hlv pa s fa i fa s fa o false).map shH)
     have l0' : (pt (scb ((hlv pa s fa i fa s fa o false).map shH)) 0 32).length = 32 := pt_len _ _ _ (by omega)
     have l32 : (pt (scb ((hlv pa s fa i fa s fa o false).map shH)) 32 32).length = 32 := pt_len _ _ _ (by omega)
     have l64 : (pt (scb ((hlv pa s fa i fa s fa o false).map shH)) 64 32).length = 32 := pt_len _ _ _ (by omega)
     generalize hP0 : pt (scb ((hlv pa s fa i fa s fa o false).map shH)) 0 32 = P0 at *
     generalize hP1 : pt (scb ((hlv pa s fa i fa s fa o false).map shH)) 32 32 = P1 at *
     generalize hP2 : pt (scb ((hlv pa s fa i fa s fa o false).map shH)) 64 32 = P2 at *
     replace hP0 := hide hP0
     replace hP1 := hide hP1
     replace hP2 := hide hP2
     replace he := hide he
     clear hxl
     have hone := own_oneI hO
     have R8 := setRow_heap wM (w.heap.size + 1 + 1 + 1) _ (scr P0 P1 P2 v) _ _ R3
     have hw8 := below_setRow hw (show w.heap.size ≤ w.heap.size + 1 + 1 + 1 by omega) (scr P0 P1 P2 v)
     have hO8 : OwnI (wM.setRow (w.heap.size + 1 + 1 + 1) (scr P0 P1 P2 v)) w.heap.size v (pb ++ i) := (hO.move (fun k o e hk => (setRow_other wM (w.heap.size + 1 + 1 + 1) k _ (by have := hO.lt k e; omega)).trans hk)).down sz3
     clear hO
     go_wp2_with (first | (refine wpList_store_row rfl 30 _ _ rfl (w.heap.size + 1 + 1 + 1) (scr P0 P1 P2 v) rfl rfl 30 _ R3 (info_scr _ _ _ _ l0' l32 l64) (fit_scr _ _ _ _ zn zn zn _ _ _ _ l0' l32 l64) (scr_one _ _ _ _ hone) ?_) | fail)
     exact bodyPost_ret (Lo.results_row_slot Tryz.results6 _ _ (w.heap.size + 1 + 1 + 1) _ _ _ _ _ rfl R8 rfl Tryz.underlying30 rfl (info_scr _ _ _ _ l0' l32 l64)) rfl (.inr ⟨rfl, ⟨.inr ⟨he.out, v, by rw [hP0.out, hP1.out, hP2.out]; rfl, hO8⟩, hw8⟩⟩)
 · go_upto_region 5 with (fail)
   repeat ((fail_if_success (refine wpList_load_part rfl 23 _ rfl (w.heap.size + 1) 0 rfl 25 (irow .u8 (fa ++ fb)) (0, 0) (irow .u8 fa) _ R1 xfa Tryz.underlying23 rfl (infoKy _ kfa.1) ?_)); first | go_skip | go_step)
   refine wpList_load_part rfl 23 _ rfl (w.heap.size + 1) 0 rfl 25 (irow .u8 (fa ++ fb)) (0, 0) (irow .u8 fa) _ R1 xfa Tryz.underlying23 rfl (infoKy _ kfa.1) ?_
   repeat ((fail_if_success (refine wpList_load_part rfl 23 _ rfl (w.heap.size + 1 + 1) 64 rfl 27 (RB) (0, 0) (irow .u8 o) _ R2 xo Tryz.underlying23 rfl (infoKy _ ko.1) ?_)); first | go_skip | go_step)
   refine wpList_load_part rfl 23 _ rfl (w.heap.size + 1 + 1) 64 rfl 27 (RB) (0, 0) (irow .u8 o) _ R2 xo Tryz.underlying23 rfl (infoKy _ ko.1) ?_
   try simp only [Act.put, List.setIfInBounds_toArray, List.set_cons_succ, List.set_cons_zero]
   repeat ((fail_if_success (refine wpList_build_as rfl 49 _ rfl [(0, .agg (irow .u8 fa)), (1, .agg (irow .u8 o))] rfl (irow .u8 (fa ++ o)) (built_h fa o kfa.1 ko.1) ?_)); first | go_skip | go_step)
   refine wpList_build_as rfl 49 _ rfl [(0, .agg (irow .u8 fa)), (1, .agg (irow .u8 o))] rfl (irow .u8 (fa ++ o)) (built_h fa o kfa.1 ko.1) ?_
   try simp only [Act.put, List.setIfInBounds_toArray, List.set_cons_succ, List.set_cons_zero]
   repeat ((fail_if_success (refine wpList_bslE elH rfl _ rfl (fa ++ o) l3 rfl ?_)); first | go_skip | go_step)
   refine wpList_bslE elH rfl _ rfl (fa ++ o) l3 rfl ?_
   have z_ := hp1_0 w3 (.cells (irow .u8 (fa ++ o)) 49)
   have hb_ : Below w3.heap.size w3 (w3.alloc (.cells (irow .u8 (fa ++ o)) 49)) := (Below.refl _ _).alloc (Nat.le_refl _) _
   replace hO3 := hO3.keep hb_
   replace R0 := keep hb_ R0
   replace R1 := keep hb_ R1
   replace R2 := keep hb_ R2
   replace R3 := keep hb_ R3
   replace hw := Below.after hw hb_
   have gl3 := hO3.lt g rfl
   clear hb_
   try simp only [Act.put, List.setIfInBounds_toArray, List.set_cons_succ, List.set_cons_zero]
   generalize w3.alloc (.cells (irow .u8 (fa ++ o)) 49) = w4 at *
   generalize w3.heap.size = g4 at *
   repeat ((fail_if_success (refine wpList_append_E elH rfl _ _ rfl g _ _ rfl hO3 g4 (fa ++ o) l3 rfl z_ (by simp) (by omega) (fun v' w' hO4 hgr hnx => ?_))); first | go_skip | go_step)
   refine wpList_append_E elH rfl _ _ rfl g _ _ rfl hO3 g4 (fa ++ o) l3 rfl z_ (by simp) (by omega) (fun v' w' hO4 hgr hnx => ?_)
   replace R0 := (hgr.block _ (lt_of_row R0) (fun e => by have := (hO3.lt _ e.symm).1; omega)).trans R0
   replace R1 := (hgr.block _ (lt_of_row R1) (fun e => by have := (hO3.lt _ e.symm).1; omega)).trans R1
   replace R2 := (hgr.block _ (lt_of_row R2) (fun e => by have := (hO3.lt _ e.symm).1; omega)).trans R2
   replace R3 := (hgr.block _ (lt_of_row R3) (fun e => by have := (hO3.lt _ e.symm).1; omega)).trans R3
   have szg := hgr.size
   replace hw := hw.grown hgr hw.size (fun z e => by have := (hO3.lt z e).1; omega)
   have hOL : OwnE 49 64 w' g v' (hlv pa s fa i fa s fa o true) := by rw [hlv_t]; exact hO4
   clear hgr hnx hO3 hO4 z_
   have cS := r_secrets (hlv pa s fa i fa s fa o true) hh hB n1 n4 pb i kpb.1 ki.1 g v' w' hOL
   go_upto_region 6 with (fail)
   repeat ((fail_if_success (refine wpList_load_part rfl 23 _ rfl (w.heap.size) 32 rfl 25 (irow .u8 (pa ++ pb)) (0, 0) (irow .u8 pb) _ R0 xpb Tryz.underlying23 rfl (infoKy _ kpb.1) ?_)); first | go_skip | go_step)
   refine wpList_load_part rfl 23 _ rfl (w.heap.size) 32 rfl 25 (irow .u8 (pa ++ pb)) (0, 0) (irow .u8 pb) _ R0 xpb Tryz.underlying23 rfl (infoKy _ kpb.1) ?_
   repeat ((fail_if_success (refine wpList_load_part rfl 23 _ rfl (w.heap.size + 1 + 1) 0 rfl 27 (RB) (0, 0) (irow .u8 i) _ R2 xi Tryz.underlying23 rfl (infoKy _ ki.1) ?_)); first | go_skip | go_step)
   refine wpList_load_part rfl 23 _ rfl (w.heap.size + 1 + 1) 0 rfl 27 (RB) (0, 0) (irow .u8 i) _ R2 xi Tryz.underlying23 rfl (infoKy _ ki.1) ?_
   try simp only [Act.put, List.setIfInBounds_toArray, List.set_cons_succ, List.set_cons_zero]
   go_wp2_with (fail)
   refine cS.mono ?_
   rintro e_ wM ⟨hR, hb⟩
   have ltS := lt_of_row R3
   replace R3 := keep hb R3
   have sz3 := hw.size
   replace hw := Below.after hw hb
   clear hb cS
   have zn := zr_len 32
   rcases hR with ⟨hne, rfl⟩ | ⟨he, v, rfl, hO⟩
   · have R8 := setRow_heap wM (w.heap.size + 1 + 1 + 1) _ scz _ _ R3
     have hw8 := below_setRow hw (show w.heap.size ≤ w.heap.size + 1 + 1 + 1 by omega) scz
     generalize hE : fer erH (hlv pa s fa i fa s fa o true) = E at *
     replace hE := hide hE
     replace hne := hide hne
     go_wp2_with (first | (refine wpList_store_row rfl 30 _ _ rfl (w.heap.size + 1 + 1 + 1) scz rfl rfl 30 _ R3 (info_scr _ _ _ _ zn zn zn) rfl (scr_one _ _ _ _ rfl) ?_) | fail)
     exact bodyPost_ret (Lo.results_row_slot Tryz.results6 _ _ (w.heap.size + 1 + 1 + 1) _ _ _ _ _ rfl R8 rfl Tryz.underlying30 rfl (info_scr _ _ _ _ zn zn zn)) rfl (.inr ⟨rfl, ⟨.inl ⟨by rw [hE.out]; exact hne.out, by rw [hE.out]; rfl⟩, hw8⟩⟩)
   · have hxl := scb_len ((hlv pa s fa i fa s fa o true).map shH)
     have l0' : (pt (scb ((hlv pa s fa i fa s fa o true).map shH)) 0 32).length = 32 := pt_len _ _ _ (by omega)
     have l32 : (pt (scb ((hlv pa s fa i fa s fa o true).map shH)) 32 32).length = 32 := pt_len _ _ _ (by omega)
     have l64 : (pt (scb ((hlv pa s fa i fa s fa o true).map shH)) 64 32).length = 32 := pt_len _ _ _ (by omega)
     generalize hP0 : pt (scb ((hlv pa s fa i fa s fa o true).map shH)) 0 32 = P0 at *
     generalize hP1 : pt (scb ((hlv pa s fa i fa s fa o true).map shH)) 32 32 = P1 at *
     generalize hP2 : pt (scb ((hlv pa s fa i fa s fa o true).map shH)) 64 32 = P2 at *
     replace hP0 := hide hP0
     replace hP1 := hide hP1
     replace hP2 := hide hP2
     replace he := hide he
     clear hxl
     have hone := own_oneI hO
     have R8 := setRow_heap wM (w.heap.size + 1 + 1 + 1) _ (scr P0 P1 P2 v) _ _ R3
     have hw8 := below_setRow hw (show w.heap.size ≤ w.heap.size + 1 + 1 + 1 by omega) (scr P0 P1 P2 v)
     have hO8 : OwnI (wM.setRow (w.heap.size + 1 + 1 + 1) (scr P0 P1 P2 v)) w.heap.size v (pb ++ i) := (hO.move (fun k o e hk => (setRow_other wM (w.heap.size + 1 + 1 + 1) k _ (by have := hO.lt k e; omega)).trans hk)).down sz3
     clear hO
     go_wp2_with (first | (refine wpList_store_row rfl 30 _ _ rfl (w.heap.size + 1 + 1 + 1) (scr P0 P1 P2 v) rfl rfl 30 _ R3 (info_scr _ _ _ _ l0' l32 l64) (fit_scr _ _ _ _ zn zn zn _ _ _ _ l0' l32 l64) (scr_one _ _ _ _ hone) ?_) | fail)
     exact bodyPost_ret (Lo.results_row_slot Tryz.results6 _ _ (w.heap.size + 1 + 1 + 1) _ _ _ _ _ rfl R8 rfl Tryz.underlying30 rfl (info_scr _ _ _ _ l0' l32 l64)) rfl (.inr ⟨rfl, ⟨.inr ⟨he.out, v, by rw [hP0.out, hP1.out, hP2.out]; rfl, hO8⟩, hw8⟩⟩)
end Go.Proofs.YtgbkbcgjagcgbaaGreatDoor
