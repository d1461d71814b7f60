import Derived.Test.YtkpjpdlamojejaaDoorProg
import Derived.WalkKit
import Derived.WalkSpells
import Derived.WalkLawsBesides
import Derived.Lib.QuietBelow
import Derived.BigQuiet
import Derived.OrdersHeld
import Derived.Deep.RegionHeld3
import Derived.OwnWalk
import Derived.Deep.Cut
import Derived.Test.YtkpjpdlamojejaaDoorKa
import Derived.Test.YtkpjpdlamojejaaDoorAgv
namespace Go.Proofs.YtkpjpdlamojejaaDoor
set_option maxRecDepth 100000
open Go Go.RowKit Go.Sort
attribute [local go_sem] setCell_drewN alloc_drewN

theorem wk01 (a b : List Int) : wkE a b = 0 ∨ wkE a b = 20 := by
  unfold wkE Lo.weakE
  split
  · exact .inr rfl
  · exact .inl rfl
theorem erH_app (a b : List Int) (ha : a.length = 32) : erH (a ++ b) = wkE a b := by
  unfold erH
  rw [tk _ _ _ ha, dp _ _ _ ha]
theorem shH_app (a b : List Int) (ha : a.length = 32) : shH (a ++ b) = shL a b := by
  unfold shH
  rw [tk _ _ _ ha, dp _ _ _ ha]
def fl5 (k : Nat) : List Int := List.replicate k 255 ++ zr (32 - k)
theorem fl5_0 : fl5 0 = zr 32 := by simp [fl5]
theorem fl5_len (k : Nat) (hk : k ≤ 32) : (fl5 k).length = 32 := by simp [fl5, zr_len]; omega
theorem fl5_32 : fl5 32 = List.replicate 32 255 := by simp [fl5, zr]
theorem fl5_set (k : Nat) (hk : k < 32) : (irow .u8 (fl5 k)).setIfInBounds k (.int .u8 255) = irow .u8 (fl5 (k + 1)) := by
  have e : (fl5 k).set k 255 = fl5 (k + 1) := by
    apply List.ext_getElem
    · rw [List.length_set, fl5_len k (by omega), fl5_len (k + 1) (by omega)]
    · intro i h1 h2
      rw [fl5_len (k + 1) (by omega)] at h2
      rw [List.getElem_set]
      simp only [fl5, List.getElem_append, List.length_replicate, zr, List.getElem_replicate]
      by_cases e : k = i
      · subst e
        rw [if_pos rfl, dif_pos (by omega)]
      · rw [if_neg e]
        by_cases q : i < k
        · rw [dif_pos (by omega), dif_pos (by omega)]
        · rw [dif_neg (by omega), dif_neg (by omega)]
  rw [← e]
  simp [irow, List.map_set]
theorem l_sameT (a : List Int) (w : World) (u v : Value) (hu : Bys w u a) (hv : Bys w v a) : Calls Tryd.prog 9 #[u, v] w fun e w' => ∃ z, e = .returned z ∧ z = .bool true ∧ Below w.heap.size w w' := (l_same a a w u v hu hv).mono fun e w' h => ⟨_, h.1, by simp, h.2⟩
theorem pts (l : List Int) (h : l.length = 96) : [pt l 0 32, pt l 32 32, pt l 64 32].flatten = l := by
  simp only [List.flatten_cons, List.flatten_nil, List.append_nil, pt, List.drop_zero]
  have e2 : (l.drop 64).take 32 = l.drop 64 := List.take_of_length_le (by simp; omega)
  have e1 : (l.drop 32).take 32 ++ l.drop 64 = l.drop 32 := by
    have := List.take_append_drop 32 (l.drop 32)
    rwa [List.drop_drop] at this
  rw [e2, e1, List.take_append_drop]
theorem t_no (ks : List (List Int)) (f : Int) (p q : List Int) : ans false ks f p q = ⟨zr 32, zr 32, zr 32, 140, []⟩ := by simp [ans]
theorem t_err (ks : List (List Int)) (f : Int) (p q : List Int) (hf : f = 20) : ans true ks f p q = ⟨zr 32, zr 32, zr 32, 20, []⟩ := by subst hf; simp [ans]
theorem t_ok (ks : List (List Int)) (f : Int) (p q : List Int) (hf : f = 0) : ans true ks f p q = ⟨pt (scb ks) 0 32, pt (scb ks) 32 32, pt (scb ks) 64 32, 0, p ++ q⟩ := by subst hf; simp [ans]
theorem fr_below {w0 w2 w3 : World} {g : Nat} (hfr : ∀ z, z ≠ g → w3.heap[z]? = w2.heap[z]?) (hs : w2.heap.size ≤ w3.heap.size) (h2 : Below w0.heap.size w0 w2) (h3 : Below w0.heap.size w0 w3) : Below g w2 w3 := ⟨h3.os.trans h2.os.symm, h3.tape.trans h2.tape.symm, h3.output.trans h2.output.symm, hs, fun k hk => hfr k (by omega)⟩
set_option maxRecDepth 100000 in
set_option maxHeartbeats 4000000 in
theorem makes_any (pa pb fa fb i s o : List Int) (h : Bool) (kpa : K8 pa) (kpb : K8 pb) (kfa : K8 fa) (kfb : K8 fb) (ki : K8 i) (ks : K8 s) (ko : K8 o) (w : World) (hF : Lo.Four w) (hS : Sta w) (hK : Kon w) : Calls Tryd.prog 3 #[.agg (prow pa pb), .agg (prow fa fb), .agg (brow i s o h)] w fun e w' => e = .returned (.bool true) ∧ Below w.heap.size w w' := by
  have zn := zr_len 32
  have kz0 := hK.sz
  have cA : ∀ W : World, Lo.Four W → Sta W → Kon W → Calls Tryd.prog 4 #[.agg (irow .u8 (pa ++ pb)), .agg (irow .u8 (fa ++ fb)), .agg (brow i s o h)] W (AnsR (ans (h || decide (o = zr 32)) ((hlv pa s fa i fa s fa o h).map shH) (fer erH (hlv pa s fa i fa s fa o h)) pb i) W) := fun W a b c => by
    have q := (a_Start pa pb fa fb i s o h kpa kpb kfa kfb ki ks ko W a b c).mono fun e w' hX => hX.toAns
    rw [(both1 pa pb fa fb i s o h kpa.1 kpb.1 kfa.1 kfb.1).1, (both1 pa pb fa fb i s o h kpa.1 kpb.1 kfa.1 kfb.1).2, prow_irow, prow_irow] at q
    exact q
  have ok := ans_ok (h || decide (o = zr 32)) ((hlv pa s fa i fa s fa o h).map shH) (fer erH (hlv pa s fa i fa s fa o h)) pb i kpb ki
  generalize hT : ans (h || decide (o = zr 32)) ((hlv pa s fa i fa s fa o h).map shH) (fer erH (hlv pa s fa i fa s fa o h)) pb i = t at *
  replace hT := hide hT.symm
  rw [prow_irow, prow_irow]
  have R0 := hp3_0 w (.cells (irow .u8 (pa ++ pb)) 25) (.cells (irow .u8 (fa ++ fb)) 25) (.cells (brow i s o h) 27)
  have R1 := hp3_1 w (.cells (irow .u8 (pa ++ pb)) 25) (.cells (irow .u8 (fa ++ fb)) 25) (.cells (brow i s o h) 27)
  have R2 := hp3_2 w (.cells (irow .u8 (pa ++ pb)) 25) (.cells (irow .u8 (fa ++ fb)) 25) (.cells (brow i s o h) 27)
  have hw : Below w.heap.size w (((w.alloc (.cells (irow .u8 (pa ++ pb)) 25)).alloc (.cells (irow .u8 (fa ++ fb)) 25)).alloc (.cells (brow i s o h) 27)) := ((((Below.refl _ _).alloc (Nat.le_refl _) _).alloc (by simp) _).alloc (by simp; omega) _)
  replace hF := hF.below hw
  replace hS := hS.below hw
  replace hK := hK.below hw
  have lp : (pa ++ pb).length = 64 := by simp [kpa.1, kpb.1]
  have lf : (fa ++ fb).length = 64 := by simp [kfa.1, kfb.1]
  have xpa := app_ext0 pa pb
  have xfa := app_ext0 fa fb
  have xpb := app_ext1 pa pb 32 kpa.1
  have iB := info_brow i s o h ki.1 ks.1 ko.1
  have xi := bn_i i s o h ki.1
  have xs := bn_s i s o h ki.1 ks.1
  have xo := bn_o i s o h ki.1 ks.1 ko.1
  have qh := bn_h i s o h ki.1 ks.1 ko.1
  generalize brow i s o h = RB at *
  go_enter Tryd.func3, Tryd.ntmps3
  go_upto_region 1 with (first | (refine wpList_box rfl 25 _ rfl _ rfl (bPrA _) ?_) | (refine wpList_box rfl 27 _ rfl _ rfl (box_brow _) ?_) | fail)
  try simp only [size_alloc1, Act.put, List.setIfInBounds_toArray, List.set_cons_succ, List.set_cons_zero]
  generalize (((w.alloc (.cells (irow .u8 (pa ++ pb)) 25)).alloc (.cells (irow .u8 (fa ++ fb)) 25)).alloc (.cells RB 27)) = w1 at *
  repeat ((fail_if_success (refine wpList_load_want rfl 25 _ rfl (w.heap.size) rfl 25 (irow .u8 (pa ++ pb)) (0, 0) _ R0 Tryd.underlying25 rfl (infoP64 _ lp) ?_)); first | go_skip | go_step)
  refine wpList_load_want rfl 25 _ rfl (w.heap.size) rfl 25 (irow .u8 (pa ++ pb)) (0, 0) _ R0 Tryd.underlying25 rfl (infoP64 _ lp) ?_
  repeat ((fail_if_success (refine wpList_load_want rfl 25 _ rfl (w.heap.size + 1) rfl 25 (irow .u8 (fa ++ fb)) (0, 0) _ R1 Tryd.underlying25 rfl (infoP64 _ lf) ?_)); first | go_skip | go_step)
  refine wpList_load_want rfl 25 _ rfl (w.heap.size + 1) rfl 25 (irow .u8 (fa ++ fb)) (0, 0) _ R1 Tryd.underlying25 rfl (infoP64 _ lf) ?_
  repeat ((fail_if_success (refine wpList_load_want rfl 27 _ rfl (w.heap.size + 1 + 1) rfl 27 RB (0, 0) _ R2 Tryd.underlying27 rfl iB ?_)); first | go_skip | go_step)
  refine wpList_load_want rfl 27 _ rfl (w.heap.size + 1 + 1) rfl 27 RB (0, 0) _ R2 Tryd.underlying27 rfl iB ?_
  try simp only [Act.put, List.setIfInBounds_toArray, List.set_cons_succ, List.set_cons_zero]
  go_wp2_with (fail)
  refine (cA w1 hF hS hK).mono ?_
  rintro e_ w2 ⟨v0, rfl, hO0, hb⟩
  replace R0 := keep hb R0
  replace R1 := keep hb R1
  replace R2 := keep hb R2
  replace hF := hF.below hb
  replace hS := hS.below hb
  replace hK := hK.below hb
  replace hw := Below.after hw hb
  clear hb cA iB
  have on0 := own_oneI hO0
  have z_ := hp1_0 w2 (.cells scz 30)
  go_wp2_with (first | (refine wpList_alloc rfl 30 rfl scz zScA ?_) | (refine wpList_store_row rfl 30 _ _ rfl (w2.heap.size) (scr t.a t.b t.c v0) rfl rfl 30 _ z_ (info_scr _ _ _ _ ok.a ok.b ok.c) (fit_scr _ _ _ _ zn zn zn _ _ _ _ ok.a ok.b ok.c) (scr_one _ _ _ _ on0) ?_; refine wpList_stay ?_) | fail)
  unfold WpStay
  try simp only [Act.put, List.setIfInBounds_toArray, List.set_cons_succ, List.set_cons_zero]
  have S0 := setRow_heap (w2.alloc (.cells scz 30)) w2.heap.size _ (scr t.a t.b t.c v0) _ _ z_
  have hb_ : Below w2.heap.size w2 ((w2.alloc (.cells scz 30)).setRow w2.heap.size (scr t.a t.b t.c v0)) := below_setRow ((Below.refl _ _).alloc (Nat.le_refl _) _) (Nat.le_refl _) _
  have oU := fun z e => (hO0.lt z e).2
  have ltq := lt_of_row R2
  replace R0 := keep hb_ R0
  replace R1 := keep hb_ R1
  replace R2 := keep hb_ R2
  replace hO0 := hO0.keep hb_
  replace hF := hF.below hb_
  replace hS := hS.below hb_
  replace hK := hK.below hb_
  have sw7 := hw.size
  replace hw := Below.after hw hb_
  clear hb_ z_
  generalize (w2.alloc (.cells scz 30)).setRow w2.heap.size (scr t.a t.b t.c v0) = w3 at *
  generalize w2.heap.size = g7 at *
  cases h
  · by_cases ho0 : o = zr 32
    · have hd1 : decide (o = zr 32) = true := by simp [ho0]
      rw [hd1, Bool.or_true] at hT
      clear ho0
      have hdo := fun W => eq_k o (zr 32) ko.1 zn W
      rw [hd1] at hdo
      clear hd1
      have c_h : w3.cell? ⟨w.heap.size + 1 + 1, 96, none⟩ = some (.bool false) := (cell_of_row _ _ _ _ _ _ R2).trans qh
      have lK1 : (shL pa s).length = 32 := shL_len _ _
      have k8_1 : K8 (shL pa s) := shL_K8 _ _
      have lK2 : (shL fa i).length = 32 := shL_len _ _
      have k8_2 : K8 (shL fa i) := shL_K8 _ _
      have lK3 : (shL fa s).length = 32 := shL_len _ _
      have k8_3 : K8 (shL fa s) := shL_K8 _ _
      go_upto_region 4 with (first | (refine wpList_load_part rfl 23 _ rfl (w.heap.size + 1 + 1) 64 rfl 27 (RB) (0, 0) (irow .u8 o) _ R2 xo Tryd.underlying23 rfl (infoKy _ ko.1) ?_) | (refine wpList_build_want rfl 23 _ rfl [] rfl (irow .u8 (zr 32)) builtZk ?_) | fail)
      repeat ((fail_if_success (refine wpList_load_part rfl 23 _ rfl (w.heap.size) 0 rfl 25 (irow .u8 (pa ++ pb)) (0, 0) (irow .u8 pa) _ R0 xpa Tryd.underlying23 rfl (infoKy _ kpa.1) ?_)); first | go_skip | go_step)
      refine wpList_load_part rfl 23 _ rfl (w.heap.size) 0 rfl 25 (irow .u8 (pa ++ pb)) (0, 0) (irow .u8 pa) _ R0 xpa Tryd.underlying23 rfl (infoKy _ kpa.1) ?_
      repeat ((fail_if_success (refine wpList_load_part rfl 23 _ rfl (w.heap.size + 1 + 1) 32 rfl 27 (RB) (0, 0) (irow .u8 s) _ R2 xs Tryd.underlying23 rfl (infoKy _ ks.1) ?_)); first | go_skip | go_step)
      refine wpList_load_part rfl 23 _ rfl (w.heap.size + 1 + 1) 32 rfl 27 (RB) (0, 0) (irow .u8 s) _ R2 xs Tryd.underlying23 rfl (infoKy _ ks.1) ?_
      try simp only [Act.put, List.setIfInBounds_toArray, List.set_cons_succ, List.set_cons_zero]
      go_wp2_with (fail)
      refine ((c_shared kpa ks).at hF).mono ?_
      rintro e_ y1 ⟨rfl, hb⟩
      replace R0 := keep hb R0
      replace R1 := keep hb R1
      replace R2 := keep hb R2
      replace S0 := keep hb S0
      replace hO0 := hO0.keep hb
      replace hF := hF.below hb
      replace hS := hS.below hb
      replace hK := hK.below hb
      replace hw := Below.after hw hb
      clear hb
      have z_ := hp1_0 y1 (.cells (irow .u8 (zr 32)) 23)
      go_wp2_with (first | (refine wpList_alloc rfl 23 rfl (irow .u8 (zr 32)) zkey ?_) | (refine wpList_store_row rfl 23 _ _ rfl (y1.heap.size) (irow .u8 (shL pa s)) rfl rfl 23 _ z_ (infoKy _ lK1) (fitN 32 _ _ (zr_len 32) lK1) (irow_one _ _) ?_; refine wpList_stay ?_) | fail)
      unfold WpStay
      try simp only [Act.put, List.setIfInBounds_toArray, List.set_cons_succ, List.set_cons_zero]
      have K1 := setRow_heap (y1.alloc (.cells (irow .u8 (zr 32)) 23)) y1.heap.size _ (irow .u8 (shL pa s)) _ _ z_
      have hb_ : Below y1.heap.size y1 ((y1.alloc (.cells (irow .u8 (zr 32)) 23)).setRow y1.heap.size (irow .u8 (shL pa s))) := below_setRow ((Below.refl _ _).alloc (Nat.le_refl _) _) (Nat.le_refl _) _
      have l_R0_g9 := lt_of_row R0
      have l_R1_g9 := lt_of_row R1
      have l_R2_g9 := lt_of_row R2
      have l_S0_g9 := lt_of_row S0
      have sw_g9 := hw.size
      replace R0 := keep hb_ R0
      replace R1 := keep hb_ R1
      replace R2 := keep hb_ R2
      replace S0 := keep hb_ S0
      replace hO0 := hO0.keep hb_
      replace hF := hF.below hb_
      replace hS := hS.below hb_
      replace hK := hK.below hb_
      replace hw := Below.after hw hb_
      clear hb_ z_
      generalize ((y1.alloc (.cells (irow .u8 (zr 32)) 23)).setRow y1.heap.size (irow .u8 (shL pa s))) = y2 at *
      generalize y1.heap.size = g9 at *
      go_upto_region 5 with (fail)
      repeat ((fail_if_success (refine wpList_load_part rfl 23 _ rfl (w.heap.size + 1) 0 rfl 25 (irow .u8 (fa ++ fb)) (0, 0) (irow .u8 fa) _ R1 xfa Tryd.underlying23 rfl (infoKy _ kfa.1) ?_)); first | go_skip | go_step)
      refine wpList_load_part rfl 23 _ rfl (w.heap.size + 1) 0 rfl 25 (irow .u8 (fa ++ fb)) (0, 0) (irow .u8 fa) _ R1 xfa Tryd.underlying23 rfl (infoKy _ kfa.1) ?_
      repeat ((fail_if_success (refine wpList_load_part rfl 23 _ rfl (w.heap.size + 1 + 1) 0 rfl 27 (RB) (0, 0) (irow .u8 i) _ R2 xi Tryd.underlying23 rfl (infoKy _ ki.1) ?_)); first | go_skip | go_step)
      refine wpList_load_part rfl 23 _ rfl (w.heap.size + 1 + 1) 0 rfl 27 (RB) (0, 0) (irow .u8 i) _ R2 xi Tryd.underlying23 rfl (infoKy _ ki.1) ?_
      try simp only [Act.put, List.setIfInBounds_toArray, List.set_cons_succ, List.set_cons_zero]
      go_wp2_with (fail)
      refine ((c_shared kfa ki).at hF).mono ?_
      rintro e_ y3 ⟨rfl, hb⟩
      replace R0 := keep hb R0
      replace R1 := keep hb R1
      replace R2 := keep hb R2
      replace S0 := keep hb S0
      replace K1 := keep hb K1
      replace hO0 := hO0.keep hb
      replace hF := hF.below hb
      replace hS := hS.below hb
      replace hK := hK.below hb
      replace hw := Below.after hw hb
      clear hb
      have z_ := hp1_0 y3 (.cells (irow .u8 (zr 32)) 23)
      go_wp2_with (first | (refine wpList_alloc rfl 23 rfl (irow .u8 (zr 32)) zkey ?_) | (refine wpList_store_row rfl 23 _ _ rfl (y3.heap.size) (irow .u8 (shL fa i)) rfl rfl 23 _ z_ (infoKy _ lK2) (fitN 32 _ _ (zr_len 32) lK2) (irow_one _ _) ?_; refine wpList_stay ?_) | fail)
      unfold WpStay
      try simp only [Act.put, List.setIfInBounds_toArray, List.set_cons_succ, List.set_cons_zero]
      have K2 := setRow_heap (y3.alloc (.cells (irow .u8 (zr 32)) 23)) y3.heap.size _ (irow .u8 (shL fa i)) _ _ z_
      have hb_ : Below y3.heap.size y3 ((y3.alloc (.cells (irow .u8 (zr 32)) 23)).setRow y3.heap.size (irow .u8 (shL fa i))) := below_setRow ((Below.refl _ _).alloc (Nat.le_refl _) _) (Nat.le_refl _) _
      have l_R0_g11 := lt_of_row R0
      have l_R1_g11 := lt_of_row R1
      have l_R2_g11 := lt_of_row R2
      have l_S0_g11 := lt_of_row S0
      have l_K1_g11 := lt_of_row K1
      have sw_g11 := hw.size
      replace R0 := keep hb_ R0
      replace R1 := keep hb_ R1
      replace R2 := keep hb_ R2
      replace S0 := keep hb_ S0
      replace K1 := keep hb_ K1
      replace hO0 := hO0.keep hb_
      replace hF := hF.below hb_
      replace hS := hS.below hb_
      replace hK := hK.below hb_
      replace hw := Below.after hw hb_
      clear hb_ z_
      generalize ((y3.alloc (.cells (irow .u8 (zr 32)) 23)).setRow y3.heap.size (irow .u8 (shL fa i))) = y4 at *
      generalize y3.heap.size = g11 at *
      go_upto_region 6 with (fail)
      repeat ((fail_if_success (refine wpList_load_part rfl 23 _ rfl (w.heap.size + 1) 0 rfl 25 (irow .u8 (fa ++ fb)) (0, 0) (irow .u8 fa) _ R1 xfa Tryd.underlying23 rfl (infoKy _ kfa.1) ?_)); first | go_skip | go_step)
      refine wpList_load_part rfl 23 _ rfl (w.heap.size + 1) 0 rfl 25 (irow .u8 (fa ++ fb)) (0, 0) (irow .u8 fa) _ R1 xfa Tryd.underlying23 rfl (infoKy _ kfa.1) ?_
      repeat ((fail_if_success (refine wpList_load_part rfl 23 _ rfl (w.heap.size + 1 + 1) 32 rfl 27 (RB) (0, 0) (irow .u8 s) _ R2 xs Tryd.underlying23 rfl (infoKy _ ks.1) ?_)); first | go_skip | go_step)
      refine wpList_load_part rfl 23 _ rfl (w.heap.size + 1 + 1) 32 rfl 27 (RB) (0, 0) (irow .u8 s) _ R2 xs Tryd.underlying23 rfl (infoKy _ ks.1) ?_
      try simp only [Act.put, List.setIfInBounds_toArray, List.set_cons_succ, List.set_cons_zero]
      go_wp2_with (fail)
      refine ((c_shared kfa ks).at hF).mono ?_
      rintro e_ y5 ⟨rfl, hb⟩
      replace R0 := keep hb R0
      replace R1 := keep hb R1
      replace R2 := keep hb R2
      replace S0 := keep hb S0
      replace K1 := keep hb K1
      replace K2 := keep hb K2
      replace hO0 := hO0.keep hb
      replace hF := hF.below hb
      replace hS := hS.below hb
      replace hK := hK.below hb
      replace hw := Below.after hw hb
      clear hb
      have z_ := hp1_0 y5 (.cells (irow .u8 (zr 32)) 23)
      go_wp2_with (first | (refine wpList_alloc rfl 23 rfl (irow .u8 (zr 32)) zkey ?_) | (refine wpList_store_row rfl 23 _ _ rfl (y5.heap.size) (irow .u8 (shL fa s)) rfl rfl 23 _ z_ (infoKy _ lK3) (fitN 32 _ _ (zr_len 32) lK3) (irow_one _ _) ?_; refine wpList_stay ?_) | fail)
      unfold WpStay
      try simp only [Act.put, List.setIfInBounds_toArray, List.set_cons_succ, List.set_cons_zero]
      have K3 := setRow_heap (y5.alloc (.cells (irow .u8 (zr 32)) 23)) y5.heap.size _ (irow .u8 (shL fa s)) _ _ z_
      have hb_ : Below y5.heap.size y5 ((y5.alloc (.cells (irow .u8 (zr 32)) 23)).setRow y5.heap.size (irow .u8 (shL fa s))) := below_setRow ((Below.refl _ _).alloc (Nat.le_refl _) _) (Nat.le_refl _) _
      have l_R0_g13 := lt_of_row R0
      have l_R1_g13 := lt_of_row R1
      have l_R2_g13 := lt_of_row R2
      have l_S0_g13 := lt_of_row S0
      have l_K1_g13 := lt_of_row K1
      have l_K2_g13 := lt_of_row K2
      have sw_g13 := hw.size
      replace R0 := keep hb_ R0
      replace R1 := keep hb_ R1
      replace R2 := keep hb_ R2
      replace S0 := keep hb_ S0
      replace K1 := keep hb_ K1
      replace K2 := keep hb_ K2
      replace hO0 := hO0.keep hb_
      replace hF := hF.below hb_
      replace hS := hS.below hb_
      replace hK := hK.below hb_
      replace hw := Below.after hw hb_
      clear hb_ z_
      generalize ((y5.alloc (.cells (irow .u8 (zr 32)) 23)).setRow y5.heap.size (irow .u8 (shL fa s))) = y6 at *
      generalize y5.heap.size = g13 at *
      have z_ := hp1_0 y6 (.cells (irow .u8 (zr 32)) 23)
      go_wp2_with (first | (refine wpList_build_as rfl 23 _ rfl [] rfl (irow .u8 (zr 32)) builtZk ?_) | (refine wpList_alloc rfl 23 rfl (irow .u8 (zr 32)) zkey ?_) | (refine wpList_store_row rfl 23 _ _ rfl (y6.heap.size) (irow .u8 (zr 32)) rfl rfl 23 _ z_ (infoKy _ zn) rfl (irow_one _ _) ?_; refine wpList_stay ?_) | fail)
      unfold WpStay
      try simp only [Act.put, List.setIfInBounds_toArray, List.set_cons_succ, List.set_cons_zero]
      have K4 := setRow_heap (y6.alloc (.cells (irow .u8 (zr 32)) 23)) y6.heap.size _ (irow .u8 (zr 32)) _ _ z_
      have hb_ : Below y6.heap.size y6 ((y6.alloc (.cells (irow .u8 (zr 32)) 23)).setRow y6.heap.size (irow .u8 (zr 32))) := below_setRow ((Below.refl _ _).alloc (Nat.le_refl _) _) (Nat.le_refl _) _
      have l_R0_g15 := lt_of_row R0
      have l_R1_g15 := lt_of_row R1
      have l_R2_g15 := lt_of_row R2
      have l_S0_g15 := lt_of_row S0
      have l_K1_g15 := lt_of_row K1
      have l_K2_g15 := lt_of_row K2
      have l_K3_g15 := lt_of_row K3
      have sw_g15 := hw.size
      replace R0 := keep hb_ R0
      replace R1 := keep hb_ R1
      replace R2 := keep hb_ R2
      replace S0 := keep hb_ S0
      replace K1 := keep hb_ K1
      replace K2 := keep hb_ K2
      replace K3 := keep hb_ K3
      replace hO0 := hO0.keep hb_
      replace hF := hF.below hb_
      replace hS := hS.below hb_
      replace hK := hK.below hb_
      replace hw := Below.after hw hb_
      clear hb_ z_
      generalize ((y6.alloc (.cells (irow .u8 (zr 32)) 23)).setRow y6.heap.size (irow .u8 (zr 32))) = y7 at *
      generalize y6.heap.size = g15 at *
      have c_h1 : y7.cell? ⟨w.heap.size + 1 + 1, 96, none⟩ = some (.bool false) := (cell_of_row _ _ _ _ _ _ R2).trans qh
      rcases wk01 pa s with e1 | e1
      · rcases wk01 fa i with e2 | e2
        · rcases wk01 fa s with e3 | e3
          · have hf0 : fer erH (hlv pa s fa i fa s fa o false) = 0 := by rw [hlv_f]; simp only [fer, erH_app _ _ kpa.1, erH_app _ _ kfa.1, e1, e2, e3, if_true]
            have ht := hT.out
            rw [t_ok _ _ _ _ hf0, hlv_f] at ht
            simp only [List.map_cons, List.map_nil, shH_app _ _ kpa.1, shH_app _ _ kfa.1] at ht
            subst ht
            clear hT hf0
            rw [e1, e2, e3]
            generalize shL pa s = Y1 at *
            generalize shL fa i = Y2 at *
            generalize shL fa s = Y3 at *
            have hln := scb_len [Y1, Y2, Y3]
            have l0 : (pt (scb [Y1, Y2, Y3]) 0 32).length = 32 := pt_len _ _ _ (by omega)
            have l32 : (pt (scb [Y1, Y2, Y3]) 32 32).length = 32 := pt_len _ _ _ (by omega)
            have l64 : (pt (scb [Y1, Y2, Y3]) 64 32).length = 32 := pt_len _ _ _ (by omega)
            have zA := hp2_0 y7 (.cells (irow .u8 (zr 32)) 23) (.cells (irow .u8 (zr 32)) 23)
            have zB := hp2_1 y7 (.cells (irow .u8 (zr 32)) 23) (.cells (irow .u8 (zr 32)) 23)
            have hb_ : Below y7.heap.size y7 ((y7.alloc (.cells (irow .u8 (zr 32)) 23)).alloc (.cells (irow .u8 (zr 32)) 23)) := ((Below.refl _ _).alloc (Nat.le_refl _) _).alloc (by simp) _
            have m_R0 := lt_of_row R0
            have m_R1 := lt_of_row R1
            have m_R2 := lt_of_row R2
            have m_S0 := lt_of_row S0
            have m_K1 := lt_of_row K1
            have m_K2 := lt_of_row K2
            have m_K3 := lt_of_row K3
            have m_K4 := lt_of_row K4
            have sw17 := hw.size
            have oW := fun z e => (hO0.lt z e).2
            go_wp2_with (first | (refine wpList_alloc rfl 23 rfl (irow .u8 (zr 32)) zkey ?_) | fail)
            replace R0 := keep hb_ R0
            replace R1 := keep hb_ R1
            replace R2 := keep hb_ R2
            replace S0 := keep hb_ S0
            replace K1 := keep hb_ K1
            replace K2 := keep hb_ K2
            replace K3 := keep hb_ K3
            replace K4 := keep hb_ K4
            replace hO0 := hO0.keep hb_
            replace hF := hF.below hb_
            replace hS := hS.below hb_
            replace hK := hK.below hb_
            replace hw := Below.after hw hb_
            clear hb_
            try simp only [size_alloc1]
            generalize ((y7.alloc (.cells (irow .u8 (zr 32)) 23)).alloc (.cells (irow .u8 (zr 32)) 23)) = y8 at *
            generalize y7.heap.size = g17 at *
            go_loopw [19] (fun i wr => ∃ k : Nat, k ≤ 32 ∧ i = .int .i64 k ∧ wr.heap[g17]? = some (.cells (irow .u8 (fl5 k)) 23 (0, 0)) ∧ (∀ z, z ≠ g17 → wr.heap[z]? = y8.heap[z]?) ∧ y8.heap.size ≤ wr.heap.size ∧ Below w.heap.size w wr) (fun i _ => 32 - (intOf i).toNat)
            case atStart => exact ⟨0, by omega, rfl, by rw [fl5_0]; exact zA, fun _ _ => rfl, Nat.le_refl _, hw⟩
            case round =>
              clear zA
              obtain ⟨k, hk, rfl, zA, hfr, hsz, hwr⟩ := hrel
              by_cases hlt : k < 32
              · have hd : decide ((k : Int) < 32) = true := by simp; omega
                have ck : (k : Int) < 32 := by omega
                have ts := fl5_set k hlt
                have tl := fl5_len k hk
                have zA2 := setRow_heap wr g17 _ (irow .u8 (fl5 (k + 1))) _ _ zA
                have hfr2 : ∀ z, z ≠ g17 → (wr.setRow g17 (irow .u8 (fl5 (k + 1)))).heap[z]? = y8.heap[z]? := fun z hz => (setRow_other wr g17 z _ hz).trans (hfr z hz)
                have hw2 := below_setRow hwr (show w.heap.size ≤ g17 by omega) (irow .u8 (fl5 (k + 1)))
                have hs2 : y8.heap.size ≤ (wr.setRow g17 (irow .u8 (fl5 (k + 1)))).heap.size := by simpa using hsz
                generalize hA1 : irow .u8 (fl5 (k + 1)) = A1 at *
                replace hA1 := hide hA1
                replace ts := hide ts
                have za : (irow .u8 (fl5 k)).size = 32 := by rw [irow_size, tl]
                generalize irow .u8 (fl5 k) = A0 at *
                replace za := hide za
                clear hfr hsz hwr
                go_wp2_with (first | (refine wpList_store_cellR rfl 5 _ _ rfl g17 k (.int .u8 255) rfl rfl 23 A0 A1 zA (by rw [za.out]; omega) ts.out (by kernel_rfl) rfl ?_; refine wpList_stay ?_) | fail)
                unfold WpStay
                try simp only [Act.put, List.setIfInBounds_toArray, List.set_cons_succ, List.set_cons_zero]
                generalize wr.setRow g17 A1 = wS at *
                go_wp2_with (fail)
                refine ⟨⟨k + 1, by omega, by go_num, by rw [hA1.out]; exact zA2, hfr2, hs2, hw2⟩, ?_⟩
                simp [intOf]; omega
              · obtain rfl : k = 32 := by omega
                rw [fl5_32] at zA
                have lz : (List.replicate 32 (255 : Int)).length = 32 := by simp
                have kz8 : ∀ z ∈ List.replicate 32 (255 : Int), 0 ≤ z ∧ z < 256 := fun z hz => by have := (List.mem_replicate.1 hz).2; omega
                replace R0 := (hfr _ (by omega)).trans R0
                replace R1 := (hfr _ (by omega)).trans R1
                replace R2 := (hfr _ (by omega)).trans R2
                replace S0 := (hfr _ (by omega)).trans S0
                replace K1 := (hfr _ (by omega)).trans K1
                replace K2 := (hfr _ (by omega)).trans K2
                replace K3 := (hfr _ (by omega)).trans K3
                replace K4 := (hfr _ (by omega)).trans K4
                replace zB := (hfr _ (by omega)).trans zB
                replace hO0 := hO0.move (fun z o e hz => (hfr z (by have := oW z e; omega)).trans hz)
                replace hF := hF.belowN (by have := hF.1; omega) (fr_below hfr hsz hw hwr)
                replace hS := hS.belowN (by have := hS.sz; omega) (fr_below hfr hsz hw hwr)
                replace hK := hK.belowN (by have := hK.sz; omega) (fr_below hfr hsz hw hwr)
                replace hw := hwr
                clear hwr hfr hsz oW
                generalize hON : List.replicate 32 (255 : Int) = ON at *
                replace hON := hide hON
                go_upto_region 17 with (fail)
                repeat ((fail_if_success (refine wpList_load_want rfl 23 _ rfl (g17) rfl 23 (irow .u8 ON) (0, 0) _ zA Tryd.underlying23 rfl (infoKy _ lz) ?_)); first | go_skip | go_step)
                refine wpList_load_want rfl 23 _ rfl (g17) rfl 23 (irow .u8 ON) (0, 0) _ zA Tryd.underlying23 rfl (infoKy _ lz) ?_
                repeat ((fail_if_success (refine wpList_load_want rfl 23 _ rfl (g9) rfl 23 (irow .u8 Y1) (0, 0) _ K1 Tryd.underlying23 rfl (infoKy _ lK1) ?_)); first | go_skip | go_step)
                refine wpList_load_want rfl 23 _ rfl (g9) rfl 23 (irow .u8 Y1) (0, 0) _ K1 Tryd.underlying23 rfl (infoKy _ lK1) ?_
                repeat ((fail_if_success (refine wpList_load_want rfl 23 _ rfl (g11) rfl 23 (irow .u8 Y2) (0, 0) _ K2 Tryd.underlying23 rfl (infoKy _ lK2) ?_)); first | go_skip | go_step)
                refine wpList_load_want rfl 23 _ rfl (g11) rfl 23 (irow .u8 Y2) (0, 0) _ K2 Tryd.underlying23 rfl (infoKy _ lK2) ?_
                repeat ((fail_if_success (refine wpList_load_want rfl 23 _ rfl (g13) rfl 23 (irow .u8 Y3) (0, 0) _ K3 Tryd.underlying23 rfl (infoKy _ lK3) ?_)); first | go_skip | go_step)
                refine wpList_load_want rfl 23 _ rfl (g13) rfl 23 (irow .u8 Y3) (0, 0) _ K3 Tryd.underlying23 rfl (infoKy _ lK3) ?_
                try simp only [Act.put, List.setIfInBounds_toArray, List.set_cons_succ, List.set_cons_zero]
                repeat ((fail_if_success (refine wpList_wop rfl (.slice (some ⟨wr.heap.size, 0, none⟩) 4 4) (wr.alloc (.cells (irow .u8 (ON ++ (Y1 ++ (Y2 ++ (Y3))))) 23)) (op_bk4 _ _ _ _ rfl ON Y1 Y2 Y3 lz lK1 lK2 lK3 rfl rfl rfl rfl) ?_)); first | go_skip | go_step)
                refine wpList_wop rfl (.slice (some ⟨wr.heap.size, 0, none⟩) 4 4) (wr.alloc (.cells (irow .u8 (ON ++ (Y1 ++ (Y2 ++ (Y3))))) 23)) (op_bk4 _ _ _ _ rfl ON Y1 Y2 Y3 lz lK1 lK2 lK3 rfl rfl rfl rfl) ?_
                have z_ := hp1_0 wr (.cells (irow .u8 (ON ++ (Y1 ++ (Y2 ++ (Y3))))) 23)
                have hb_ : Below wr.heap.size wr (wr.alloc (.cells (irow .u8 (ON ++ (Y1 ++ (Y2 ++ (Y3))))) 23)) := (Below.refl _ _).alloc (Nat.le_refl _) _
                have hJ := own_bk4 lz lK1 lK2 lK3 z_
                replace R0 := keep hb_ R0
                replace R1 := keep hb_ R1
                replace R2 := keep hb_ R2
                replace S0 := keep hb_ S0
                replace K1 := keep hb_ K1
                replace K2 := keep hb_ K2
                replace K3 := keep hb_ K3
                replace K4 := keep hb_ K4
                replace zA := keep hb_ zA
                replace zB := keep hb_ zB
                replace hO0 := hO0.keep hb_
                replace hF := hF.below hb_
                replace hS := hS.below hb_
                replace hK := hK.below hb_
                replace hw := Below.after hw hb_
                clear hb_ z_
                try simp only [Act.put, List.setIfInBounds_toArray, List.set_cons_succ, List.set_cons_zero]
                generalize wr.alloc (.cells (irow .u8 (ON ++ (Y1 ++ (Y2 ++ (Y3))))) 23) = y9 at *
                generalize wr.heap.size = gJ17 at *
                go_wp2_with (fail)
                refine (l_join14 [ON, Y1, Y2, Y3] (by simp [lz, lK1, lK2, lK3]) (by simp) (by simp) _ _ y9 hJ).mono ?_
                rintro e_ y10 ⟨vj, rfl, hvj, hb⟩
                replace R0 := keep hb R0
                replace R1 := keep hb R1
                replace R2 := keep hb R2
                replace S0 := keep hb S0
                replace K1 := keep hb K1
                replace K2 := keep hb K2
                replace K3 := keep hb K3
                replace K4 := keep hb K4
                replace zA := keep hb zA
                replace zB := keep hb zB
                replace hO0 := hO0.keep hb
                replace hF := hF.below hb
                replace hS := hS.below hb
                replace hK := hK.below hb
                replace hw := Below.after hw hb
                clear hb hJ
                have c_h2 : y10.cell? ⟨w.heap.size + 1 + 1, 96, none⟩ = some (.bool false) := (cell_of_row _ _ _ _ _ _ R2).trans qh
                have eIn : [ON, Y1, Y2, Y3].flatten = sec [Y1, Y2, Y3] := by rw [sec, ← hON.out]; simp
                rw [eIn] at hvj
                have hIl := sec_len [Y1, Y2, Y3] (by simp [lK1, lK2, lK3])
                simp only [List.length_cons, List.length_nil] at hIl
                have hIz : ∀ z ∈ sec [Y1, Y2, Y3], 0 ≤ z ∧ z < 256 := sec_bd [Y1, Y2, Y3] (by simp only [List.mem_cons, List.not_mem_nil, or_false]; rintro k (rfl | rfl | rfl) <;> assumption)
                obtain ⟨hB1, hB2⟩ := (Sec.bys (.inl hvj)) (by omega) hIz
                have sk := slice_k (g17 + 1)
                go_upto_region 20 with (fail)
                repeat ((fail_if_success (refine wpList_bs10 rfl rfl ?_)); first | go_skip | go_step)
                refine wpList_bs10 rfl rfl ?_
                try simp only [Act.put, List.setIfInBounds_toArray, List.set_cons_succ, List.set_cons_zero]
                refine wpList_cv rfl _ rfl _ (.slice (some ⟨y10.heap.size, 0, none⟩) 10 10) rfl (Go.Lib.run_convert_bytes_const (P := Tryd.prog) y10 28 5 #[.int .u8 112, .int .u8 97, .int .u8 119, .int .u8 108, .int .u8 32, .int .u8 97, .int .u8 103, .int .u8 114, .int .u8 101, .int .u8 101] 10 10 Tryd.underlying28 Tryd.underlying5) ?_
                have hN := agn_bys y10
                have hb_ : Below y10.heap.size y10 (y10.alloc (.cells #[.int .u8 112, .int .u8 97, .int .u8 119, .int .u8 108, .int .u8 32, .int .u8 97, .int .u8 103, .int .u8 114, .int .u8 101, .int .u8 101] 5 (10, 11))) := (Below.refl _ _).alloc (Nat.le_refl _) _
                replace hB1 := hB1.keep hb_
                replace R0 := keep hb_ R0
                replace R1 := keep hb_ R1
                replace R2 := keep hb_ R2
                replace S0 := keep hb_ S0
                replace K1 := keep hb_ K1
                replace K2 := keep hb_ K2
                replace K3 := keep hb_ K3
                replace K4 := keep hb_ K4
                replace zA := keep hb_ zA
                replace zB := keep hb_ zB
                replace hO0 := hO0.keep hb_
                replace hvj := hvj.keep hb_
                replace hF := hF.below hb_
                replace hS := hS.below hb_
                replace hK := hK.below hb_
                replace hw := Below.after hw hb_
                clear hb_
                try simp only [Act.put, List.setIfInBounds_toArray, List.set_cons_succ, List.set_cons_zero]
                generalize y10.alloc (.cells #[.int .u8 112, .int .u8 97, .int .u8 119, .int .u8 108, .int .u8 32, .int .u8 97, .int .u8 103, .int .u8 114, .int .u8 101, .int .u8 101] 5 (10, 11)) = y11 at *
                generalize y10.heap.size = gN at *
                have hA : Bys y11 (.slice (some ⟨g17 + 1, 0, none⟩) 32 32) (zr 32) := by
                  have h := Bys.of_row zB (by rw [zr_len]; omega) zr_bd32 32
                  rw [zr_len] at h
                  exact h
                have hR : Hid (scb [Y1, Y2, Y3] = xpd (hm (zr 32) (sec [Y1, Y2, Y3])) agn 96) := hide rfl
                have cD := a_derive (zr 32) (sec [Y1, Y2, Y3]) agn 96 y11 (.slice (some ⟨g17 + 1, 0, none⟩) 32 32) vj (.slice (some ⟨gN, 0, none⟩) 10 10) hS hK hA (fun a l c h => by cases h; exact Nat.le_refl _) (by rw [zr_len]; omega) hB1 hB2 (by omega) hN (fun a l c h => by cases h; exact Nat.le_refl _) (by decide)
                clear hA hB1 hB2 hN hIl hIz sk
                go_wp2_with (fail)
                refine cD.mono ?_
                rintro e_ y12 ⟨v_, rfl, hX, hb⟩
                obtain ⟨m_, gD, hm_, _, rfl, lgD, rgD⟩ | ⟨hm_, _⟩ := hX
                rotate_left
                · exact absurd hm_ (by decide)
                obtain rfl : m_ = 96 := by omega
                clear hm_ cD
                rw [← hR.out] at rgD
                replace R0 := keep hb R0
                replace R1 := keep hb R1
                replace R2 := keep hb R2
                replace S0 := keep hb S0
                replace K1 := keep hb K1
                replace K2 := keep hb K2
                replace K3 := keep hb K3
                replace K4 := keep hb K4
                replace zA := keep hb zA
                replace zB := keep hb zB
                replace hO0 := hO0.keep hb
                replace hvj := hvj.keep hb
                replace hF := hF.below hb
                replace hS := hS.below hb
                replace hK := hK.below hb
                replace hw := Below.after hw hb
                clear hb hR
                have hAll : Bys y12 (.slice (some ⟨gD, 0, none⟩) 96 96) (scb [Y1, Y2, Y3]) := by
                  have h := Bys.of_row rgD (by rw [hln]; omega) (scb_bd _) 96
                  rw [hln] at h
                  exact h
                clear rgD
                have hps := pts (scb [Y1, Y2, Y3]) hln
                have hAz := scb_bd [Y1, Y2, Y3]
                generalize pt (scb [Y1, Y2, Y3]) 0 32 = P0 at *
                generalize pt (scb [Y1, Y2, Y3]) 32 32 = P1 at *
                generalize pt (scb [Y1, Y2, Y3]) 64 32 = P2 at *
                generalize scb [Y1, Y2, Y3] = AL at *
                have xa := sc_a P0 P1 P2 v0 l0
                have xb := sc_b P0 P1 P2 v0 l0 l32
                have xc := sc_c P0 P1 P2 v0 l0 l32 l64
                have qv := sc_v P0 P1 P2 v0 l0 l32 l64
                generalize scr P0 P1 P2 v0 = XR at *
                have sw21 := hw.size
                go_upto_region 21 with (fail)
                have hbd : Below y12.heap.size y12 y12.drew := below_drN (Below.refl _ _) 1
                replace hAll := hAll.keep hbd
                replace R0 := keep hbd R0
                replace R2 := keep hbd R2
                replace S0 := keep hbd S0
                replace hO0 := hO0.keep hbd
                replace hw := Below.after hw hbd
                clear hbd
                have lpi : (pb ++ i).length ≤ 9223372036854775807 := by rw [List.length_append, kpb.1, ki.1]; omega
                have zpi : ∀ z ∈ pb ++ i, 0 ≤ z ∧ z < 256 := fun z hz => (List.mem_append.1 hz).elim (kpb.2 z) (ki.2 z)
                refine wp_region_noPanic ?_
                refine wp_region_held (S := fun W => (W.heap[g7]? = some (.cells XR 30 (0, 0))) ∧ (W.heap[w.heap.size]? = some (.cells (irow .u8 (pa ++ pb)) 25 (0, 0))) ∧ W.heap[w.heap.size + 1 + 1]? = some (.cells RB 27 (0, 0))) (by kernel_rfl) ?_
                change wpAnyH _ _ _ _ _ _ _ _ (World.drew _)
                generalize y12.drew = y13 at *
                refine wpAnyH_take (i := 0) (v := ?v1) rfl (by kernel_rfl) (by kernel_rfl) (by kernel_rfl) (fun _ _ _ h => h) (Or.inl ⟨by rfl, ?y1⟩) ⟨S0, R0, R2⟩ ?r1
                case y1 =>
                  intro w_ hS_
                  go_simp
                  try with_reducible rfl
                simp only [Act.put, List.getElem_toArray, List.getElem_cons_zero, List.setIfInBounds_toArray, List.set_cons_succ, List.set_cons_zero]
                refine wpAnyH_take (i := 1) (v := ?v2) rfl (by kernel_rfl) (by kernel_rfl) (by kernel_rfl) (fun _ _ _ h => h) (Or.inl ⟨by rfl, ?y2⟩) ⟨S0, R0, R2⟩ ?r2
                case y2 =>
                  intro w_ hS_
                  go_simp
                  try with_reducible rfl
                simp only [Act.put, List.getElem_toArray, List.getElem_cons_succ, List.getElem_cons_zero, List.setIfInBounds_toArray, List.set_cons_succ, List.set_cons_zero]
                refine wpAnyH_take (i := 2) (v := ?v3) rfl (by kernel_rfl) (by kernel_rfl) (by kernel_rfl) (fun _ _ _ h => h) (Or.inl ⟨by rfl, ?y3⟩) ⟨S0, R0, R2⟩ ?r3
                case y3 =>
                  intro w_ hS_
                  go_simp
                  try with_reducible rfl
                simp only [Act.put, List.getElem_toArray, List.getElem_cons_succ, List.getElem_cons_zero, List.setIfInBounds_toArray, List.set_cons_succ, List.set_cons_zero]
                refine wpAnyH_take (i := 3) (v := ?v4) rfl (by kernel_rfl) (by kernel_rfl) (by kernel_rfl) (fun _ _ _ h => h) (Or.inl ⟨by rfl, ?y4⟩) ⟨S0, R0, R2⟩ ?r4
                case y4 =>
                  intro w_ hS_
                  go_simp
                  try with_reducible rfl
                simp only [Act.put, List.getElem_toArray, List.getElem_cons_succ, List.getElem_cons_zero, List.setIfInBounds_toArray, List.set_cons_succ, List.set_cons_zero]
                refine wpAnyH_take (i := 4) (v := ?v5) rfl (by kernel_rfl) (by kernel_rfl) (by kernel_rfl) (fun _ _ _ h => h) (Or.inl ⟨by rfl, ?y5⟩) ⟨S0, R0, R2⟩ ?r5
                case y5 =>
                  intro w_ hS_
                  go_simp
                  try with_reducible rfl
                simp only [Act.put, List.getElem_toArray, List.getElem_cons_succ, List.getElem_cons_zero, List.setIfInBounds_toArray, List.set_cons_succ, List.set_cons_zero]
                refine wpAnyH_take (i := 5) (v := ?v6) rfl (by kernel_rfl) (by kernel_rfl) (by kernel_rfl) (fun _ _ _ h => h) (Or.inl ⟨by rfl, ?y6⟩) ⟨S0, R0, R2⟩ ?r6
                case y6 =>
                  intro w_ hS_
                  go_simp
                  try with_reducible rfl
                simp only [Act.put, List.getElem_toArray, List.getElem_cons_succ, List.getElem_cons_zero, List.setIfInBounds_toArray, List.set_cons_succ, List.set_cons_zero]
                refine wpAnyH_take (i := 6) (v := ?v7) rfl (by kernel_rfl) (by kernel_rfl) (by kernel_rfl) (fun _ _ _ h => h) (Or.inl ⟨by rfl, ?y7⟩) ⟨S0, R0, R2⟩ ?r7
                case y7 =>
                  intro w_ hS_
                  go_simp
                  try with_reducible rfl
                simp only [Act.put, List.getElem_toArray, List.getElem_cons_succ, List.getElem_cons_zero, List.setIfInBounds_toArray, List.set_cons_succ, List.set_cons_zero]
                refine wpAnyH_take (i := 7) (v := ?v8) rfl (by kernel_rfl) (by kernel_rfl) (by kernel_rfl) (fun _ _ _ h => h) (Or.inl ⟨by rfl, ?y8⟩) ⟨S0, R0, R2⟩ ?r8
                case y8 =>
                  intro w_ hS_
                  go_simp
                  try with_reducible rfl
                simp only [Act.put, List.getElem_toArray, List.getElem_cons_succ, List.getElem_cons_zero, List.setIfInBounds_toArray, List.set_cons_succ, List.set_cons_zero]
                refine wpAnyH_take (i := 8) (v := ?v9) rfl (by kernel_rfl) (by kernel_rfl) (by kernel_rfl) (fun _ _ _ h => h) (Or.inl ⟨by rfl, ?y9⟩) ⟨S0, R0, R2⟩ ?r9
                case y9 =>
                  intro w_ hS_
                  go_simp
                  try with_reducible rfl
                simp only [Act.put, List.getElem_toArray, List.getElem_cons_succ, List.getElem_cons_zero, List.setIfInBounds_toArray, List.set_cons_succ, List.set_cons_zero]
                refine wpAnyH_take (i := 9) (v := .agg (irow .u8 P0)) rfl (by kernel_rfl) (by kernel_rfl) (by kernel_rfl) (fun _ _ _ h => h) (Or.inl ⟨by rfl, ?y10⟩) ⟨S0, R0, R2⟩ ?r10
                case y10 =>
                  intro w_ hS_
                  simp only [List.getElem_toArray, List.getElem_cons_succ, List.getElem_cons_zero]
                  exact run_load_part 23 _ (by rfl) (g7) 0 (by rfl) 30 XR (0, 0) (irow .u8 P0) _ (hS_.1) xa Tryd.underlying23 rfl (infoKy _ l0)
                simp only [Act.put, List.getElem_toArray, List.getElem_cons_succ, List.getElem_cons_zero, List.setIfInBounds_toArray, List.set_cons_succ, List.set_cons_zero]
                refine wpAnyH_take (i := 10) (v := ?v11) rfl (by kernel_rfl) (by kernel_rfl) (by kernel_rfl) (fun _ _ _ h => h) (Or.inl ⟨by rfl, ?y11⟩) ⟨S0, R0, R2⟩ ?r11
                case y11 =>
                  intro w_ hS_
                  go_simp
                  try with_reducible rfl
                simp only [Act.put, List.getElem_toArray, List.getElem_cons_succ, List.getElem_cons_zero, List.setIfInBounds_toArray, List.set_cons_succ, List.set_cons_zero]
                refine wpAnyH_take (i := 11) (v := .agg (irow .u8 P1)) rfl (by kernel_rfl) (by kernel_rfl) (by kernel_rfl) (fun _ _ _ h => h) (Or.inl ⟨by rfl, ?y12⟩) ⟨S0, R0, R2⟩ ?r12
                case y12 =>
                  intro w_ hS_
                  simp only [List.getElem_toArray, List.getElem_cons_succ, List.getElem_cons_zero]
                  exact run_load_part 23 _ (by rfl) (g7) 32 (by rfl) 30 XR (0, 0) (irow .u8 P1) _ (hS_.1) xb Tryd.underlying23 rfl (infoKy _ l32)
                simp only [Act.put, List.getElem_toArray, List.getElem_cons_succ, List.getElem_cons_zero, List.setIfInBounds_toArray, List.set_cons_succ, List.set_cons_zero]
                refine wpAnyH_take (i := 12) (v := ?v13) rfl (by kernel_rfl) (by kernel_rfl) (by kernel_rfl) (fun _ _ _ h => h) (Or.inl ⟨by rfl, ?y13⟩) ⟨S0, R0, R2⟩ ?r13
                case y13 =>
                  intro w_ hS_
                  go_simp
                  try with_reducible rfl
                simp only [Act.put, List.getElem_toArray, List.getElem_cons_succ, List.getElem_cons_zero, List.setIfInBounds_toArray, List.set_cons_succ, List.set_cons_zero]
                refine wpAnyH_take (i := 13) (v := .agg (irow .u8 P2)) rfl (by kernel_rfl) (by kernel_rfl) (by kernel_rfl) (fun _ _ _ h => h) (Or.inl ⟨by rfl, ?y14⟩) ⟨S0, R0, R2⟩ ?r14
                case y14 =>
                  intro w_ hS_
                  simp only [List.getElem_toArray, List.getElem_cons_succ, List.getElem_cons_zero]
                  exact run_load_part 23 _ (by rfl) (g7) 64 (by rfl) 30 XR (0, 0) (irow .u8 P2) _ (hS_.1) xc Tryd.underlying23 rfl (infoKy _ l64)
                simp only [Act.put, List.getElem_toArray, List.getElem_cons_succ, List.getElem_cons_zero, List.setIfInBounds_toArray, List.set_cons_succ, List.set_cons_zero]
                refine wpAnyH_one (k := 14) (fuel := 15) (by kernel_rfl) rfl (by kernel_rfl) (fun K_ hK => ?_)
                refine wp_world_op (.slice (some ⟨y13.heap.size, 0, none⟩) 3 3) (y13.alloc (.cells (irow .u8 (P0 ++ (P1 ++ (P2)))) 23)) (op_bk3 _ _ _ rfl P0 P1 P2 l0 l32 l64 rfl rfl rfl) ?_
                have hb_ : Below y13.heap.size y13 (y13.alloc (.cells (irow .u8 (P0 ++ (P1 ++ (P2)))) 23)) := (Below.refl _ _).alloc (Nat.le_refl _) _
                have hJ := own_bk3 l0 l32 l64 (hp1_0 y13 (.cells (irow .u8 (P0 ++ (P1 ++ (P2)))) 23))
                replace hAll := hAll.keep hb_
                replace R0 := keep hb_ R0
                replace R2 := keep hb_ R2
                replace S0 := keep hb_ S0
                replace hO0 := hO0.keep hb_
                replace hw := Below.after hw hb_
                clear hb_
                refine hK _ _ ⟨S0, R0, R2⟩ ?_
                simp only [Act.put, List.getElem_toArray, List.getElem_cons_succ, List.getElem_cons_zero, List.setIfInBounds_toArray, List.set_cons_succ, List.set_cons_zero]
                clear hK
                generalize y13.alloc (.cells (irow .u8 (P0 ++ (P1 ++ (P2)))) 23) = y14 at *
                generalize y13.heap.size = gq14 at *
                refine wpAnyH_one (k := 15) (fuel := 14) (by kernel_rfl) rfl (by kernel_rfl) (fun K_ hK => ?_)
                refine wp_call_ex (f := 7) (by kernel_rfl) (l_join14 [P0, P1, P2] (by simp [l0, l32, l64]) (by simp) (by simp) _ _ y14 hJ) (fun vq y15 hX_ => ?_)
                obtain ⟨hvq, hb_⟩ := hX_
                replace hAll := hAll.keep hb_
                rw [hps] at hvq
                replace R0 := keep hb_ R0
                replace R2 := keep hb_ R2
                replace S0 := keep hb_ S0
                replace hO0 := hO0.keep hb_
                replace hw := Below.after hw hb_
                clear hb_ hJ
                refine hK _ _ ⟨S0, R0, R2⟩ ?_
                simp only [Act.put, List.getElem_toArray, List.getElem_cons_succ, List.getElem_cons_zero, List.setIfInBounds_toArray, List.set_cons_succ, List.set_cons_zero]
                clear hK
                refine wpAnyH_one (k := 16) (fuel := 13) (by kernel_rfl) rfl (by kernel_rfl) (fun K_ hK => ?_)
                refine wp_call_ex (f := 9) (by kernel_rfl) (l_sameT AL y15 _ _ hAll ((Sec.bys (.inl hvq)) (by omega) hAz).1) (fun v_ y16 hX_ => ?_)
                obtain ⟨rfl, hb_⟩ := hX_
                replace R0 := keep hb_ R0
                replace R2 := keep hb_ R2
                replace S0 := keep hb_ S0
                replace hO0 := hO0.keep hb_
                replace hw := Below.after hw hb_
                clear hb_
                refine hK _ _ ⟨S0, R0, R2⟩ ?_
                simp only [Act.put, List.getElem_toArray, List.getElem_cons_succ, List.getElem_cons_zero, List.setIfInBounds_toArray, List.set_cons_succ, List.set_cons_zero]
                clear hK
                refine wpAnyH_take (i := 17) (v := ?v15) rfl (by kernel_rfl) (by kernel_rfl) (by kernel_rfl) (fun _ _ _ h => h) (Or.inl ⟨by rfl, ?y15⟩) ⟨S0, R0, R2⟩ ?r15
                case y15 =>
                  intro w_ hS_
                  go_simp
                  try with_reducible rfl
                simp only [Act.put, List.getElem_toArray, List.getElem_cons_succ, List.getElem_cons_zero, List.setIfInBounds_toArray, List.set_cons_succ, List.set_cons_zero]
                refine wpAnyH_take (i := 18) (v := ?v16) rfl (by kernel_rfl) (by kernel_rfl) (by kernel_rfl) (fun _ _ _ h => h) (Or.inl ⟨by rfl, ?y16⟩) ⟨S0, R0, R2⟩ ?r16
                case y16 =>
                  intro w_ hS_
                  go_simp
                  try with_reducible rfl
                simp only [Act.put, List.getElem_toArray, List.getElem_cons_succ, List.getElem_cons_zero, List.setIfInBounds_toArray, List.set_cons_succ, List.set_cons_zero]
                refine wpAnyH_take (i := 19) (v := ?v17) rfl (by kernel_rfl) (by kernel_rfl) (by kernel_rfl) (fun _ _ _ h => h) (Or.inl ⟨by rfl, ?y17⟩) ⟨S0, R0, R2⟩ ?r17
                case y17 =>
                  intro w_ hS_
                  go_simp
                  try with_reducible rfl
                simp only [Act.put, List.getElem_toArray, List.getElem_cons_succ, List.getElem_cons_zero, List.setIfInBounds_toArray, List.set_cons_succ, List.set_cons_zero]
                refine wpAnyH_take (i := 20) (v := v0) rfl (by kernel_rfl) (by kernel_rfl) (by kernel_rfl) (fun _ _ _ h => h) (Or.inl ⟨by rfl, ?y18⟩) ⟨S0, R0, R2⟩ ?r18
                case y18 =>
                  intro w_ hS_
                  have c_ : w_.cell? ⟨g7, 96, none⟩ = some v0 := (cell_of_row _ _ _ _ _ _ hS_.1).trans qv
                  go_simp
                  try with_reducible rfl
                simp only [Act.put, List.getElem_toArray, List.getElem_cons_succ, List.getElem_cons_zero, List.setIfInBounds_toArray, List.set_cons_succ, List.set_cons_zero]
                refine wpAnyH_take (i := 21) (v := ?v19) rfl (by kernel_rfl) (by kernel_rfl) (by kernel_rfl) (fun _ _ _ h => h) (Or.inl ⟨by rfl, ?y19⟩) ⟨S0, R0, R2⟩ ?r19
                case y19 =>
                  intro w_ hS_
                  go_simp
                  try with_reducible rfl
                simp only [Act.put, List.getElem_toArray, List.getElem_cons_succ, List.getElem_cons_zero, List.setIfInBounds_toArray, List.set_cons_succ, List.set_cons_zero]
                refine wpAnyH_take (i := 22) (v := .agg (irow .u8 pb)) rfl (by kernel_rfl) (by kernel_rfl) (by kernel_rfl) (fun _ _ _ h => h) (Or.inl ⟨by rfl, ?y20⟩) ⟨S0, R0, R2⟩ ?r20
                case y20 =>
                  intro w_ hS_
                  simp only [List.getElem_toArray, List.getElem_cons_succ, List.getElem_cons_zero]
                  exact run_load_part 23 _ (by rfl) (w.heap.size) 32 (by rfl) 25 (irow .u8 (pa ++ pb)) (0, 0) (irow .u8 pb) _ (hS_.2.1) xpb Tryd.underlying23 rfl (infoKy _ kpb.1)
                simp only [Act.put, List.getElem_toArray, List.getElem_cons_succ, List.getElem_cons_zero, List.setIfInBounds_toArray, List.set_cons_succ, List.set_cons_zero]
                refine wpAnyH_take (i := 23) (v := ?v21) rfl (by kernel_rfl) (by kernel_rfl) (by kernel_rfl) (fun _ _ _ h => h) (Or.inl ⟨by rfl, ?y21⟩) ⟨S0, R0, R2⟩ ?r21
                case y21 =>
                  intro w_ hS_
                  go_simp
                  try with_reducible rfl
                simp only [Act.put, List.getElem_toArray, List.getElem_cons_succ, List.getElem_cons_zero, List.setIfInBounds_toArray, List.set_cons_succ, List.set_cons_zero]
                refine wpAnyH_take (i := 24) (v := .agg (irow .u8 i)) rfl (by kernel_rfl) (by kernel_rfl) (by kernel_rfl) (fun _ _ _ h => h) (Or.inl ⟨by rfl, ?y22⟩) ⟨S0, R0, R2⟩ ?r22
                case y22 =>
                  intro w_ hS_
                  simp only [List.getElem_toArray, List.getElem_cons_succ, List.getElem_cons_zero]
                  exact run_load_part 23 _ (by rfl) (w.heap.size + 1 + 1) 0 (by rfl) 27 RB (0, 0) (irow .u8 i) _ (hS_.2.2) xi Tryd.underlying23 rfl (infoKy _ ki.1)
                simp only [Act.put, List.getElem_toArray, List.getElem_cons_succ, List.getElem_cons_zero, List.setIfInBounds_toArray, List.set_cons_succ, List.set_cons_zero]
                refine wpAnyH_one (k := 25) (fuel := 4) (by kernel_rfl) rfl (by kernel_rfl) (fun K_ hK => ?_)
                refine wp_world_op (.slice (some ⟨y16.heap.size, 0, none⟩) 2 2) (y16.alloc (.cells (irow .u8 (pb ++ (i))) 23)) (op_bk2 _ _ rfl pb i kpb.1 ki.1 rfl rfl) ?_
                have hb_ : Below y16.heap.size y16 (y16.alloc (.cells (irow .u8 (pb ++ (i))) 23)) := (Below.refl _ _).alloc (Nat.le_refl _) _
                have hJ2 := own_bk2 kpb.1 ki.1 (hp1_0 y16 (.cells (irow .u8 (pb ++ (i))) 23))
                replace R0 := keep hb_ R0
                replace R2 := keep hb_ R2
                replace S0 := keep hb_ S0
                replace hO0 := hO0.keep hb_
                replace hw := Below.after hw hb_
                clear hb_
                refine hK _ _ ⟨S0, R0, R2⟩ ?_
                simp only [Act.put, List.getElem_toArray, List.getElem_cons_succ, List.getElem_cons_zero, List.setIfInBounds_toArray, List.set_cons_succ, List.set_cons_zero]
                clear hK
                generalize y16.alloc (.cells (irow .u8 (pb ++ (i))) 23) = y17 at *
                generalize y16.heap.size = gq25 at *
                refine wpAnyH_one (k := 26) (fuel := 3) (by kernel_rfl) rfl (by kernel_rfl) (fun K_ hK => ?_)
                refine wp_call_ex (f := 7) (by kernel_rfl) (l_join14 [pb, i] (by simp [kpb.1, ki.1]) (by simp) (by simp) _ _ y17 hJ2) (fun vr y18 hX_ => ?_)
                obtain ⟨hvr, hb_⟩ := hX_
                simp only [List.flatten_cons, List.flatten_nil, List.append_nil] at hvr
                replace R0 := keep hb_ R0
                replace R2 := keep hb_ R2
                replace S0 := keep hb_ S0
                replace hO0 := hO0.keep hb_
                replace hw := Below.after hw hb_
                clear hb_ hJ2
                refine hK _ _ ⟨S0, R0, R2⟩ ?_
                simp only [Act.put, List.getElem_toArray, List.getElem_cons_succ, List.getElem_cons_zero, List.setIfInBounds_toArray, List.set_cons_succ, List.set_cons_zero]
                clear hK
                refine wpAnyH_one (k := 27) (fuel := 2) (by kernel_rfl) rfl (by kernel_rfl) (fun K_ hK => ?_)
                refine wp_call_ex (f := 9) (by kernel_rfl) (l_sameT (pb ++ i) y18 _ _ ((Sec.bys (.inl hO0)) lpi zpi).1 ((Sec.bys (.inl hvr)) lpi zpi).1) (fun v_ y19 hX_ => ?_)
                obtain ⟨rfl, hb_⟩ := hX_
                replace R0 := keep hb_ R0
                replace R2 := keep hb_ R2
                replace S0 := keep hb_ S0
                replace hO0 := hO0.keep hb_
                replace hw := Below.after hw hb_
                clear hb_
                refine hK _ _ ⟨S0, R0, R2⟩ ?_
                simp only [Act.put, List.getElem_toArray, List.getElem_cons_succ, List.getElem_cons_zero, List.setIfInBounds_toArray, List.set_cons_succ, List.set_cons_zero]
                clear hK
                refine wpAnyH_take (i := 28) (v := ?v23) rfl (by kernel_rfl) (by kernel_rfl) (by kernel_rfl) (fun _ _ _ h => h) (Or.inl ⟨by rfl, ?y23⟩) ⟨S0, R0, R2⟩ ?r23
                case y23 =>
                  intro w_ hS_
                  go_simp
                  try with_reducible rfl
                simp only [Act.put, List.getElem_toArray, List.getElem_cons_succ, List.getElem_cons_zero, List.setIfInBounds_toArray, List.set_cons_succ, List.set_cons_zero]
                refine wpAnyH_take (i := 29) (v := ?v24) rfl (by kernel_rfl) (by kernel_rfl) (by kernel_rfl) (fun _ _ _ h => h) (Or.inl ⟨by rfl, ?y24⟩) ⟨S0, R0, R2⟩ ?r24
                case y24 =>
                  intro w_ hS_
                  go_simp
                  try with_reducible rfl
                simp only [Act.put, List.getElem_toArray, List.getElem_cons_succ, List.getElem_cons_zero, List.setIfInBounds_toArray, List.set_cons_succ, List.set_cons_zero]
                refine wpAnyH_done (by kernel_rfl) ?_ _
                refine NoPanic.normal ?_
                go_wp2_with (fail)
                go_ret
                exact ⟨rfl, hw⟩
          · have hf0 : fer erH (hlv pa s fa i fa s fa o false) = 20 := by rw [hlv_f]; simp [fer, erH_app _ _ kpa.1, erH_app _ _ kfa.1, e1, e2, e3]
            have ht := hT.out
            rw [t_err _ _ _ _ hf0] at ht
            subst ht
            clear hT hf0
            rw [e1, e2, e3]
            have B0 := ((Sec.bys (.inl hO0)) (by simp) (fun z hz => by simp at hz)).1
            have Bn := bys_nil y7
            have cS := l_sameSec (zr 32) (zr 32) (zr 32) [] v0 (.slice none 0 0) zn zn zn y7 B0 Bn
            have iX := info_scr (zr 32) (zr 32) (zr 32) v0 zn zn zn
            go_wp2_with (first | (refine wpList_load_want rfl 30 _ rfl g7 rfl 30 (scr (zr 32) (zr 32) (zr 32) v0) (0, 0) _ S0 Tryd.underlying30 rfl iX ?_) | (refine wpList_build_want rfl 30 _ rfl [] rfl scz builtZc ?_) | fail)
            refine cS.mono ?_
            rintro e_ w9 ⟨rfl, hb⟩
            replace hw := Below.after hw hb
            go_wp2_with (fail)
            go_ret
            exact ⟨rfl, hw⟩
        · have hf0 : fer erH (hlv pa s fa i fa s fa o false) = 20 := by rw [hlv_f]; simp [fer, erH_app _ _ kpa.1, erH_app _ _ kfa.1, e1, e2]
          have ht := hT.out
          rw [t_err _ _ _ _ hf0] at ht
          subst ht
          clear hT hf0
          rw [e1, e2]
          have B0 := ((Sec.bys (.inl hO0)) (by simp) (fun z hz => by simp at hz)).1
          have Bn := bys_nil y7
          have cS := l_sameSec (zr 32) (zr 32) (zr 32) [] v0 (.slice none 0 0) zn zn zn y7 B0 Bn
          have iX := info_scr (zr 32) (zr 32) (zr 32) v0 zn zn zn
          go_wp2_with (first | (refine wpList_load_want rfl 30 _ rfl g7 rfl 30 (scr (zr 32) (zr 32) (zr 32) v0) (0, 0) _ S0 Tryd.underlying30 rfl iX ?_) | (refine wpList_build_want rfl 30 _ rfl [] rfl scz builtZc ?_) | fail)
          refine cS.mono ?_
          rintro e_ w9 ⟨rfl, hb⟩
          replace hw := Below.after hw hb
          go_wp2_with (fail)
          go_ret
          exact ⟨rfl, hw⟩
      · have hf0 : fer erH (hlv pa s fa i fa s fa o false) = 20 := by rw [hlv_f]; simp [fer, erH_app _ _ kpa.1, e1]
        have ht := hT.out
        rw [t_err _ _ _ _ hf0] at ht
        subst ht
        clear hT hf0
        rw [e1]
        have B0 := ((Sec.bys (.inl hO0)) (by simp) (fun z hz => by simp at hz)).1
        have Bn := bys_nil y7
        have cS := l_sameSec (zr 32) (zr 32) (zr 32) [] v0 (.slice none 0 0) zn zn zn y7 B0 Bn
        have iX := info_scr (zr 32) (zr 32) (zr 32) v0 zn zn zn
        go_wp2_with (first | (refine wpList_load_want rfl 30 _ rfl g7 rfl 30 (scr (zr 32) (zr 32) (zr 32) v0) (0, 0) _ S0 Tryd.underlying30 rfl iX ?_) | (refine wpList_build_want rfl 30 _ rfl [] rfl scz builtZc ?_) | fail)
        refine cS.mono ?_
        rintro e_ w9 ⟨rfl, hb⟩
        replace hw := Below.after hw hb
        go_wp2_with (fail)
        go_ret
        exact ⟨rfl, hw⟩
    · have hd0 : decide (o = zr 32) = false := by simp [ho0]
      have ht := hT.out
      rw [hd0, Bool.or_false, t_no] at ht
      subst ht
      have hdo := fun W => eq_k o (zr 32) ko.1 zn W
      rw [hd0] at hdo
      have c_h : w3.cell? ⟨w.heap.size + 1 + 1, 96, none⟩ = some (.bool false) := (cell_of_row _ _ _ _ _ _ R2).trans qh
      go_upto_region 3 with (first | (refine wpList_load_part rfl 23 _ rfl (w.heap.size + 1 + 1) 64 rfl 27 (RB) (0, 0) (irow .u8 o) _ R2 xo Tryd.underlying23 rfl (infoKy _ ko.1) ?_) | (refine wpList_build_want rfl 23 _ rfl [] rfl (irow .u8 (zr 32)) builtZk ?_) | fail)
      have B0 := ((Sec.bys (.inl hO0)) (by simp) (fun z hz => by simp at hz)).1
      have Bn := bys_nil w3
      have cS := l_sameSec (zr 32) (zr 32) (zr 32) [] v0 (.slice none 0 0) zn zn zn w3 B0 Bn
      have iX := info_scr (zr 32) (zr 32) (zr 32) v0 zn zn zn
      go_wp2_with (first | (refine wpList_load_want rfl 30 _ rfl g7 rfl 30 (scr (zr 32) (zr 32) (zr 32) v0) (0, 0) _ S0 Tryd.underlying30 rfl iX ?_) | (refine wpList_build_want rfl 30 _ rfl [] rfl scz builtZc ?_) | fail)
      refine cS.mono ?_
      rintro e_ w9 ⟨rfl, hb⟩
      replace hw := Below.after hw hb
      go_wp2_with (fail)
      go_ret
      exact ⟨rfl, hw⟩
  · simp only [Bool.true_or] at hT
    have c_h : w3.cell? ⟨w.heap.size + 1 + 1, 96, none⟩ = some (.bool true) := (cell_of_row _ _ _ _ _ _ R2).trans qh
    have lK1 : (shL pa s).length = 32 := shL_len _ _
    have k8_1 : K8 (shL pa s) := shL_K8 _ _
    have lK2 : (shL fa i).length = 32 := shL_len _ _
    have k8_2 : K8 (shL fa i) := shL_K8 _ _
    have lK3 : (shL fa s).length = 32 := shL_len _ _
    have k8_3 : K8 (shL fa s) := shL_K8 _ _
    have lK4 : (shL fa o).length = 32 := shL_len _ _
    have k8_4 : K8 (shL fa o) := shL_K8 _ _
    go_upto_region 4 with (first | fail)
    repeat ((fail_if_success (refine wpList_load_part rfl 23 _ rfl (w.heap.size) 0 rfl 25 (irow .u8 (pa ++ pb)) (0, 0) (irow .u8 pa) _ R0 xpa Tryd.underlying23 rfl (infoKy _ kpa.1) ?_)); first | go_skip | go_step)
    refine wpList_load_part rfl 23 _ rfl (w.heap.size) 0 rfl 25 (irow .u8 (pa ++ pb)) (0, 0) (irow .u8 pa) _ R0 xpa Tryd.underlying23 rfl (infoKy _ kpa.1) ?_
    repeat ((fail_if_success (refine wpList_load_part rfl 23 _ rfl (w.heap.size + 1 + 1) 32 rfl 27 (RB) (0, 0) (irow .u8 s) _ R2 xs Tryd.underlying23 rfl (infoKy _ ks.1) ?_)); first | go_skip | go_step)
    refine wpList_load_part rfl 23 _ rfl (w.heap.size + 1 + 1) 32 rfl 27 (RB) (0, 0) (irow .u8 s) _ R2 xs Tryd.underlying23 rfl (infoKy _ ks.1) ?_
    try simp only [Act.put, List.setIfInBounds_toArray, List.set_cons_succ, List.set_cons_zero]
    go_wp2_with (fail)
    refine ((c_shared kpa ks).at hF).mono ?_
    rintro e_ y20 ⟨rfl, hb⟩
    replace R0 := keep hb R0
    replace R1 := keep hb R1
    replace R2 := keep hb R2
    replace S0 := keep hb S0
    replace hO0 := hO0.keep hb
    replace hF := hF.below hb
    replace hS := hS.below hb
    replace hK := hK.below hb
    replace hw := Below.after hw hb
    clear hb
    have z_ := hp1_0 y20 (.cells (irow .u8 (zr 32)) 23)
    go_wp2_with (first | (refine wpList_alloc rfl 23 rfl (irow .u8 (zr 32)) zkey ?_) | (refine wpList_store_row rfl 23 _ _ rfl (y20.heap.size) (irow .u8 (shL pa s)) rfl rfl 23 _ z_ (infoKy _ lK1) (fitN 32 _ _ (zr_len 32) lK1) (irow_one _ _) ?_; refine wpList_stay ?_) | fail)
    unfold WpStay
    try simp only [Act.put, List.setIfInBounds_toArray, List.set_cons_succ, List.set_cons_zero]
    have K1 := setRow_heap (y20.alloc (.cells (irow .u8 (zr 32)) 23)) y20.heap.size _ (irow .u8 (shL pa s)) _ _ z_
    have hb_ : Below y20.heap.size y20 ((y20.alloc (.cells (irow .u8 (zr 32)) 23)).setRow y20.heap.size (irow .u8 (shL pa s))) := below_setRow ((Below.refl _ _).alloc (Nat.le_refl _) _) (Nat.le_refl _) _
    have l_R0_g9 := lt_of_row R0
    have l_R1_g9 := lt_of_row R1
    have l_R2_g9 := lt_of_row R2
    have l_S0_g9 := lt_of_row S0
    have sw_g9 := hw.size
    replace R0 := keep hb_ R0
    replace R1 := keep hb_ R1
    replace R2 := keep hb_ R2
    replace S0 := keep hb_ S0
    replace hO0 := hO0.keep hb_
    replace hF := hF.below hb_
    replace hS := hS.below hb_
    replace hK := hK.below hb_
    replace hw := Below.after hw hb_
    clear hb_ z_
    generalize ((y20.alloc (.cells (irow .u8 (zr 32)) 23)).setRow y20.heap.size (irow .u8 (shL pa s))) = y21 at *
    generalize y20.heap.size = g9 at *
    go_upto_region 5 with (fail)
    repeat ((fail_if_success (refine wpList_load_part rfl 23 _ rfl (w.heap.size + 1) 0 rfl 25 (irow .u8 (fa ++ fb)) (0, 0) (irow .u8 fa) _ R1 xfa Tryd.underlying23 rfl (infoKy _ kfa.1) ?_)); first | go_skip | go_step)
    refine wpList_load_part rfl 23 _ rfl (w.heap.size + 1) 0 rfl 25 (irow .u8 (fa ++ fb)) (0, 0) (irow .u8 fa) _ R1 xfa Tryd.underlying23 rfl (infoKy _ kfa.1) ?_
    repeat ((fail_if_success (refine wpList_load_part rfl 23 _ rfl (w.heap.size + 1 + 1) 0 rfl 27 (RB) (0, 0) (irow .u8 i) _ R2 xi Tryd.underlying23 rfl (infoKy _ ki.1) ?_)); first | go_skip | go_step)
    refine wpList_load_part rfl 23 _ rfl (w.heap.size + 1 + 1) 0 rfl 27 (RB) (0, 0) (irow .u8 i) _ R2 xi Tryd.underlying23 rfl (infoKy _ ki.1) ?_
    try simp only [Act.put, List.setIfInBounds_toArray, List.set_cons_succ, List.set_cons_zero]
    go_wp2_with (fail)
    refine ((c_shared kfa ki).at hF).mono ?_
    rintro e_ y22 ⟨rfl, hb⟩
    replace R0 := keep hb R0
    replace R1 := keep hb R1
    replace R2 := keep hb R2
    replace S0 := keep hb S0
    replace K1 := keep hb K1
    replace hO0 := hO0.keep hb
    replace hF := hF.below hb
    replace hS := hS.below hb
    replace hK := hK.below hb
    replace hw := Below.after hw hb
    clear hb
    have z_ := hp1_0 y22 (.cells (irow .u8 (zr 32)) 23)
    go_wp2_with (first | (refine wpList_alloc rfl 23 rfl (irow .u8 (zr 32)) zkey ?_) | (refine wpList_store_row rfl 23 _ _ rfl (y22.heap.size) (irow .u8 (shL fa i)) rfl rfl 23 _ z_ (infoKy _ lK2) (fitN 32 _ _ (zr_len 32) lK2) (irow_one _ _) ?_; refine wpList_stay ?_) | fail)
    unfold WpStay
    try simp only [Act.put, List.setIfInBounds_toArray, List.set_cons_succ, List.set_cons_zero]
    have K2 := setRow_heap (y22.alloc (.cells (irow .u8 (zr 32)) 23)) y22.heap.size _ (irow .u8 (shL fa i)) _ _ z_
    have hb_ : Below y22.heap.size y22 ((y22.alloc (.cells (irow .u8 (zr 32)) 23)).setRow y22.heap.size (irow .u8 (shL fa i))) := below_setRow ((Below.refl _ _).alloc (Nat.le_refl _) _) (Nat.le_refl _) _
    have l_R0_g11 := lt_of_row R0
    have l_R1_g11 := lt_of_row R1
    have l_R2_g11 := lt_of_row R2
    have l_S0_g11 := lt_of_row S0
    have l_K1_g11 := lt_of_row K1
    have sw_g11 := hw.size
    replace R0 := keep hb_ R0
    replace R1 := keep hb_ R1
    replace R2 := keep hb_ R2
    replace S0 := keep hb_ S0
    replace K1 := keep hb_ K1
    replace hO0 := hO0.keep hb_
    replace hF := hF.below hb_
    replace hS := hS.below hb_
    replace hK := hK.below hb_
    replace hw := Below.after hw hb_
    clear hb_ z_
    generalize ((y22.alloc (.cells (irow .u8 (zr 32)) 23)).setRow y22.heap.size (irow .u8 (shL fa i))) = y23 at *
    generalize y22.heap.size = g11 at *
    go_upto_region 6 with (fail)
    repeat ((fail_if_success (refine wpList_load_part rfl 23 _ rfl (w.heap.size + 1) 0 rfl 25 (irow .u8 (fa ++ fb)) (0, 0) (irow .u8 fa) _ R1 xfa Tryd.underlying23 rfl (infoKy _ kfa.1) ?_)); first | go_skip | go_step)
    refine wpList_load_part rfl 23 _ rfl (w.heap.size + 1) 0 rfl 25 (irow .u8 (fa ++ fb)) (0, 0) (irow .u8 fa) _ R1 xfa Tryd.underlying23 rfl (infoKy _ kfa.1) ?_
    repeat ((fail_if_success (refine wpList_load_part rfl 23 _ rfl (w.heap.size + 1 + 1) 32 rfl 27 (RB) (0, 0) (irow .u8 s) _ R2 xs Tryd.underlying23 rfl (infoKy _ ks.1) ?_)); first | go_skip | go_step)
    refine wpList_load_part rfl 23 _ rfl (w.heap.size + 1 + 1) 32 rfl 27 (RB) (0, 0) (irow .u8 s) _ R2 xs Tryd.underlying23 rfl (infoKy _ ks.1) ?_
    try simp only [Act.put, List.setIfInBounds_toArray, List.set_cons_succ, List.set_cons_zero]
    go_wp2_with (fail)
    refine ((c_shared kfa ks).at hF).mono ?_
    rintro e_ y24 ⟨rfl, hb⟩
    replace R0 := keep hb R0
    replace R1 := keep hb R1
    replace R2 := keep hb R2
    replace S0 := keep hb S0
    replace K1 := keep hb K1
    replace K2 := keep hb K2
    replace hO0 := hO0.keep hb
    replace hF := hF.below hb
    replace hS := hS.below hb
    replace hK := hK.below hb
    replace hw := Below.after hw hb
    clear hb
    have z_ := hp1_0 y24 (.cells (irow .u8 (zr 32)) 23)
    go_wp2_with (first | (refine wpList_alloc rfl 23 rfl (irow .u8 (zr 32)) zkey ?_) | (refine wpList_store_row rfl 23 _ _ rfl (y24.heap.size) (irow .u8 (shL fa s)) rfl rfl 23 _ z_ (infoKy _ lK3) (fitN 32 _ _ (zr_len 32) lK3) (irow_one _ _) ?_; refine wpList_stay ?_) | fail)
    unfold WpStay
    try simp only [Act.put, List.setIfInBounds_toArray, List.set_cons_succ, List.set_cons_zero]
    have K3 := setRow_heap (y24.alloc (.cells (irow .u8 (zr 32)) 23)) y24.heap.size _ (irow .u8 (shL fa s)) _ _ z_
    have hb_ : Below y24.heap.size y24 ((y24.alloc (.cells (irow .u8 (zr 32)) 23)).setRow y24.heap.size (irow .u8 (shL fa s))) := below_setRow ((Below.refl _ _).alloc (Nat.le_refl _) _) (Nat.le_refl _) _
    have l_R0_g13 := lt_of_row R0
    have l_R1_g13 := lt_of_row R1
    have l_R2_g13 := lt_of_row R2
    have l_S0_g13 := lt_of_row S0
    have l_K1_g13 := lt_of_row K1
    have l_K2_g13 := lt_of_row K2
    have sw_g13 := hw.size
    replace R0 := keep hb_ R0
    replace R1 := keep hb_ R1
    replace R2 := keep hb_ R2
    replace S0 := keep hb_ S0
    replace K1 := keep hb_ K1
    replace K2 := keep hb_ K2
    replace hO0 := hO0.keep hb_
    replace hF := hF.below hb_
    replace hS := hS.below hb_
    replace hK := hK.below hb_
    replace hw := Below.after hw hb_
    clear hb_ z_
    generalize ((y24.alloc (.cells (irow .u8 (zr 32)) 23)).setRow y24.heap.size (irow .u8 (shL fa s))) = y25 at *
    generalize y24.heap.size = g13 at *
    have z_ := hp1_0 y25 (.cells (irow .u8 (zr 32)) 23)
    go_wp2_with (first | (refine wpList_build_as rfl 23 _ rfl [] rfl (irow .u8 (zr 32)) builtZk ?_) | (refine wpList_alloc rfl 23 rfl (irow .u8 (zr 32)) zkey ?_) | (refine wpList_store_row rfl 23 _ _ rfl (y25.heap.size) (irow .u8 (zr 32)) rfl rfl 23 _ z_ (infoKy _ zn) rfl (irow_one _ _) ?_; refine wpList_stay ?_) | fail)
    unfold WpStay
    try simp only [Act.put, List.setIfInBounds_toArray, List.set_cons_succ, List.set_cons_zero]
    have K4 := setRow_heap (y25.alloc (.cells (irow .u8 (zr 32)) 23)) y25.heap.size _ (irow .u8 (zr 32)) _ _ z_
    have hb_ : Below y25.heap.size y25 ((y25.alloc (.cells (irow .u8 (zr 32)) 23)).setRow y25.heap.size (irow .u8 (zr 32))) := below_setRow ((Below.refl _ _).alloc (Nat.le_refl _) _) (Nat.le_refl _) _
    have l_R0_g15 := lt_of_row R0
    have l_R1_g15 := lt_of_row R1
    have l_R2_g15 := lt_of_row R2
    have l_S0_g15 := lt_of_row S0
    have l_K1_g15 := lt_of_row K1
    have l_K2_g15 := lt_of_row K2
    have l_K3_g15 := lt_of_row K3
    have sw_g15 := hw.size
    replace R0 := keep hb_ R0
    replace R1 := keep hb_ R1
    replace R2 := keep hb_ R2
    replace S0 := keep hb_ S0
    replace K1 := keep hb_ K1
    replace K2 := keep hb_ K2
    replace K3 := keep hb_ K3
    replace hO0 := hO0.keep hb_
    replace hF := hF.below hb_
    replace hS := hS.below hb_
    replace hK := hK.below hb_
    replace hw := Below.after hw hb_
    clear hb_ z_
    generalize ((y25.alloc (.cells (irow .u8 (zr 32)) 23)).setRow y25.heap.size (irow .u8 (zr 32))) = y26 at *
    generalize y25.heap.size = g15 at *
    have c_h1 : y26.cell? ⟨w.heap.size + 1 + 1, 96, none⟩ = some (.bool true) := (cell_of_row _ _ _ _ _ _ R2).trans qh
    go_upto_region 9 with (fail)
    repeat ((fail_if_success (refine wpList_load_part rfl 23 _ rfl (w.heap.size + 1) 0 rfl 25 (irow .u8 (fa ++ fb)) (0, 0) (irow .u8 fa) _ R1 xfa Tryd.underlying23 rfl (infoKy _ kfa.1) ?_)); first | go_skip | go_step)
    refine wpList_load_part rfl 23 _ rfl (w.heap.size + 1) 0 rfl 25 (irow .u8 (fa ++ fb)) (0, 0) (irow .u8 fa) _ R1 xfa Tryd.underlying23 rfl (infoKy _ kfa.1) ?_
    repeat ((fail_if_success (refine wpList_load_part rfl 23 _ rfl (w.heap.size + 1 + 1) 64 rfl 27 (RB) (0, 0) (irow .u8 o) _ R2 xo Tryd.underlying23 rfl (infoKy _ ko.1) ?_)); first | go_skip | go_step)
    refine wpList_load_part rfl 23 _ rfl (w.heap.size + 1 + 1) 64 rfl 27 (RB) (0, 0) (irow .u8 o) _ R2 xo Tryd.underlying23 rfl (infoKy _ ko.1) ?_
    try simp only [Act.put, List.setIfInBounds_toArray, List.set_cons_succ, List.set_cons_zero]
    go_wp2_with (fail)
    refine ((c_shared kfa ko).at hF).mono ?_
    rintro e_ y27 ⟨rfl, hb⟩
    have n_R0 := lt_of_row R0
    have n_R1 := lt_of_row R1
    have n_R2 := lt_of_row R2
    have n_S0 := lt_of_row S0
    have n_K1 := lt_of_row K1
    have n_K2 := lt_of_row K2
    have n_K3 := lt_of_row K3
    have n_K4 := lt_of_row K4
    replace R0 := keep hb R0
    replace R1 := keep hb R1
    replace R2 := keep hb R2
    replace S0 := keep hb S0
    replace K1 := keep hb K1
    replace K2 := keep hb K2
    replace K3 := keep hb K3
    replace K4 := keep hb K4
    replace hO0 := hO0.keep hb
    replace hF := hF.below hb
    replace hS := hS.below hb
    replace hK := hK.below hb
    replace hw := Below.after hw hb
    clear hb
    go_wp2_with (first | (refine wpList_store_row rfl 23 _ _ rfl g15 (irow .u8 (shL fa o)) rfl rfl 23 _ K4 (infoKy _ lK4) (fitN 32 _ _ (zr_len 32) lK4) (irow_one _ _) ?_; refine wpList_stay ?_) | fail)
    unfold WpStay
    try simp only [Act.put, List.setIfInBounds_toArray, List.set_cons_succ, List.set_cons_zero]
    have oV := fun z e => (hO0.lt z e)
    replace R0 := (setRow_other y27 g15 _ (irow .u8 (shL fa o)) (by omega)).trans R0
    replace R1 := (setRow_other y27 g15 _ (irow .u8 (shL fa o)) (by omega)).trans R1
    replace R2 := (setRow_other y27 g15 _ (irow .u8 (shL fa o)) (by omega)).trans R2
    replace S0 := (setRow_other y27 g15 _ (irow .u8 (shL fa o)) (by omega)).trans S0
    replace K1 := (setRow_other y27 g15 _ (irow .u8 (shL fa o)) (by omega)).trans K1
    replace K2 := (setRow_other y27 g15 _ (irow .u8 (shL fa o)) (by omega)).trans K2
    replace K3 := (setRow_other y27 g15 _ (irow .u8 (shL fa o)) (by omega)).trans K3
    replace K4 := setRow_heap y27 g15 _ (irow .u8 (shL fa o)) _ _ K4
    replace hO0 := hO0.move (fun z o_ e hz => (setRow_other y27 g15 z (irow .u8 (shL fa o)) (by have := oU z e; omega)).trans hz)
    replace hF := hF.belowN (n := g15) (by have := hF.1; omega) (below_setRow (Below.refl _ _) (Nat.le_refl _) (irow .u8 (shL fa o)))
    replace hS := hS.belowN (n := g15) (by have := kz0; omega) (below_setRow (Below.refl _ _) (Nat.le_refl _) (irow .u8 (shL fa o)))
    replace hK := hK.belowN (n := g15) (by have := kz0; omega) (below_setRow (Below.refl _ _) (Nat.le_refl _) (irow .u8 (shL fa o)))
    replace hw := below_setRow hw (show w.heap.size ≤ g15 by omega) (irow .u8 (shL fa o))
    clear oV
    generalize y27.setRow g15 (irow .u8 (shL fa o)) = y28 at *
    rcases wk01 pa s with e1 | e1
    · rcases wk01 fa i with e2 | e2
      · rcases wk01 fa s with e3 | e3
        · rcases wk01 fa o with e4 | e4
          · have hf0 : fer erH (hlv pa s fa i fa s fa o true) = 0 := by rw [hlv_t]; simp only [List.cons_append, List.nil_append, fer, erH_app _ _ kpa.1, erH_app _ _ kfa.1, e1, e2, e3, e4, if_true]
            have ht := hT.out
            rw [t_ok _ _ _ _ hf0, hlv_t] at ht
            simp only [List.cons_append, List.nil_append, List.map_cons, List.map_nil, shH_app _ _ kpa.1, shH_app _ _ kfa.1] at ht
            subst ht
            clear hT hf0
            rw [e1, e2, e3, e4]
            generalize shL pa s = Y1 at *
            generalize shL fa i = Y2 at *
            generalize shL fa s = Y3 at *
            generalize shL fa o = Y4 at *
            have hln := scb_len [Y1, Y2, Y3, Y4]
            have l0 : (pt (scb [Y1, Y2, Y3, Y4]) 0 32).length = 32 := pt_len _ _ _ (by omega)
            have l32 : (pt (scb [Y1, Y2, Y3, Y4]) 32 32).length = 32 := pt_len _ _ _ (by omega)
            have l64 : (pt (scb [Y1, Y2, Y3, Y4]) 64 32).length = 32 := pt_len _ _ _ (by omega)
            have zA := hp2_0 y28 (.cells (irow .u8 (zr 32)) 23) (.cells (irow .u8 (zr 32)) 23)
            have zB := hp2_1 y28 (.cells (irow .u8 (zr 32)) 23) (.cells (irow .u8 (zr 32)) 23)
            have hb_ : Below y28.heap.size y28 ((y28.alloc (.cells (irow .u8 (zr 32)) 23)).alloc (.cells (irow .u8 (zr 32)) 23)) := ((Below.refl _ _).alloc (Nat.le_refl _) _).alloc (by simp) _
            have m_R0 := lt_of_row R0
            have m_R1 := lt_of_row R1
            have m_R2 := lt_of_row R2
            have m_S0 := lt_of_row S0
            have m_K1 := lt_of_row K1
            have m_K2 := lt_of_row K2
            have m_K3 := lt_of_row K3
            have m_K4 := lt_of_row K4
            have sw17 := hw.size
            have oW := fun z e => (hO0.lt z e).2
            go_wp2_with (first | (refine wpList_alloc rfl 23 rfl (irow .u8 (zr 32)) zkey ?_) | fail)
            replace R0 := keep hb_ R0
            replace R1 := keep hb_ R1
            replace R2 := keep hb_ R2
            replace S0 := keep hb_ S0
            replace K1 := keep hb_ K1
            replace K2 := keep hb_ K2
            replace K3 := keep hb_ K3
            replace K4 := keep hb_ K4
            replace hO0 := hO0.keep hb_
            replace hF := hF.below hb_
            replace hS := hS.below hb_
            replace hK := hK.below hb_
            replace hw := Below.after hw hb_
            clear hb_
            try simp only [size_alloc1]
            generalize ((y28.alloc (.cells (irow .u8 (zr 32)) 23)).alloc (.cells (irow .u8 (zr 32)) 23)) = y29 at *
            generalize y28.heap.size = g17 at *
            go_loopw [19] (fun i wr => ∃ k : Nat, k ≤ 32 ∧ i = .int .i64 k ∧ wr.heap[g17]? = some (.cells (irow .u8 (fl5 k)) 23 (0, 0)) ∧ (∀ z, z ≠ g17 → wr.heap[z]? = y29.heap[z]?) ∧ y29.heap.size ≤ wr.heap.size ∧ Below w.heap.size w wr) (fun i _ => 32 - (intOf i).toNat)
            case atStart => exact ⟨0, by omega, rfl, by rw [fl5_0]; exact zA, fun _ _ => rfl, Nat.le_refl _, hw⟩
            case round =>
              clear zA
              obtain ⟨k, hk, rfl, zA, hfr, hsz, hwr⟩ := hrel
              by_cases hlt : k < 32
              · have hd : decide ((k : Int) < 32) = true := by simp; omega
                have ck : (k : Int) < 32 := by omega
                have ts := fl5_set k hlt
                have tl := fl5_len k hk
                have zA2 := setRow_heap wr g17 _ (irow .u8 (fl5 (k + 1))) _ _ zA
                have hfr2 : ∀ z, z ≠ g17 → (wr.setRow g17 (irow .u8 (fl5 (k + 1)))).heap[z]? = y29.heap[z]? := fun z hz => (setRow_other wr g17 z _ hz).trans (hfr z hz)
                have hw2 := below_setRow hwr (show w.heap.size ≤ g17 by omega) (irow .u8 (fl5 (k + 1)))
                have hs2 : y29.heap.size ≤ (wr.setRow g17 (irow .u8 (fl5 (k + 1)))).heap.size := by simpa using hsz
                generalize hA1 : irow .u8 (fl5 (k + 1)) = A1 at *
                replace hA1 := hide hA1
                replace ts := hide ts
                have za : (irow .u8 (fl5 k)).size = 32 := by rw [irow_size, tl]
                generalize irow .u8 (fl5 k) = A0 at *
                replace za := hide za
                clear hfr hsz hwr
                go_wp2_with (first | (refine wpList_store_cellR rfl 5 _ _ rfl g17 k (.int .u8 255) rfl rfl 23 A0 A1 zA (by rw [za.out]; omega) ts.out (by kernel_rfl) rfl ?_; refine wpList_stay ?_) | fail)
                unfold WpStay
                try simp only [Act.put, List.setIfInBounds_toArray, List.set_cons_succ, List.set_cons_zero]
                generalize wr.setRow g17 A1 = wS at *
                go_wp2_with (fail)
                refine ⟨⟨k + 1, by omega, by go_num, by rw [hA1.out]; exact zA2, hfr2, hs2, hw2⟩, ?_⟩
                simp [intOf]; omega
              · obtain rfl : k = 32 := by omega
                rw [fl5_32] at zA
                have lz : (List.replicate 32 (255 : Int)).length = 32 := by simp
                have kz8 : ∀ z ∈ List.replicate 32 (255 : Int), 0 ≤ z ∧ z < 256 := fun z hz => by have := (List.mem_replicate.1 hz).2; omega
                replace R0 := (hfr _ (by omega)).trans R0
                replace R1 := (hfr _ (by omega)).trans R1
                replace R2 := (hfr _ (by omega)).trans R2
                replace S0 := (hfr _ (by omega)).trans S0
                replace K1 := (hfr _ (by omega)).trans K1
                replace K2 := (hfr _ (by omega)).trans K2
                replace K3 := (hfr _ (by omega)).trans K3
                replace K4 := (hfr _ (by omega)).trans K4
                replace zB := (hfr _ (by omega)).trans zB
                replace hO0 := hO0.move (fun z o e hz => (hfr z (by have := oW z e; omega)).trans hz)
                replace hF := hF.belowN (by have := hF.1; omega) (fr_below hfr hsz hw hwr)
                replace hS := hS.belowN (by have := hS.sz; omega) (fr_below hfr hsz hw hwr)
                replace hK := hK.belowN (by have := hK.sz; omega) (fr_below hfr hsz hw hwr)
                replace hw := hwr
                clear hwr hfr hsz oW
                generalize hON : List.replicate 32 (255 : Int) = ON at *
                replace hON := hide hON
                go_upto_region 17 with (fail)
                repeat ((fail_if_success (refine wpList_load_want rfl 23 _ rfl (g17) rfl 23 (irow .u8 ON) (0, 0) _ zA Tryd.underlying23 rfl (infoKy _ lz) ?_)); first | go_skip | go_step)
                refine wpList_load_want rfl 23 _ rfl (g17) rfl 23 (irow .u8 ON) (0, 0) _ zA Tryd.underlying23 rfl (infoKy _ lz) ?_
                repeat ((fail_if_success (refine wpList_load_want rfl 23 _ rfl (g9) rfl 23 (irow .u8 Y1) (0, 0) _ K1 Tryd.underlying23 rfl (infoKy _ lK1) ?_)); first | go_skip | go_step)
                refine wpList_load_want rfl 23 _ rfl (g9) rfl 23 (irow .u8 Y1) (0, 0) _ K1 Tryd.underlying23 rfl (infoKy _ lK1) ?_
                repeat ((fail_if_success (refine wpList_load_want rfl 23 _ rfl (g11) rfl 23 (irow .u8 Y2) (0, 0) _ K2 Tryd.underlying23 rfl (infoKy _ lK2) ?_)); first | go_skip | go_step)
                refine wpList_load_want rfl 23 _ rfl (g11) rfl 23 (irow .u8 Y2) (0, 0) _ K2 Tryd.underlying23 rfl (infoKy _ lK2) ?_
                repeat ((fail_if_success (refine wpList_load_want rfl 23 _ rfl (g13) rfl 23 (irow .u8 Y3) (0, 0) _ K3 Tryd.underlying23 rfl (infoKy _ lK3) ?_)); first | go_skip | go_step)
                refine wpList_load_want rfl 23 _ rfl (g13) rfl 23 (irow .u8 Y3) (0, 0) _ K3 Tryd.underlying23 rfl (infoKy _ lK3) ?_
                try simp only [Act.put, List.setIfInBounds_toArray, List.set_cons_succ, List.set_cons_zero]
                repeat ((fail_if_success (refine wpList_wop rfl (.slice (some ⟨wr.heap.size, 0, none⟩) 4 4) (wr.alloc (.cells (irow .u8 (ON ++ (Y1 ++ (Y2 ++ (Y3))))) 23)) (op_bk4 _ _ _ _ rfl ON Y1 Y2 Y3 lz lK1 lK2 lK3 rfl rfl rfl rfl) ?_)); first | go_skip | go_step)
                refine wpList_wop rfl (.slice (some ⟨wr.heap.size, 0, none⟩) 4 4) (wr.alloc (.cells (irow .u8 (ON ++ (Y1 ++ (Y2 ++ (Y3))))) 23)) (op_bk4 _ _ _ _ rfl ON Y1 Y2 Y3 lz lK1 lK2 lK3 rfl rfl rfl rfl) ?_
                have z_ := hp1_0 wr (.cells (irow .u8 (ON ++ (Y1 ++ (Y2 ++ (Y3))))) 23)
                have hb_ : Below wr.heap.size wr (wr.alloc (.cells (irow .u8 (ON ++ (Y1 ++ (Y2 ++ (Y3))))) 23)) := (Below.refl _ _).alloc (Nat.le_refl _) _
                have hJ := own_bk4 lz lK1 lK2 lK3 z_
                replace R0 := keep hb_ R0
                replace R1 := keep hb_ R1
                replace R2 := keep hb_ R2
                replace S0 := keep hb_ S0
                replace K1 := keep hb_ K1
                replace K2 := keep hb_ K2
                replace K3 := keep hb_ K3
                replace K4 := keep hb_ K4
                replace zA := keep hb_ zA
                replace zB := keep hb_ zB
                replace hO0 := hO0.keep hb_
                replace hF := hF.below hb_
                replace hS := hS.below hb_
                replace hK := hK.below hb_
                replace hw := Below.after hw hb_
                clear hb_ z_
                try simp only [Act.put, List.setIfInBounds_toArray, List.set_cons_succ, List.set_cons_zero]
                generalize wr.alloc (.cells (irow .u8 (ON ++ (Y1 ++ (Y2 ++ (Y3))))) 23) = y30 at *
                generalize wr.heap.size = gJ17 at *
                go_wp2_with (fail)
                refine (l_join14 [ON, Y1, Y2, Y3] (by simp [lz, lK1, lK2, lK3]) (by simp) (by simp) _ _ y30 hJ).mono ?_
                rintro e_ y31 ⟨vj, rfl, hvj, hb⟩
                replace R0 := keep hb R0
                replace R1 := keep hb R1
                replace R2 := keep hb R2
                replace S0 := keep hb S0
                replace K1 := keep hb K1
                replace K2 := keep hb K2
                replace K3 := keep hb K3
                replace K4 := keep hb K4
                replace zA := keep hb zA
                replace zB := keep hb zB
                replace hO0 := hO0.keep hb
                replace hF := hF.below hb
                replace hS := hS.below hb
                replace hK := hK.below hb
                replace hw := Below.after hw hb
                clear hb hJ
                have c_h2 : y31.cell? ⟨w.heap.size + 1 + 1, 96, none⟩ = some (.bool true) := (cell_of_row _ _ _ _ _ _ R2).trans qh
                go_upto_region 19 with (fail)
                repeat ((fail_if_success (refine wpList_load_want rfl 23 _ rfl (g17) rfl 23 (irow .u8 ON) (0, 0) _ zA Tryd.underlying23 rfl (infoKy _ lz) ?_)); first | go_skip | go_step)
                refine wpList_load_want rfl 23 _ rfl (g17) rfl 23 (irow .u8 ON) (0, 0) _ zA Tryd.underlying23 rfl (infoKy _ lz) ?_
                repeat ((fail_if_success (refine wpList_load_want rfl 23 _ rfl (g9) rfl 23 (irow .u8 Y1) (0, 0) _ K1 Tryd.underlying23 rfl (infoKy _ lK1) ?_)); first | go_skip | go_step)
                refine wpList_load_want rfl 23 _ rfl (g9) rfl 23 (irow .u8 Y1) (0, 0) _ K1 Tryd.underlying23 rfl (infoKy _ lK1) ?_
                repeat ((fail_if_success (refine wpList_load_want rfl 23 _ rfl (g11) rfl 23 (irow .u8 Y2) (0, 0) _ K2 Tryd.underlying23 rfl (infoKy _ lK2) ?_)); first | go_skip | go_step)
                refine wpList_load_want rfl 23 _ rfl (g11) rfl 23 (irow .u8 Y2) (0, 0) _ K2 Tryd.underlying23 rfl (infoKy _ lK2) ?_
                repeat ((fail_if_success (refine wpList_load_want rfl 23 _ rfl (g13) rfl 23 (irow .u8 Y3) (0, 0) _ K3 Tryd.underlying23 rfl (infoKy _ lK3) ?_)); first | go_skip | go_step)
                refine wpList_load_want rfl 23 _ rfl (g13) rfl 23 (irow .u8 Y3) (0, 0) _ K3 Tryd.underlying23 rfl (infoKy _ lK3) ?_
                repeat ((fail_if_success (refine wpList_load_want rfl 23 _ rfl (g15) rfl 23 (irow .u8 Y4) (0, 0) _ K4 Tryd.underlying23 rfl (infoKy _ lK4) ?_)); first | go_skip | go_step)
                refine wpList_load_want rfl 23 _ rfl (g15) rfl 23 (irow .u8 Y4) (0, 0) _ K4 Tryd.underlying23 rfl (infoKy _ lK4) ?_
                try simp only [Act.put, List.setIfInBounds_toArray, List.set_cons_succ, List.set_cons_zero]
                repeat ((fail_if_success (refine wpList_wop rfl (.slice (some ⟨y31.heap.size, 0, none⟩) 5 5) (y31.alloc (.cells (irow .u8 (ON ++ (Y1 ++ (Y2 ++ (Y3 ++ (Y4)))))) 23)) (op_bk5 _ _ _ _ _ rfl ON Y1 Y2 Y3 Y4 lz lK1 lK2 lK3 lK4 rfl rfl rfl rfl rfl) ?_)); first | go_skip | go_step)
                refine wpList_wop rfl (.slice (some ⟨y31.heap.size, 0, none⟩) 5 5) (y31.alloc (.cells (irow .u8 (ON ++ (Y1 ++ (Y2 ++ (Y3 ++ (Y4)))))) 23)) (op_bk5 _ _ _ _ _ rfl ON Y1 Y2 Y3 Y4 lz lK1 lK2 lK3 lK4 rfl rfl rfl rfl rfl) ?_
                have z_ := hp1_0 y31 (.cells (irow .u8 (ON ++ (Y1 ++ (Y2 ++ (Y3 ++ (Y4)))))) 23)
                have hb_ : Below y31.heap.size y31 (y31.alloc (.cells (irow .u8 (ON ++ (Y1 ++ (Y2 ++ (Y3 ++ (Y4)))))) 23)) := (Below.refl _ _).alloc (Nat.le_refl _) _
                have hJ := own_bk5 lz lK1 lK2 lK3 lK4 z_
                replace R0 := keep hb_ R0
                replace R1 := keep hb_ R1
                replace R2 := keep hb_ R2
                replace S0 := keep hb_ S0
                replace K1 := keep hb_ K1
                replace K2 := keep hb_ K2
                replace K3 := keep hb_ K3
                replace K4 := keep hb_ K4
                replace zA := keep hb_ zA
                replace zB := keep hb_ zB
                replace hO0 := hO0.keep hb_
                replace hvj := hvj.keep hb_
                replace hF := hF.below hb_
                replace hS := hS.below hb_
                replace hK := hK.below hb_
                replace hw := Below.after hw hb_
                clear hb_ z_
                try simp only [Act.put, List.setIfInBounds_toArray, List.set_cons_succ, List.set_cons_zero]
                generalize y31.alloc (.cells (irow .u8 (ON ++ (Y1 ++ (Y2 ++ (Y3 ++ (Y4)))))) 23) = y32 at *
                generalize y31.heap.size = gJ19 at *
                go_wp2_with (fail)
                refine (l_join14 [ON, Y1, Y2, Y3, Y4] (by simp [lz, lK1, lK2, lK3, lK4]) (by simp) (by simp) _ _ y32 hJ).mono ?_
                rintro e_ y33 ⟨vk, rfl, hvk, hb⟩
                replace R0 := keep hb R0
                replace R1 := keep hb R1
                replace R2 := keep hb R2
                replace S0 := keep hb S0
                replace K1 := keep hb K1
                replace K2 := keep hb K2
                replace K3 := keep hb K3
                replace K4 := keep hb K4
                replace zA := keep hb zA
                replace zB := keep hb zB
                replace hO0 := hO0.keep hb
                replace hvj := hvj.keep hb
                replace hF := hF.below hb
                replace hS := hS.below hb
                replace hK := hK.below hb
                replace hw := Below.after hw hb
                clear hb hJ
                have eIn : [ON, Y1, Y2, Y3, Y4].flatten = sec [Y1, Y2, Y3, Y4] := by rw [sec, ← hON.out]; simp
                rw [eIn] at hvk
                have hIl := sec_len [Y1, Y2, Y3, Y4] (by simp [lK1, lK2, lK3, lK4])
                simp only [List.length_cons, List.length_nil] at hIl
                have hIz : ∀ z ∈ sec [Y1, Y2, Y3, Y4], 0 ≤ z ∧ z < 256 := sec_bd [Y1, Y2, Y3, Y4] (by simp only [List.mem_cons, List.not_mem_nil, or_false]; rintro k (rfl | rfl | rfl | rfl) <;> assumption)
                obtain ⟨hB1, hB2⟩ := (Sec.bys (.inl hvk)) (by omega) hIz
                have sk := slice_k (g17 + 1)
                go_upto_region 20 with (fail)
                repeat ((fail_if_success (refine wpList_bs10 rfl rfl ?_)); first | go_skip | go_step)
                refine wpList_bs10 rfl rfl ?_
                try simp only [Act.put, List.setIfInBounds_toArray, List.set_cons_succ, List.set_cons_zero]
                refine wpList_cv rfl _ rfl _ (.slice (some ⟨y33.heap.size, 0, none⟩) 10 10) rfl (Go.Lib.run_convert_bytes_const (P := Tryd.prog) y33 28 5 #[.int .u8 112, .int .u8 97, .int .u8 119, .int .u8 108, .int .u8 32, .int .u8 97, .int .u8 103, .int .u8 114, .int .u8 101, .int .u8 101] 10 10 Tryd.underlying28 Tryd.underlying5) ?_
                have hN := agn_bys y33
                have hb_ : Below y33.heap.size y33 (y33.alloc (.cells #[.int .u8 112, .int .u8 97, .int .u8 119, .int .u8 108, .int .u8 32, .int .u8 97, .int .u8 103, .int .u8 114, .int .u8 101, .int .u8 101] 5 (10, 11))) := (Below.refl _ _).alloc (Nat.le_refl _) _
                replace hB1 := hB1.keep hb_
                replace R0 := keep hb_ R0
                replace R1 := keep hb_ R1
                replace R2 := keep hb_ R2
                replace S0 := keep hb_ S0
                replace K1 := keep hb_ K1
                replace K2 := keep hb_ K2
                replace K3 := keep hb_ K3
                replace K4 := keep hb_ K4
                replace zA := keep hb_ zA
                replace zB := keep hb_ zB
                replace hO0 := hO0.keep hb_
                replace hvj := hvj.keep hb_
                replace hvk := hvk.keep hb_
                replace hF := hF.below hb_
                replace hS := hS.below hb_
                replace hK := hK.below hb_
                replace hw := Below.after hw hb_
                clear hb_
                try simp only [Act.put, List.setIfInBounds_toArray, List.set_cons_succ, List.set_cons_zero]
                generalize y33.alloc (.cells #[.int .u8 112, .int .u8 97, .int .u8 119, .int .u8 108, .int .u8 32, .int .u8 97, .int .u8 103, .int .u8 114, .int .u8 101, .int .u8 101] 5 (10, 11)) = y34 at *
                generalize y33.heap.size = gN at *
                have hA : Bys y34 (.slice (some ⟨g17 + 1, 0, none⟩) 32 32) (zr 32) := by
                  have h := Bys.of_row zB (by rw [zr_len]; omega) zr_bd32 32
                  rw [zr_len] at h
                  exact h
                have hR : Hid (scb [Y1, Y2, Y3, Y4] = xpd (hm (zr 32) (sec [Y1, Y2, Y3, Y4])) agn 96) := hide rfl
                have cD := a_derive (zr 32) (sec [Y1, Y2, Y3, Y4]) agn 96 y34 (.slice (some ⟨g17 + 1, 0, none⟩) 32 32) vk (.slice (some ⟨gN, 0, none⟩) 10 10) hS hK hA (fun a l c h => by cases h; exact Nat.le_refl _) (by rw [zr_len]; omega) hB1 hB2 (by omega) hN (fun a l c h => by cases h; exact Nat.le_refl _) (by decide)
                clear hA hB1 hB2 hN hIl hIz sk
                go_wp2_with (fail)
                refine cD.mono ?_
                rintro e_ y35 ⟨v_, rfl, hX, hb⟩
                obtain ⟨m_, gD, hm_, _, rfl, lgD, rgD⟩ | ⟨hm_, _⟩ := hX
                rotate_left
                · exact absurd hm_ (by decide)
                obtain rfl : m_ = 96 := by omega
                clear hm_ cD
                rw [← hR.out] at rgD
                replace R0 := keep hb R0
                replace R1 := keep hb R1
                replace R2 := keep hb R2
                replace S0 := keep hb S0
                replace K1 := keep hb K1
                replace K2 := keep hb K2
                replace K3 := keep hb K3
                replace K4 := keep hb K4
                replace zA := keep hb zA
                replace zB := keep hb zB
                replace hO0 := hO0.keep hb
                replace hvj := hvj.keep hb
                replace hvk := hvk.keep hb
                replace hF := hF.below hb
                replace hS := hS.below hb
                replace hK := hK.below hb
                replace hw := Below.after hw hb
                clear hb hR
                have hAll : Bys y35 (.slice (some ⟨gD, 0, none⟩) 96 96) (scb [Y1, Y2, Y3, Y4]) := by
                  have h := Bys.of_row rgD (by rw [hln]; omega) (scb_bd _) 96
                  rw [hln] at h
                  exact h
                clear rgD
                have hps := pts (scb [Y1, Y2, Y3, Y4]) hln
                have hAz := scb_bd [Y1, Y2, Y3, Y4]
                generalize pt (scb [Y1, Y2, Y3, Y4]) 0 32 = P0 at *
                generalize pt (scb [Y1, Y2, Y3, Y4]) 32 32 = P1 at *
                generalize pt (scb [Y1, Y2, Y3, Y4]) 64 32 = P2 at *
                generalize scb [Y1, Y2, Y3, Y4] = AL at *
                have xa := sc_a P0 P1 P2 v0 l0
                have xb := sc_b P0 P1 P2 v0 l0 l32
                have xc := sc_c P0 P1 P2 v0 l0 l32 l64
                have qv := sc_v P0 P1 P2 v0 l0 l32 l64
                generalize scr P0 P1 P2 v0 = XR at *
                have sw21 := hw.size
                go_upto_region 21 with (fail)
                have hbd : Below y35.heap.size y35 y35.drew := below_drN (Below.refl _ _) 1
                replace hAll := hAll.keep hbd
                replace R0 := keep hbd R0
                replace R2 := keep hbd R2
                replace S0 := keep hbd S0
                replace hO0 := hO0.keep hbd
                replace hw := Below.after hw hbd
                clear hbd
                have lpi : (pb ++ i).length ≤ 9223372036854775807 := by rw [List.length_append, kpb.1, ki.1]; omega
                have zpi : ∀ z ∈ pb ++ i, 0 ≤ z ∧ z < 256 := fun z hz => (List.mem_append.1 hz).elim (kpb.2 z) (ki.2 z)
                refine wp_region_noPanic ?_
                refine wp_region_held (S := fun W => (W.heap[g7]? = some (.cells XR 30 (0, 0))) ∧ (W.heap[w.heap.size]? = some (.cells (irow .u8 (pa ++ pb)) 25 (0, 0))) ∧ W.heap[w.heap.size + 1 + 1]? = some (.cells RB 27 (0, 0))) (by kernel_rfl) ?_
                change wpAnyH _ _ _ _ _ _ _ _ (World.drew _)
                generalize y35.drew = y36 at *
                refine wpAnyH_take (i := 0) (v := ?v25) rfl (by kernel_rfl) (by kernel_rfl) (by kernel_rfl) (fun _ _ _ h => h) (Or.inl ⟨by rfl, ?y25⟩) ⟨S0, R0, R2⟩ ?r25
                case y25 =>
                  intro w_ hS_
                  go_simp
                  try with_reducible rfl
                simp only [Act.put, List.getElem_toArray, List.getElem_cons_zero, List.setIfInBounds_toArray, List.set_cons_succ, List.set_cons_zero]
                refine wpAnyH_take (i := 1) (v := ?v26) rfl (by kernel_rfl) (by kernel_rfl) (by kernel_rfl) (fun _ _ _ h => h) (Or.inl ⟨by rfl, ?y26⟩) ⟨S0, R0, R2⟩ ?r26
                case y26 =>
                  intro w_ hS_
                  go_simp
                  try with_reducible rfl
                simp only [Act.put, List.getElem_toArray, List.getElem_cons_succ, List.getElem_cons_zero, List.setIfInBounds_toArray, List.set_cons_succ, List.set_cons_zero]
                refine wpAnyH_take (i := 2) (v := ?v27) rfl (by kernel_rfl) (by kernel_rfl) (by kernel_rfl) (fun _ _ _ h => h) (Or.inl ⟨by rfl, ?y27⟩) ⟨S0, R0, R2⟩ ?r27
                case y27 =>
                  intro w_ hS_
                  go_simp
                  try with_reducible rfl
                simp only [Act.put, List.getElem_toArray, List.getElem_cons_succ, List.getElem_cons_zero, List.setIfInBounds_toArray, List.set_cons_succ, List.set_cons_zero]
                refine wpAnyH_take (i := 3) (v := ?v28) rfl (by kernel_rfl) (by kernel_rfl) (by kernel_rfl) (fun _ _ _ h => h) (Or.inl ⟨by rfl, ?y28⟩) ⟨S0, R0, R2⟩ ?r28
                case y28 =>
                  intro w_ hS_
                  go_simp
                  try with_reducible rfl
                simp only [Act.put, List.getElem_toArray, List.getElem_cons_succ, List.getElem_cons_zero, List.setIfInBounds_toArray, List.set_cons_succ, List.set_cons_zero]
                refine wpAnyH_take (i := 4) (v := ?v29) rfl (by kernel_rfl) (by kernel_rfl) (by kernel_rfl) (fun _ _ _ h => h) (Or.inl ⟨by rfl, ?y29⟩) ⟨S0, R0, R2⟩ ?r29
                case y29 =>
                  intro w_ hS_
                  go_simp
                  try with_reducible rfl
                simp only [Act.put, List.getElem_toArray, List.getElem_cons_succ, List.getElem_cons_zero, List.setIfInBounds_toArray, List.set_cons_succ, List.set_cons_zero]
                refine wpAnyH_take (i := 5) (v := ?v30) rfl (by kernel_rfl) (by kernel_rfl) (by kernel_rfl) (fun _ _ _ h => h) (Or.inl ⟨by rfl, ?y30⟩) ⟨S0, R0, R2⟩ ?r30
                case y30 =>
                  intro w_ hS_
                  go_simp
                  try with_reducible rfl
                simp only [Act.put, List.getElem_toArray, List.getElem_cons_succ, List.getElem_cons_zero, List.setIfInBounds_toArray, List.set_cons_succ, List.set_cons_zero]
                refine wpAnyH_take (i := 6) (v := ?v31) rfl (by kernel_rfl) (by kernel_rfl) (by kernel_rfl) (fun _ _ _ h => h) (Or.inl ⟨by rfl, ?y31⟩) ⟨S0, R0, R2⟩ ?r31
                case y31 =>
                  intro w_ hS_
                  go_simp
                  try with_reducible rfl
                simp only [Act.put, List.getElem_toArray, List.getElem_cons_succ, List.getElem_cons_zero, List.setIfInBounds_toArray, List.set_cons_succ, List.set_cons_zero]
                refine wpAnyH_take (i := 7) (v := ?v32) rfl (by kernel_rfl) (by kernel_rfl) (by kernel_rfl) (fun _ _ _ h => h) (Or.inl ⟨by rfl, ?y32⟩) ⟨S0, R0, R2⟩ ?r32
                case y32 =>
                  intro w_ hS_
                  go_simp
                  try with_reducible rfl
                simp only [Act.put, List.getElem_toArray, List.getElem_cons_succ, List.getElem_cons_zero, List.setIfInBounds_toArray, List.set_cons_succ, List.set_cons_zero]
                refine wpAnyH_take (i := 8) (v := ?v33) rfl (by kernel_rfl) (by kernel_rfl) (by kernel_rfl) (fun _ _ _ h => h) (Or.inl ⟨by rfl, ?y33⟩) ⟨S0, R0, R2⟩ ?r33
                case y33 =>
                  intro w_ hS_
                  go_simp
                  try with_reducible rfl
                simp only [Act.put, List.getElem_toArray, List.getElem_cons_succ, List.getElem_cons_zero, List.setIfInBounds_toArray, List.set_cons_succ, List.set_cons_zero]
                refine wpAnyH_take (i := 9) (v := .agg (irow .u8 P0)) rfl (by kernel_rfl) (by kernel_rfl) (by kernel_rfl) (fun _ _ _ h => h) (Or.inl ⟨by rfl, ?y34⟩) ⟨S0, R0, R2⟩ ?r34
                case y34 =>
                  intro w_ hS_
                  simp only [List.getElem_toArray, List.getElem_cons_succ, List.getElem_cons_zero]
                  exact run_load_part 23 _ (by rfl) (g7) 0 (by rfl) 30 XR (0, 0) (irow .u8 P0) _ (hS_.1) xa Tryd.underlying23 rfl (infoKy _ l0)
                simp only [Act.put, List.getElem_toArray, List.getElem_cons_succ, List.getElem_cons_zero, List.setIfInBounds_toArray, List.set_cons_succ, List.set_cons_zero]
                refine wpAnyH_take (i := 10) (v := ?v35) rfl (by kernel_rfl) (by kernel_rfl) (by kernel_rfl) (fun _ _ _ h => h) (Or.inl ⟨by rfl, ?y35⟩) ⟨S0, R0, R2⟩ ?r35
                case y35 =>
                  intro w_ hS_
                  go_simp
                  try with_reducible rfl
                simp only [Act.put, List.getElem_toArray, List.getElem_cons_succ, List.getElem_cons_zero, List.setIfInBounds_toArray, List.set_cons_succ, List.set_cons_zero]
                refine wpAnyH_take (i := 11) (v := .agg (irow .u8 P1)) rfl (by kernel_rfl) (by kernel_rfl) (by kernel_rfl) (fun _ _ _ h => h) (Or.inl ⟨by rfl, ?y36⟩) ⟨S0, R0, R2⟩ ?r36
                case y36 =>
                  intro w_ hS_
                  simp only [List.getElem_toArray, List.getElem_cons_succ, List.getElem_cons_zero]
                  exact run_load_part 23 _ (by rfl) (g7) 32 (by rfl) 30 XR (0, 0) (irow .u8 P1) _ (hS_.1) xb Tryd.underlying23 rfl (infoKy _ l32)
                simp only [Act.put, List.getElem_toArray, List.getElem_cons_succ, List.getElem_cons_zero, List.setIfInBounds_toArray, List.set_cons_succ, List.set_cons_zero]
                refine wpAnyH_take (i := 12) (v := ?v37) rfl (by kernel_rfl) (by kernel_rfl) (by kernel_rfl) (fun _ _ _ h => h) (Or.inl ⟨by rfl, ?y37⟩) ⟨S0, R0, R2⟩ ?r37
                case y37 =>
                  intro w_ hS_
                  go_simp
                  try with_reducible rfl
                simp only [Act.put, List.getElem_toArray, List.getElem_cons_succ, List.getElem_cons_zero, List.setIfInBounds_toArray, List.set_cons_succ, List.set_cons_zero]
                refine wpAnyH_take (i := 13) (v := .agg (irow .u8 P2)) rfl (by kernel_rfl) (by kernel_rfl) (by kernel_rfl) (fun _ _ _ h => h) (Or.inl ⟨by rfl, ?y38⟩) ⟨S0, R0, R2⟩ ?r38
                case y38 =>
                  intro w_ hS_
                  simp only [List.getElem_toArray, List.getElem_cons_succ, List.getElem_cons_zero]
                  exact run_load_part 23 _ (by rfl) (g7) 64 (by rfl) 30 XR (0, 0) (irow .u8 P2) _ (hS_.1) xc Tryd.underlying23 rfl (infoKy _ l64)
                simp only [Act.put, List.getElem_toArray, List.getElem_cons_succ, List.getElem_cons_zero, List.setIfInBounds_toArray, List.set_cons_succ, List.set_cons_zero]
                refine wpAnyH_one (k := 14) (fuel := 15) (by kernel_rfl) rfl (by kernel_rfl) (fun K_ hK => ?_)
                refine wp_world_op (.slice (some ⟨y36.heap.size, 0, none⟩) 3 3) (y36.alloc (.cells (irow .u8 (P0 ++ (P1 ++ (P2)))) 23)) (op_bk3 _ _ _ rfl P0 P1 P2 l0 l32 l64 rfl rfl rfl) ?_
                have hb_ : Below y36.heap.size y36 (y36.alloc (.cells (irow .u8 (P0 ++ (P1 ++ (P2)))) 23)) := (Below.refl _ _).alloc (Nat.le_refl _) _
                have hJ := own_bk3 l0 l32 l64 (hp1_0 y36 (.cells (irow .u8 (P0 ++ (P1 ++ (P2)))) 23))
                replace hAll := hAll.keep hb_
                replace R0 := keep hb_ R0
                replace R2 := keep hb_ R2
                replace S0 := keep hb_ S0
                replace hO0 := hO0.keep hb_
                replace hw := Below.after hw hb_
                clear hb_
                refine hK _ _ ⟨S0, R0, R2⟩ ?_
                simp only [Act.put, List.getElem_toArray, List.getElem_cons_succ, List.getElem_cons_zero, List.setIfInBounds_toArray, List.set_cons_succ, List.set_cons_zero]
                clear hK
                generalize y36.alloc (.cells (irow .u8 (P0 ++ (P1 ++ (P2)))) 23) = y37 at *
                generalize y36.heap.size = gq14 at *
                refine wpAnyH_one (k := 15) (fuel := 14) (by kernel_rfl) rfl (by kernel_rfl) (fun K_ hK => ?_)
                refine wp_call_ex (f := 7) (by kernel_rfl) (l_join14 [P0, P1, P2] (by simp [l0, l32, l64]) (by simp) (by simp) _ _ y37 hJ) (fun vq y38 hX_ => ?_)
                obtain ⟨hvq, hb_⟩ := hX_
                replace hAll := hAll.keep hb_
                rw [hps] at hvq
                replace R0 := keep hb_ R0
                replace R2 := keep hb_ R2
                replace S0 := keep hb_ S0
                replace hO0 := hO0.keep hb_
                replace hw := Below.after hw hb_
                clear hb_ hJ
                refine hK _ _ ⟨S0, R0, R2⟩ ?_
                simp only [Act.put, List.getElem_toArray, List.getElem_cons_succ, List.getElem_cons_zero, List.setIfInBounds_toArray, List.set_cons_succ, List.set_cons_zero]
                clear hK
                refine wpAnyH_one (k := 16) (fuel := 13) (by kernel_rfl) rfl (by kernel_rfl) (fun K_ hK => ?_)
                refine wp_call_ex (f := 9) (by kernel_rfl) (l_sameT AL y38 _ _ hAll ((Sec.bys (.inl hvq)) (by omega) hAz).1) (fun v_ y39 hX_ => ?_)
                obtain ⟨rfl, hb_⟩ := hX_
                replace R0 := keep hb_ R0
                replace R2 := keep hb_ R2
                replace S0 := keep hb_ S0
                replace hO0 := hO0.keep hb_
                replace hw := Below.after hw hb_
                clear hb_
                refine hK _ _ ⟨S0, R0, R2⟩ ?_
                simp only [Act.put, List.getElem_toArray, List.getElem_cons_succ, List.getElem_cons_zero, List.setIfInBounds_toArray, List.set_cons_succ, List.set_cons_zero]
                clear hK
                refine wpAnyH_take (i := 17) (v := ?v39) rfl (by kernel_rfl) (by kernel_rfl) (by kernel_rfl) (fun _ _ _ h => h) (Or.inl ⟨by rfl, ?y39⟩) ⟨S0, R0, R2⟩ ?r39
                case y39 =>
                  intro w_ hS_
                  go_simp
                  try with_reducible rfl
                simp only [Act.put, List.getElem_toArray, List.getElem_cons_succ, List.getElem_cons_zero, List.setIfInBounds_toArray, List.set_cons_succ, List.set_cons_zero]
                refine wpAnyH_take (i := 18) (v := ?v40) rfl (by kernel_rfl) (by kernel_rfl) (by kernel_rfl) (fun _ _ _ h => h) (Or.inl ⟨by rfl, ?y40⟩) ⟨S0, R0, R2⟩ ?r40
                case y40 =>
                  intro w_ hS_
                  go_simp
                  try with_reducible rfl
                simp only [Act.put, List.getElem_toArray, List.getElem_cons_succ, List.getElem_cons_zero, List.setIfInBounds_toArray, List.set_cons_succ, List.set_cons_zero]
                refine wpAnyH_take (i := 19) (v := ?v41) rfl (by kernel_rfl) (by kernel_rfl) (by kernel_rfl) (fun _ _ _ h => h) (Or.inl ⟨by rfl, ?y41⟩) ⟨S0, R0, R2⟩ ?r41
                case y41 =>
                  intro w_ hS_
                  go_simp
                  try with_reducible rfl
                simp only [Act.put, List.getElem_toArray, List.getElem_cons_succ, List.getElem_cons_zero, List.setIfInBounds_toArray, List.set_cons_succ, List.set_cons_zero]
                refine wpAnyH_take (i := 20) (v := v0) rfl (by kernel_rfl) (by kernel_rfl) (by kernel_rfl) (fun _ _ _ h => h) (Or.inl ⟨by rfl, ?y42⟩) ⟨S0, R0, R2⟩ ?r42
                case y42 =>
                  intro w_ hS_
                  have c_ : w_.cell? ⟨g7, 96, none⟩ = some v0 := (cell_of_row _ _ _ _ _ _ hS_.1).trans qv
                  go_simp
                  try with_reducible rfl
                simp only [Act.put, List.getElem_toArray, List.getElem_cons_succ, List.getElem_cons_zero, List.setIfInBounds_toArray, List.set_cons_succ, List.set_cons_zero]
                refine wpAnyH_take (i := 21) (v := ?v43) rfl (by kernel_rfl) (by kernel_rfl) (by kernel_rfl) (fun _ _ _ h => h) (Or.inl ⟨by rfl, ?y43⟩) ⟨S0, R0, R2⟩ ?r43
                case y43 =>
                  intro w_ hS_
                  go_simp
                  try with_reducible rfl
                simp only [Act.put, List.getElem_toArray, List.getElem_cons_succ, List.getElem_cons_zero, List.setIfInBounds_toArray, List.set_cons_succ, List.set_cons_zero]
                refine wpAnyH_take (i := 22) (v := .agg (irow .u8 pb)) rfl (by kernel_rfl) (by kernel_rfl) (by kernel_rfl) (fun _ _ _ h => h) (Or.inl ⟨by rfl, ?y44⟩) ⟨S0, R0, R2⟩ ?r44
                case y44 =>
                  intro w_ hS_
                  simp only [List.getElem_toArray, List.getElem_cons_succ, List.getElem_cons_zero]
                  exact run_load_part 23 _ (by rfl) (w.heap.size) 32 (by rfl) 25 (irow .u8 (pa ++ pb)) (0, 0) (irow .u8 pb) _ (hS_.2.1) xpb Tryd.underlying23 rfl (infoKy _ kpb.1)
                simp only [Act.put, List.getElem_toArray, List.getElem_cons_succ, List.getElem_cons_zero, List.setIfInBounds_toArray, List.set_cons_succ, List.set_cons_zero]
                refine wpAnyH_take (i := 23) (v := ?v45) rfl (by kernel_rfl) (by kernel_rfl) (by kernel_rfl) (fun _ _ _ h => h) (Or.inl ⟨by rfl, ?y45⟩) ⟨S0, R0, R2⟩ ?r45
                case y45 =>
                  intro w_ hS_
                  go_simp
                  try with_reducible rfl
                simp only [Act.put, List.getElem_toArray, List.getElem_cons_succ, List.getElem_cons_zero, List.setIfInBounds_toArray, List.set_cons_succ, List.set_cons_zero]
                refine wpAnyH_take (i := 24) (v := .agg (irow .u8 i)) rfl (by kernel_rfl) (by kernel_rfl) (by kernel_rfl) (fun _ _ _ h => h) (Or.inl ⟨by rfl, ?y46⟩) ⟨S0, R0, R2⟩ ?r46
                case y46 =>
                  intro w_ hS_
                  simp only [List.getElem_toArray, List.getElem_cons_succ, List.getElem_cons_zero]
                  exact run_load_part 23 _ (by rfl) (w.heap.size + 1 + 1) 0 (by rfl) 27 RB (0, 0) (irow .u8 i) _ (hS_.2.2) xi Tryd.underlying23 rfl (infoKy _ ki.1)
                simp only [Act.put, List.getElem_toArray, List.getElem_cons_succ, List.getElem_cons_zero, List.setIfInBounds_toArray, List.set_cons_succ, List.set_cons_zero]
                refine wpAnyH_one (k := 25) (fuel := 4) (by kernel_rfl) rfl (by kernel_rfl) (fun K_ hK => ?_)
                refine wp_world_op (.slice (some ⟨y39.heap.size, 0, none⟩) 2 2) (y39.alloc (.cells (irow .u8 (pb ++ (i))) 23)) (op_bk2 _ _ rfl pb i kpb.1 ki.1 rfl rfl) ?_
                have hb_ : Below y39.heap.size y39 (y39.alloc (.cells (irow .u8 (pb ++ (i))) 23)) := (Below.refl _ _).alloc (Nat.le_refl _) _
                have hJ2 := own_bk2 kpb.1 ki.1 (hp1_0 y39 (.cells (irow .u8 (pb ++ (i))) 23))
                replace R0 := keep hb_ R0
                replace R2 := keep hb_ R2
                replace S0 := keep hb_ S0
                replace hO0 := hO0.keep hb_
                replace hw := Below.after hw hb_
                clear hb_
                refine hK _ _ ⟨S0, R0, R2⟩ ?_
                simp only [Act.put, List.getElem_toArray, List.getElem_cons_succ, List.getElem_cons_zero, List.setIfInBounds_toArray, List.set_cons_succ, List.set_cons_zero]
                clear hK
                generalize y39.alloc (.cells (irow .u8 (pb ++ (i))) 23) = y40 at *
                generalize y39.heap.size = gq25 at *
                refine wpAnyH_one (k := 26) (fuel := 3) (by kernel_rfl) rfl (by kernel_rfl) (fun K_ hK => ?_)
                refine wp_call_ex (f := 7) (by kernel_rfl) (l_join14 [pb, i] (by simp [kpb.1, ki.1]) (by simp) (by simp) _ _ y40 hJ2) (fun vr y41 hX_ => ?_)
                obtain ⟨hvr, hb_⟩ := hX_
                simp only [List.flatten_cons, List.flatten_nil, List.append_nil] at hvr
                replace R0 := keep hb_ R0
                replace R2 := keep hb_ R2
                replace S0 := keep hb_ S0
                replace hO0 := hO0.keep hb_
                replace hw := Below.after hw hb_
                clear hb_ hJ2
                refine hK _ _ ⟨S0, R0, R2⟩ ?_
                simp only [Act.put, List.getElem_toArray, List.getElem_cons_succ, List.getElem_cons_zero, List.setIfInBounds_toArray, List.set_cons_succ, List.set_cons_zero]
                clear hK
                refine wpAnyH_one (k := 27) (fuel := 2) (by kernel_rfl) rfl (by kernel_rfl) (fun K_ hK => ?_)
                refine wp_call_ex (f := 9) (by kernel_rfl) (l_sameT (pb ++ i) y41 _ _ ((Sec.bys (.inl hO0)) lpi zpi).1 ((Sec.bys (.inl hvr)) lpi zpi).1) (fun v_ y42 hX_ => ?_)
                obtain ⟨rfl, hb_⟩ := hX_
                replace R0 := keep hb_ R0
                replace R2 := keep hb_ R2
                replace S0 := keep hb_ S0
                replace hO0 := hO0.keep hb_
                replace hw := Below.after hw hb_
                clear hb_
                refine hK _ _ ⟨S0, R0, R2⟩ ?_
                simp only [Act.put, List.getElem_toArray, List.getElem_cons_succ, List.getElem_cons_zero, List.setIfInBounds_toArray, List.set_cons_succ, List.set_cons_zero]
                clear hK
                refine wpAnyH_take (i := 28) (v := ?v47) rfl (by kernel_rfl) (by kernel_rfl) (by kernel_rfl) (fun _ _ _ h => h) (Or.inl ⟨by rfl, ?y47⟩) ⟨S0, R0, R2⟩ ?r47
                case y47 =>
                  intro w_ hS_
                  go_simp
                  try with_reducible rfl
                simp only [Act.put, List.getElem_toArray, List.getElem_cons_succ, List.getElem_cons_zero, List.setIfInBounds_toArray, List.set_cons_succ, List.set_cons_zero]
                refine wpAnyH_take (i := 29) (v := ?v48) rfl (by kernel_rfl) (by kernel_rfl) (by kernel_rfl) (fun _ _ _ h => h) (Or.inl ⟨by rfl, ?y48⟩) ⟨S0, R0, R2⟩ ?r48
                case y48 =>
                  intro w_ hS_
                  go_simp
                  try with_reducible rfl
                simp only [Act.put, List.getElem_toArray, List.getElem_cons_succ, List.getElem_cons_zero, List.setIfInBounds_toArray, List.set_cons_succ, List.set_cons_zero]
                refine wpAnyH_done (by kernel_rfl) ?_ _
                refine NoPanic.normal ?_
                go_wp2_with (fail)
                go_ret
                exact ⟨rfl, hw⟩
          · have hf0 : fer erH (hlv pa s fa i fa s fa o true) = 20 := by rw [hlv_t]; simp [fer, erH_app _ _ kpa.1, erH_app _ _ kfa.1, e1, e2, e3, e4]
            have ht := hT.out
            rw [t_err _ _ _ _ hf0] at ht
            subst ht
            clear hT hf0
            rw [e1, e2, e3, e4]
            have B0 := ((Sec.bys (.inl hO0)) (by simp) (fun z hz => by simp at hz)).1
            have Bn := bys_nil y28
            have cS := l_sameSec (zr 32) (zr 32) (zr 32) [] v0 (.slice none 0 0) zn zn zn y28 B0 Bn
            have iX := info_scr (zr 32) (zr 32) (zr 32) v0 zn zn zn
            go_wp2_with (first | (refine wpList_load_want rfl 30 _ rfl g7 rfl 30 (scr (zr 32) (zr 32) (zr 32) v0) (0, 0) _ S0 Tryd.underlying30 rfl iX ?_) | (refine wpList_build_want rfl 30 _ rfl [] rfl scz builtZc ?_) | fail)
            refine cS.mono ?_
            rintro e_ w9 ⟨rfl, hb⟩
            replace hw := Below.after hw hb
            go_wp2_with (fail)
            go_ret
            exact ⟨rfl, hw⟩
        · have hf0 : fer erH (hlv pa s fa i fa s fa o true) = 20 := by rw [hlv_t]; simp [fer, erH_app _ _ kpa.1, erH_app _ _ kfa.1, e1, e2, e3]
          have ht := hT.out
          rw [t_err _ _ _ _ hf0] at ht
          subst ht
          clear hT hf0
          rw [e1, e2, e3]
          have B0 := ((Sec.bys (.inl hO0)) (by simp) (fun z hz => by simp at hz)).1
          have Bn := bys_nil y28
          have cS := l_sameSec (zr 32) (zr 32) (zr 32) [] v0 (.slice none 0 0) zn zn zn y28 B0 Bn
          have iX := info_scr (zr 32) (zr 32) (zr 32) v0 zn zn zn
          go_wp2_with (first | (refine wpList_load_want rfl 30 _ rfl g7 rfl 30 (scr (zr 32) (zr 32) (zr 32) v0) (0, 0) _ S0 Tryd.underlying30 rfl iX ?_) | (refine wpList_build_want rfl 30 _ rfl [] rfl scz builtZc ?_) | fail)
          refine cS.mono ?_
          rintro e_ w9 ⟨rfl, hb⟩
          replace hw := Below.after hw hb
          go_wp2_with (fail)
          go_ret
          exact ⟨rfl, hw⟩
      · have hf0 : fer erH (hlv pa s fa i fa s fa o true) = 20 := by rw [hlv_t]; simp [fer, erH_app _ _ kpa.1, erH_app _ _ kfa.1, e1, e2]
        have ht := hT.out
        rw [t_err _ _ _ _ hf0] at ht
        subst ht
        clear hT hf0
        rw [e1, e2]
        have B0 := ((Sec.bys (.inl hO0)) (by simp) (fun z hz => by simp at hz)).1
        have Bn := bys_nil y28
        have cS := l_sameSec (zr 32) (zr 32) (zr 32) [] v0 (.slice none 0 0) zn zn zn y28 B0 Bn
        have iX := info_scr (zr 32) (zr 32) (zr 32) v0 zn zn zn
        go_wp2_with (first | (refine wpList_load_want rfl 30 _ rfl g7 rfl 30 (scr (zr 32) (zr 32) (zr 32) v0) (0, 0) _ S0 Tryd.underlying30 rfl iX ?_) | (refine wpList_build_want rfl 30 _ rfl [] rfl scz builtZc ?_) | fail)
        refine cS.mono ?_
        rintro e_ w9 ⟨rfl, hb⟩
        replace hw := Below.after hw hb
        go_wp2_with (fail)
        go_ret
        exact ⟨rfl, hw⟩
    · have hf0 : fer erH (hlv pa s fa i fa s fa o true) = 20 := by rw [hlv_t]; simp [fer, erH_app _ _ kpa.1, e1]
      have ht := hT.out
      rw [t_err _ _ _ _ hf0] at ht
      subst ht
      clear hT hf0
      rw [e1]
      have B0 := ((Sec.bys (.inl hO0)) (by simp) (fun z hz => by simp at hz)).1
      have Bn := bys_nil y28
      have cS := l_sameSec (zr 32) (zr 32) (zr 32) [] v0 (.slice none 0 0) zn zn zn y28 B0 Bn
      have iX := info_scr (zr 32) (zr 32) (zr 32) v0 zn zn zn
      go_wp2_with (first | (refine wpList_load_want rfl 30 _ rfl g7 rfl 30 (scr (zr 32) (zr 32) (zr 32) v0) (0, 0) _ S0 Tryd.underlying30 rfl iX ?_) | (refine wpList_build_want rfl 30 _ rfl [] rfl scz builtZc ?_) | fail)
      refine cS.mono ?_
      rintro e_ w9 ⟨rfl, hb⟩
      replace hw := Below.after hw hb
      go_wp2_with (fail)
      go_ret
      exact ⟨rfl, hw⟩

end Go.Proofs.YtkpjpdlamojejaaDoor
