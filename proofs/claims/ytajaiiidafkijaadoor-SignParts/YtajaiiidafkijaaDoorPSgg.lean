import Derived.Test.YtajaiiidafkijaaDoorProg
import Derived.WalkKit
import Derived.WalkSpells
import Derived.WalkLawsBesides
import Derived.Lib.QuietBelow
import Derived.BigQuiet
import Derived.Deep.Cut
import Derived.Deep.CutRange
import Derived.Test.YtajaiiidafkijaaDoorPSgw
import Derived.Test.YtajaiiidafkijaaDoorPSgm
import Derived.Deep.RegionLaw
import Derived.Deep.RegionHeld3
import Derived.OwnWalk
import Derived.Test.YtajaiiidafkijaaDoorPWdu
namespace Go.Proofs.YtajaiiidafkijaaDoor
set_option maxRecDepth 100000
open Go Go.RowKit Go.Sort
attribute [local go_sem] setCell_drewN alloc_drewN
theorem sec_key (sd : List Int) : KeyOf (kb (sec sd)) (sec sd) := kb_key _ (clp_bd _).1 (by have := (clp_bd (sK sd)).2; unfold sec; omega)
theorem sec_val (sd : List Int) : bval (b32 (sec sd)) = (sec sd).toNat := bval_b32 _ (sec_key sd).bd.1 (sec_key sd).bd.2
set_option maxRecDepth 100000 in
set_option maxHeartbeats 8000000 in
theorem public_bad (w : World) {ao : Option Addr} {lb cap : Nat} (hl : lb ≠ 32) : Calls Tryd.prog 14 #[.slice ao lb cap] w fun e w' => e = .returned (.tuple #[.agg (kb 0), .int .i64 3]) ∧ Below w.heap.size w w' := by
 have hd : decide ((lb : Int) = 32) = false := by simp; omega
 have rp0 := hp1_0 w (.cells (kb 0) 25)
 have hw : Below w.heap.size w (w.alloc (.cells (kb 0) 25)) := ((Below.refl _ _).alloc (Nat.le_refl _) _)
 go_enter Tryd.func14, Tryd.ntmps14
 iterate 7 go_step
 try rw [z32]
 generalize (w.alloc (.cells (kb 0) 25)) = w0 at *
 go_wp2_with (first | (refine wpList_build_as rfl 25 _ rfl [] rfl (kb 0) (by kernel_rfl) ?_) | (refine wpList_store_row rfl 25 _ _ rfl (w.heap.size) (kb 0) rfl rfl 25 _ rp0 (kb_info _) ((kb_size _).trans (kb_size _).symm) (kb_one _) ?_) | fail)
 exact bodyPost_ret (v := .tuple #[.agg (kb 0), .int .i64 3]) (results_row_slot Tryd.results14 _ _ (w.heap.size) _ (kb 0) _ _ _ rfl (setRow_heap _ _ _ _ _ _ rp0) rfl Tryd.underlying25 rfl (kb_info _)) rfl ⟨rfl, below_setRow hw (by omega) _⟩
set_option maxRecDepth 100000 in
set_option maxHeartbeats 8000000 in
theorem public_walk {sd : List Int} {xb xs : Array Value} {A ks kp : Int} (cB : GivesE 19 #[] (.agg xb)) (cSc : ∀ (w : World) (ev : Value), Four w → Bys w ev (b32 ks) → Calls Tryd.prog 20 #[.agg xb, ev] w fun e w' => e = .returned (.agg xs) ∧ Below w.heap.size w w') (cY : Gives 21 #[.agg xs] (.agg (kb A))) (w : World) {ao : Option Addr} {cap : Nat} (hS : Sgn w) (hB : BysK w (.slice ao 32 cap) sd) (hks : KeyOf (kb ks) ks) (cPa : ∀ W, BysK W (.slice ao 32 cap) sd → Calls Tryd.prog 59 #[.slice ao 32 cap] W fun e w' => e = .returned (.tuple #[.agg (kb ks), .agg (kb kp)]) ∧ Below W.heap.size W w') : Calls Tryd.prog 14 #[.slice ao 32 cap] w fun e w' => e = .returned (.tuple #[.agg (kb A), .int .i64 0]) ∧ Below w.heap.size w w' := by
 have hB0 := hB
 have rp0 := hp1_0 w (.cells (kb 0) 25)
 have hw : Below w.heap.size w (w.alloc (.cells (kb 0) 25)) := ((Below.refl _ _).alloc (Nat.le_refl _) _)
 have f4 := hS.below (show Below w.heap.size w (w.alloc (.cells (kb 0) 25)) from hw)
 have hB := hB.keep (show Below w.heap.size w (w.alloc (.cells (kb 0) 25)) from hw)
 go_enter Tryd.func14, Tryd.ntmps14
 iterate 7 go_step
 try rw [z32]
 generalize (w.alloc (.cells (kb 0) 25)) = w0 at *
 go_wp2_with (fail)
 refine (cPa _ hB).mono ?_
 rintro e_ w1 ⟨rfl, hb⟩
 replace rp0 := keep hb rp0
 replace f4 := f4.below hb
 replace hB := hB.keep hb
 replace hw := Below.after hw hb
 clear hb
 go_wp2_with (first | (refine wpList_store_row rfl 25 _ _ rfl (w1.heap.size) (kb ks) rfl rfl 25 (kb 0) (hp2_0 w1 _ _) (kb_info _) ((kb_size _).trans (kb_size _).symm) (kb_one _) ?_; rw [setRow_alloc_old _ _ _ _ (by simp), setRow_alloc_new _ _ _ _ _ _ (by simp)]) | (refine wpList_store_row rfl 25 _ _ rfl (w1.heap.size + 1) (kb kp) rfl rfl 25 (kb 0) (hp2_1 w1 _ _) (kb_info _) ((kb_size _).trans (kb_size _).symm) (kb_one _) ?_; rw [setRow_alloc_new _ _ _ _ _ _ (by simp)]; refine wpList_stay ?_) | fail)
 unfold WpStay
 try simp only [Act.put]
 have rl4 : ((w1.alloc (.cells (kb ks) 25)).alloc (.cells (kb kp) 25)).heap[w1.heap.size]? = some (.cells (kb ks) 25 (0, 0)) := hp2_0 w1 _ _
 have rl5 : ((w1.alloc (.cells (kb ks) 25)).alloc (.cells (kb kp) 25)).heap[w1.heap.size + 1]? = some (.cells (kb kp) 25 (0, 0)) := hp2_1 w1 _ _
 have hb : Below w1.heap.size w1 ((w1.alloc (.cells (kb ks) 25)).alloc (.cells (kb kp) 25)) := (((Below.refl _ _).alloc (Nat.le_refl _) _).alloc (by simp) _)
 generalize ((w1.alloc (.cells (kb ks) 25)).alloc (.cells (kb kp) 25)) = w2 at *
 have lt_g4_0 := lt_of_row rp0
 have sz_g4 := hw.size
 replace rp0 := keep hb rp0
 replace f4 := f4.below hb
 replace hB := hB.keep hb
 replace hw := Below.after hw hb
 clear hb
 generalize w1.heap.size = g4 at *
 clear w1
 go_wp2_with (fail)
 have hb : Below w2.heap.size w2 w2.drew := below_drN (Below.refl _ _) 1
 replace rp0 := keep hb rp0
 replace rl4 := keep hb rl4
 replace rl5 := keep hb rl5
 replace f4 := f4.below hb
 replace hB := hB.keep hb
 replace hw := Below.after hw hb
 clear hb
 refine wp_region_noPanic ?_
 refine wp_region_held (S := fun _ => True) (by kernel_rfl) ?_
 change wpAnyH _ _ _ _ _ _ _ _ (World.drew _)
 generalize w2.drew = wd1 at *
 refine wpAnyH_take (i := 1) (v := .slice (some ⟨g4, 0, none⟩) 32 32) rfl (by kernel_rfl) (by kernel_rfl) (by kernel_rfl) (fun _ _ _ h => h) (Or.inl ⟨by rfl, ?y2⟩) (trivial) ?r2
 case y2 =>
  intro w_ hS_
  go_simp
  try with_reducible rfl
 simp only [Act.put, ZPa, ZPb, ZPc, ZPd, ZPe, ZPf]
 refine eH_one (k := 0) (fuel := 4) (by kernel_rfl) rfl (by kernel_rfl) (fun K_ hK_ => ?_)
 refine wp_call_ex (f := 19) (by kernel_rfl) (ex1e (cB.at f4.1)) (fun v_ wq3 hX_ => ?_)
 obtain ⟨rfl, hb⟩ := hX_
 replace rp0 := keep hb rp0
 replace rl4 := keep hb rl4
 replace rl5 := keep hb rl5
 replace f4 := f4.below hb
 replace hB := hB.keep hb
 replace hw := Below.after hw hb
 clear hb
 refine hK_ _ _ (trivial) ?_
 simp only [Act.put, ZPa, ZPc, ZPd, ZPe, ZPf]
 clear hK_
 refine eH_one (k := 2) (fuel := 3) (by kernel_rfl) rfl (by kernel_rfl) (fun K_ hK_ => ?_)
 refine wp_call_ex (f := 20) (by kernel_rfl) (ex1e (cSc _ _ f4.four (bys_row rl4 hks))) (fun v_ wq4 hX_ => ?_)
 obtain ⟨rfl, hb⟩ := hX_
 replace rp0 := keep hb rp0
 replace rl4 := keep hb rl4
 replace rl5 := keep hb rl5
 replace f4 := f4.below hb
 replace hB := hB.keep hb
 replace hw := Below.after hw hb
 clear hb
 refine hK_ _ _ (trivial) ?_
 simp only [Act.put, ZPa, ZPb, ZPc, ZPd, ZPe, ZPf]
 clear hK_
 refine eH_one (k := 3) (fuel := 2) (by kernel_rfl) rfl (by kernel_rfl) (fun K_ hK_ => ?_)
 refine wp_call_ex (f := 21) (by kernel_rfl) (ex1e (cY.at _)) (fun v_ wq5 hX_ => ?_)
 obtain ⟨rfl, hb⟩ := hX_
 replace rp0 := keep hb rp0
 replace rl4 := keep hb rl4
 replace rl5 := keep hb rl5
 replace f4 := f4.below hb
 replace hB := hB.keep hb
 replace hw := Below.after hw hb
 clear hb
 refine hK_ _ _ (trivial) ?_
 simp only [Act.put, ZPa, ZPb, ZPc, ZPd, ZPe, ZPf]
 clear hK_
 refine eH_one (k := 4) (fuel := 1) (by kernel_rfl) rfl (by kernel_rfl) (fun K_ hK_ => ?_)
 refine wp_store_row 25 _ _ rfl (w.heap.size) (kb A) rfl rfl 25 _ rp0 (kb_info _) ((kb_size _).trans (kb_size _).symm) (kb_one _) ?_
 have hN_ := setRow_heap wq5 (w.heap.size) _ (kb A) _ _ rp0
 replace rl4 := (setRow_other wq5 (w.heap.size) (g4) (kb A) (by omega)).trans rl4
 replace rl5 := (setRow_other wq5 (w.heap.size) (g4 + 1) (kb A) (by omega)).trans rl5
 replace hw := below_setRow hw (show w.heap.size ≤ w.heap.size by omega) (kb A)
 replace f4 := hS.below hw
 replace hB := hB0.keep hw
 generalize (wq5.setRow (w.heap.size) (kb A)) = wq6 at *
 clear rp0
 have rp0 := hN_
 clear hN_
 refine hK_ _ _ (trivial) ?_
 simp only [Act.put]
 clear hK_
 refine wpAnyH_take (i := 5) (v := ?v7) rfl (by kernel_rfl) (by kernel_rfl) (by kernel_rfl) (fun _ _ _ h => h) (Or.inl ⟨by rfl, ?y7⟩) (trivial) ?r7
 case y7 =>
  intro w_ hS_
  go_simp
  try with_reducible rfl
 simp only [Act.put, ZPa, ZPb, ZPc, ZPd, ZPe, ZPf]
 refine wpAnyH_done (by kernel_rfl) ?_ _
 refine NoPanic.normal ?_
 go_wp2_with (fail)
 exact bodyPost_ret (v := .tuple #[.agg (kb A), .int .i64 0]) (results_row_slot Tryd.results14 _ _ (w.heap.size) _ (kb A) _ _ _ rfl rp0 rfl Tryd.underlying25 rfl (kb_info _)) rfl ⟨rfl, hw⟩
def pbk (sd : List Int) : Int := if sd.length = 32 then pb (pubP sd) else 0
def pbe (sd : List Int) : Int := if sd.length = 32 then 0 else 3
theorem a_Public {sd : List Int} (w : World) {v : Value} (hS : Sgn w) (hB : BysK w v sd) : Calls Tryd.prog 14 #[v] w fun e w' => e = .returned (.tuple #[.agg (kb (pbk sd)), .int .i64 (pbe sd)]) ∧ Below w.heap.size w w' := by
 obtain ⟨ao, cap, rfl, _⟩ := hB.slc
 unfold pbk pbe
 by_cases hl : sd.length = 32
 ·rw [if_pos hl, if_pos hl]
  rw [hl] at hB ⊢
  obtain ⟨xb, hb, cB⟩ := a_Base
  obtain ⟨xs, hs, cSc⟩ := a_Scale hb (b32 (sec sd)) (b32_bd _)
  rw [sec_val] at hs
  exact public_walk cB cSc (a_Bytes hs) w hS hB (sec_key sd) (fun W h => a_parts sd W _ h)
 ·rw [if_neg hl, if_neg hl]
  exact public_bad w hl
set_option maxRecDepth 100000 in
set_option maxHeartbeats 8000000 in
theorem sign_walk {sd b : List Int} {A R S ks kp nr na : Int} (enr : Hid (nbr [b32 kp, b].flatten = nr)) (ena : Hid ((bval (b32 ks) : Int) % L19 = na)) (w : World) {ao bo : Option Addr} {lb cap bl bc : Nat} (hS : Sgn w) (hB : BysK w (.slice ao lb cap) sd) (hC : BysK w (.slice bo bl bc) b) (cP : ∀ W, Sgn W → BysK W (.slice ao lb cap) sd → Calls Tryd.prog 14 #[.slice ao lb cap] W fun e w' => e = .returned (.tuple #[.agg (kb A), .int .i64 0]) ∧ Below W.heap.size W w') (cG : ∀ W, Sgn W → BysK W (.slice bo bl bc) b → Calls Tryd.prog 61 #[.agg (wd na), .agg (wd nr), .agg (kb A), .slice bo bl bc] W fun e w' => e = .returned (.agg (sg R S)) ∧ Below W.heap.size W w') (hks : KeyOf (kb ks) ks) (cPa : ∀ W, BysK W (.slice ao lb cap) sd → Calls Tryd.prog 59 #[.slice ao lb cap] W fun e w' => e = .returned (.tuple #[.agg (kb ks), .agg (kb kp)]) ∧ Below W.heap.size W w') : Calls Tryd.prog 15 #[.slice ao lb cap, .slice bo bl bc] w fun e w' => e = .returned (.tuple #[.agg (sg R S), .int .i64 0]) ∧ Below w.heap.size w w' := by
 have hB0 := hB
 have hC0 := hC
 have rp0 := hp1_0 w (.cells (Wi.irow .u8 (Wi.zr 64)) 30)
 have hw : Below w.heap.size w (w.alloc (.cells (Wi.irow .u8 (Wi.zr 64)) 30)) := ((Below.refl _ _).alloc (Nat.le_refl _) _)
 have f4 := hS.below (show Below w.heap.size w (w.alloc (.cells (Wi.irow .u8 (Wi.zr 64)) 30)) from hw)
 have hB := hB.keep (show Below w.heap.size w (w.alloc (.cells (Wi.irow .u8 (Wi.zr 64)) 30)) from hw)
 have hC := hC.keep (show Below w.heap.size w (w.alloc (.cells (Wi.irow .u8 (Wi.zr 64)) 30)) from hw)
 go_enter Tryd.func15, Tryd.ntmps15
 iterate 7 go_step
 try rw [z64]
 generalize (w.alloc (.cells (Wi.irow .u8 (Wi.zr 64)) 30)) = w0 at *
 go_wp2_with (fail)
 refine (cP _ f4 hB).mono ?_
 rintro e_ w1 ⟨rfl, hb⟩
 replace rp0 := keep hb rp0
 replace f4 := f4.below hb
 replace hB := hB.keep hb
 replace hC := hC.keep hb
 replace hw := Below.after hw hb
 clear hb
 go_wp2_with (first | (refine wpList_store_row rfl 25 _ _ rfl (w1.heap.size) (kb A) rfl rfl 25 (kb 0) (hp1_0 w1 _) (kb_info _) ((kb_size _).trans (kb_size _).symm) (kb_one _) ?_; rw [setRow_alloc_new _ _ _ _ _ _ (by simp)]; refine wpList_stay ?_) | fail)
 unfold WpStay
 try simp only [Act.put]
 have rl6 : (w1.alloc (.cells (kb A) 25)).heap[w1.heap.size]? = some (.cells (kb A) 25 (0, 0)) := hp1_0 w1 _
 have hb : Below w1.heap.size w1 (w1.alloc (.cells (kb A) 25)) := ((Below.refl _ _).alloc (Nat.le_refl _) _)
 generalize (w1.alloc (.cells (kb A) 25)) = w2 at *
 have lt_g6_0 := lt_of_row rp0
 have sz_g6 := hw.size
 replace rp0 := keep hb rp0
 replace f4 := f4.below hb
 replace hB := hB.keep hb
 replace hC := hC.keep hb
 replace hw := Below.after hw hb
 clear hb
 generalize w1.heap.size = g6 at *
 clear w1
 go_wp2_with (fail)
 refine (cPa _ hB).mono ?_
 rintro e_ w3 ⟨rfl, hb⟩
 replace rp0 := keep hb rp0
 replace rl6 := keep hb rl6
 replace f4 := f4.below hb
 replace hB := hB.keep hb
 replace hC := hC.keep hb
 replace hw := Below.after hw hb
 clear hb
 go_wp2_with (first | (refine wpList_store_row rfl 25 _ _ rfl (w3.heap.size) (kb ks) rfl rfl 25 (kb 0) (hp2_0 w3 _ _) (kb_info _) ((kb_size _).trans (kb_size _).symm) (kb_one _) ?_; rw [setRow_alloc_old _ _ _ _ (by simp), setRow_alloc_new _ _ _ _ _ _ (by simp)]) | (refine wpList_store_row rfl 25 _ _ rfl (w3.heap.size + 1) (kb kp) rfl rfl 25 (kb 0) (hp2_1 w3 _ _) (kb_info _) ((kb_size _).trans (kb_size _).symm) (kb_one _) ?_; rw [setRow_alloc_new _ _ _ _ _ _ (by simp)]; refine wpList_stay ?_) | fail)
 unfold WpStay
 try simp only [Act.put]
 have rl8 : ((w3.alloc (.cells (kb ks) 25)).alloc (.cells (kb kp) 25)).heap[w3.heap.size]? = some (.cells (kb ks) 25 (0, 0)) := hp2_0 w3 _ _
 have rl9 : ((w3.alloc (.cells (kb ks) 25)).alloc (.cells (kb kp) 25)).heap[w3.heap.size + 1]? = some (.cells (kb kp) 25 (0, 0)) := hp2_1 w3 _ _
 have hb : Below w3.heap.size w3 ((w3.alloc (.cells (kb ks) 25)).alloc (.cells (kb kp) 25)) := (((Below.refl _ _).alloc (Nat.le_refl _) _).alloc (by simp) _)
 generalize ((w3.alloc (.cells (kb ks) 25)).alloc (.cells (kb kp) 25)) = w4 at *
 have lt_g8_0 := lt_of_row rp0
 have lt_g8_1 := lt_of_row rl6
 have sz_g8 := hw.size
 replace rp0 := keep hb rp0
 replace rl6 := keep hb rl6
 replace f4 := f4.below hb
 replace hB := hB.keep hb
 replace hC := hC.keep hb
 replace hw := Below.after hw hb
 clear hb
 generalize w3.heap.size = g8 at *
 clear w3
 go_wp2_with (fail)
 have rb := hp1_0 w4 (.cells #[.slice (some ⟨g8 + 1, 0, none⟩) 32 32, .slice bo bl bc] 22)
 have hb : Below w4.heap.size w4 (w4.alloc (.cells #[.slice (some ⟨g8 + 1, 0, none⟩) 32 32, .slice bo bl bc] 22)) := (Below.refl _ _).alloc (Nat.le_refl _) _
 generalize (w4.alloc (.cells #[.slice (some ⟨g8 + 1, 0, none⟩) 32 32, .slice bo bl bc] 22)) = w5 at *
 have lt_gb_0 := lt_of_row rp0
 have lt_gb_1 := lt_of_row rl6
 have lt_gb_2 := lt_of_row rl8
 have lt_gb_3 := lt_of_row rl9
 have sz_gb := hw.size
 replace rp0 := keep hb rp0
 replace rl6 := keep hb rl6
 replace rl8 := keep hb rl8
 replace rl9 := keep hb rl9
 replace f4 := f4.below hb
 replace hB := hB.keep hb
 replace hC := hC.keep hb
 replace hw := Below.after hw hb
 clear hb
 generalize w4.heap.size = gb at *
 refine (a_number [b32 kp, b] _ _ f4.2 (pck_row (vs := [.slice (some ⟨g8 + 1, 0, none⟩) 32 32, .slice bo bl bc]) rb (.cons (bysK_row rl9) (.cons hC .nil)) rfl (by show 2 ≤ _; decide)) (by have := hC.2.2; simp [b32]; omega)).mono ?_
 rintro e_ w6 ⟨rfl, hb⟩
 replace rp0 := keep hb rp0
 replace rl6 := keep hb rl6
 replace rl8 := keep hb rl8
 replace rl9 := keep hb rl9
 replace rb := keep hb rb
 replace f4 := f4.below hb
 replace hB := hB.keep hb
 replace hC := hC.keep hb
 replace hw := Below.after hw hb
 clear hb
 rw [enr.out]
 clear rb
 go_wp2_with (first | (refine wpList_store_row rfl 54 _ _ rfl (w6.heap.size) (wd nr) rfl rfl 54 (wd 0) (hp1_0 w6 _) (wdo _).infoS ((wd_size _).trans (wd_size _).symm) (wdo _).2 ?_; rw [setRow_alloc_new _ _ _ _ _ _ (by simp)]; refine wpList_stay ?_) | fail)
 unfold WpStay
 try simp only [Act.put]
 have rl10 : (w6.alloc (.cells (wd nr) 54)).heap[w6.heap.size]? = some (.cells (wd nr) 54 (0, 0)) := hp1_0 w6 _
 have hb : Below w6.heap.size w6 (w6.alloc (.cells (wd nr) 54)) := ((Below.refl _ _).alloc (Nat.le_refl _) _)
 generalize (w6.alloc (.cells (wd nr) 54)) = w7 at *
 have lt_g10_0 := lt_of_row rp0
 have lt_g10_1 := lt_of_row rl6
 have lt_g10_2 := lt_of_row rl8
 have lt_g10_3 := lt_of_row rl9
 have sz_g10 := hw.size
 replace rp0 := keep hb rp0
 replace rl6 := keep hb rl6
 replace rl8 := keep hb rl8
 replace rl9 := keep hb rl9
 replace f4 := f4.below hb
 replace hB := hB.keep hb
 replace hC := hC.keep hb
 replace hw := Below.after hw hb
 clear hb
 generalize w6.heap.size = g10 at *
 clear w6
 go_wp2_with (fail)
 have hb : Below w7.heap.size w7 w7.drew := below_drN (Below.refl _ _) 1
 replace rp0 := keep hb rp0
 replace rl6 := keep hb rl6
 replace rl8 := keep hb rl8
 replace rl9 := keep hb rl9
 replace rl10 := keep hb rl10
 replace f4 := f4.below hb
 replace hB := hB.keep hb
 replace hC := hC.keep hb
 replace hw := Below.after hw hb
 clear hb
 refine wp_region_noPanic ?_
 refine wp_region_held (S := fun W_ => W_.heap[g10]? = some (.cells (wd nr) 54 (0, 0)) ∧ W_.heap[g6]? = some (.cells (kb A) 25 (0, 0))) (by kernel_rfl) ?_
 change wpAnyH _ _ _ _ _ _ _ _ (World.drew _)
 generalize w7.drew = wd8 at *
 refine wpAnyH_take (i := 0) (v := .slice (some ⟨g8, 0, none⟩) 32 32) rfl (by kernel_rfl) (by kernel_rfl) (by kernel_rfl) (fun _ _ _ h => h) (Or.inl ⟨by rfl, ?y9⟩) (⟨rl10, rl6⟩) ?r9
 case y9 =>
  intro w_ hS_
  go_simp
  try with_reducible rfl
 simp only [Act.put, ZPa, ZPc, ZPd, ZPe, ZPf]
 refine wpAnyH_take (i := 2) (v := .agg (wd nr)) rfl (by kernel_rfl) (by kernel_rfl) (by kernel_rfl) (fun _ _ _ h => h) (Or.inl ⟨by rfl, ?y10⟩) (⟨rl10, rl6⟩) ?r10
 case y10 =>
  intro w_ hS_
  simp only [List.getElem_toArray, List.getElem_cons_succ, List.getElem_cons_zero]
  exact e_load_part 54 _ (by rfl) (g10) 0 (by rfl) 54 (wd nr) (0, 0) (wd nr) _ (hS_.1) (all_rowe _) Tryd.underlying54 rfl (wdo _).infoS
 simp only [Act.put, ZPa, ZPb, ZPc, ZPd, ZPe, ZPf]
 refine wpAnyH_take (i := 3) (v := .agg (kb A)) rfl (by kernel_rfl) (by kernel_rfl) (by kernel_rfl) (fun _ _ _ h => h) (Or.inl ⟨by rfl, ?y11⟩) (⟨rl10, rl6⟩) ?r11
 case y11 =>
  intro w_ hS_
  simp only [List.getElem_toArray, List.getElem_cons_succ, List.getElem_cons_zero]
  exact e_load_part 25 _ (by rfl) (g6) 0 (by rfl) 25 (kb A) (0, 0) (kb A) _ (hS_.2) (all_rowe _) Tryd.underlying25 rfl (kb_info _)
 simp only [Act.put, ZPa, ZPb, ZPc, ZPd, ZPe, ZPf]
 refine wpAnyH_take (i := 4) (v := ?v12) rfl (by kernel_rfl) (by kernel_rfl) (by kernel_rfl) (fun _ _ _ h => h) (Or.inl ⟨by rfl, ?y12⟩) (⟨rl10, rl6⟩) ?r12
 case y12 =>
  intro w_ hS_
  go_simp
  try with_reducible rfl
 simp only [Act.put, ZPa, ZPb, ZPc, ZPd, ZPe, ZPf]
 refine eH_one (k := 1) (fuel := 3) (by kernel_rfl) rfl (by kernel_rfl) (fun K_ hK_ => ?_)
 refine wp_call_ex (f := 27) (by kernel_rfl) (ex1e (a_Reduce (b32 ks) _ _ f4.2 (bys_row rl8 hks))) (fun v_ wq13 hX_ => ?_)
 obtain ⟨rfl, hb⟩ := hX_
 replace rp0 := keep hb rp0
 replace rl6 := keep hb rl6
 replace rl8 := keep hb rl8
 replace rl9 := keep hb rl9
 replace rl10 := keep hb rl10
 replace f4 := f4.below hb
 replace hB := hB.keep hb
 replace hC := hC.keep hb
 replace hw := Below.after hw hb
 clear hb
 refine hK_ _ _ (⟨rl10, rl6⟩) ?_
 simp only [Act.put, ZPa, ZPb, ZPc, ZPd, ZPe, ZPf]
 clear hK_
 refine eH_one (k := 5) (fuel := 2) (by kernel_rfl) rfl (by kernel_rfl) (fun K_ hK_ => ?_)
 rw [ena.out]
 refine wp_call_ex (f := 61) (by kernel_rfl) (ex1e (cG _ f4 hC)) (fun v_ wq14 hX_ => ?_)
 obtain ⟨rfl, hb⟩ := hX_
 replace rp0 := keep hb rp0
 replace rl6 := keep hb rl6
 replace rl8 := keep hb rl8
 replace rl9 := keep hb rl9
 replace rl10 := keep hb rl10
 replace f4 := f4.below hb
 replace hB := hB.keep hb
 replace hC := hC.keep hb
 replace hw := Below.after hw hb
 clear hb
 refine hK_ _ _ (⟨rl10, rl6⟩) ?_
 simp only [Act.put, ZPa, ZPb, ZPc, ZPd, ZPe, ZPf]
 clear hK_
 refine eH_one (k := 6) (fuel := 1) (by kernel_rfl) rfl (by kernel_rfl) (fun K_ hK_ => ?_)
 refine wp_store_row 30 _ _ rfl (w.heap.size) (sg R S) rfl rfl 30 _ rp0 (sg_infoG _ _) (z64_size.trans (sg_size _ _).symm) (sg_one _ _) ?_
 have hN_ := setRow_heap wq14 (w.heap.size) _ (sg R S) _ _ rp0
 replace rl6 := (setRow_other wq14 (w.heap.size) (g6) (sg R S) (by omega)).trans rl6
 replace rl8 := (setRow_other wq14 (w.heap.size) (g8) (sg R S) (by omega)).trans rl8
 replace rl9 := (setRow_other wq14 (w.heap.size) (g8 + 1) (sg R S) (by omega)).trans rl9
 replace rl10 := (setRow_other wq14 (w.heap.size) (g10) (sg R S) (by omega)).trans rl10
 replace hw := below_setRow hw (show w.heap.size ≤ w.heap.size by omega) (sg R S)
 replace f4 := hS.below hw
 replace hB := hB0.keep hw
 replace hC := hC0.keep hw
 generalize (wq14.setRow (w.heap.size) (sg R S)) = wq15 at *
 clear rp0
 have rp0 := hN_
 clear hN_
 refine hK_ _ _ (⟨rl10, rl6⟩) ?_
 simp only [Act.put]
 clear hK_
 refine wpAnyH_take (i := 7) (v := ?v16) rfl (by kernel_rfl) (by kernel_rfl) (by kernel_rfl) (fun _ _ _ h => h) (Or.inl ⟨by rfl, ?y16⟩) (⟨rl10, rl6⟩) ?r16
 case y16 =>
  intro w_ hS_
  go_simp
  try with_reducible rfl
 simp only [Act.put, ZPa, ZPb, ZPc, ZPd, ZPe, ZPf]
 refine wpAnyH_done (by kernel_rfl) ?_ _
 refine NoPanic.normal ?_
 go_wp2_with (fail)
 exact bodyPost_ret (v := .tuple #[.agg (sg R S), .int .i64 0]) (results_row_slot Tryd.results15 _ _ (w.heap.size) _ (sg R S) _ _ _ rfl rp0 rfl Tryd.underlying30 rfl (sg_infoG _ _)) rfl ⟨rfl, hw⟩
def sgr (sd b : List Int) : Int := nbr (b32 (sP sd) ++ b)
def sga (sd : List Int) : Int := sec sd % L19
theorem sga_bd (sd : List Int) : 0 ≤ sga sd ∧ sga sd < L19 := mod_L _
def sigR (sd b : List Int) : Int := sgR (sgr sd b)
def sigS (sd b : List Int) : Int := sgS (sga sd) (sgr sd b) (pb (pubP sd)) b
theorem a_Sign_ok {sd b : List Int} (hl : sd.length = 32) (w : World) {v u : Value} (hS : Sgn w) (hB : BysK w v sd) (hC : BysK w u b) : Calls Tryd.prog 15 #[v, u] w fun e w' => e = .returned (.tuple #[.agg (sg (sigR sd b) (sigS sd b)), .int .i64 0]) ∧ Below w.heap.size w w' := by
 obtain ⟨ao, cap, rfl, _⟩ := hB.slc
 obtain ⟨bo, bc, rfl, _⟩ := hC.slc
 have e1 : nbr [b32 (sP sd), b].flatten = sgr sd b := by unfold sgr; simp
 have e2 : (bval (b32 (sec sd)) : Int) % L19 = sga sd := by rw [sec_val, Int.toNat_of_nonneg (sec_key sd).bd.1]; rfl
 refine sign_walk (A := pb (pubP sd)) (hide e1) (hide e2) w hS hB hC (fun W h1 h2 => ?_) (fun W h1 h2 => ?_) (sec_key sd) (fun W h => a_parts sd W _ h)
 ·have h := a_Public W h1 h2
  unfold pbk pbe at h
  rw [if_pos hl, if_pos hl] at h
  exact h
 ·exact a_signed (sga_bd sd) (nbr_bd _) W _ h1 h2
set_option maxRecDepth 100000 in
set_option maxHeartbeats 8000000 in
theorem check_bad {N R S E : Int} {b : List Int} {xp : Array Value} {P : E1} (hp : PtO xp P) (hE : E ≠ 0) (cP : Gives5 22 #[.agg (kb N)] (.tuple #[.agg xp, .int .i64 E])) (w : World) {bo : Option Addr} {bl bc : Nat} (hS : Sgn w) (hC : BysK w (.slice bo bl bc) b) : Calls Tryd.prog 16 #[.agg (kb N), .slice bo bl bc, .agg (sg R S)] w fun e w' => e = .returned (.int .i64 E) ∧ Below w.heap.size w w' := by
 have hC0 := hC
 have rp0 := hp2_0 w (.cells (kb N) 25) (.cells (sg R S) 30)
 have rp1 := hp2_1 w (.cells (kb N) 25) (.cells (sg R S) 30)
 have hw : Below w.heap.size w ((w.alloc (.cells (kb N) 25)).alloc (.cells (sg R S) 30)) := (((Below.refl _ _).alloc (Nat.le_refl _) _).alloc (by simp) _)
 have f4 := hS.below (show Below w.heap.size w ((w.alloc (.cells (kb N) 25)).alloc (.cells (sg R S) 30)) from hw)
 have hC := hC.keep (show Below w.heap.size w ((w.alloc (.cells (kb N) 25)).alloc (.cells (sg R S) 30)) from hw)
 go_enter Tryd.func16, Tryd.ntmps16
 iterate 9 go_step
 generalize ((w.alloc (.cells (kb N) 25)).alloc (.cells (sg R S) 30)) = w0 at *
 go_wp2_with (first | (refine wpList_load_want rfl 25 _ rfl (w.heap.size) rfl 25 (kb N) (0, 0) _ rp0 Tryd.underlying25 rfl (kb_info _) ?_) | (refine wpList_load_want rfl 30 _ rfl (w.heap.size + 1) rfl 30 (sg R S) (0, 0) _ rp1 Tryd.underlying30 rfl (sg_infoG _ _) ?_) | fail)
 refine (cP.at f4.1.1).mono ?_
 rintro e_ w1 ⟨rfl, hb⟩
 replace rp0 := keep hb rp0
 replace rp1 := keep hb rp1
 replace f4 := f4.below hb
 replace hC := hC.keep hb
 replace hw := Below.after hw hb
 clear hb
 go_wp2_with (first | (refine wpList_store_row rfl 45 _ _ rfl (w1.heap.size) xp rfl rfl 45 pz (hp1_0 w1 _) hp.info (pt_zero.size.trans hp.size.symm) hp.one ?_; rw [setRow_alloc_new _ _ _ _ _ _ (by simp)]; refine wpList_stay ?_) | fail)
 unfold WpStay
 try simp only [Act.put]
 have rl7 : (w1.alloc (.cells xp 45)).heap[w1.heap.size]? = some (.cells xp 45 (0, 0)) := hp1_0 w1 _
 have hb : Below w1.heap.size w1 (w1.alloc (.cells xp 45)) := ((Below.refl _ _).alloc (Nat.le_refl _) _)
 generalize (w1.alloc (.cells xp 45)) = w2 at *
 have lt_g7_0 := lt_of_row rp0
 have lt_g7_1 := lt_of_row rp1
 have sz_g7 := hw.size
 replace rp0 := keep hb rp0
 replace rp1 := keep hb rp1
 replace f4 := f4.below hb
 replace hC := hC.keep hb
 replace hw := Below.after hw hb
 clear hb
 generalize w1.heap.size = g7 at *
 clear w1
 have hd : decide (E = 0) = false := decide_eq_false hE
 go_wp2_with (fail)
 go_ret
 exact ⟨rfl, hw⟩
set_option maxRecDepth 100000 in
set_option maxHeartbeats 8000000 in
theorem check_walk {N R S E : Int} {b : List Int} {xp : Array Value} {P : E1} (hp : PtO xp P) (cP : Gives5 22 #[.agg (kb N)] (.tuple #[.agg xp, .int .i64 0])) (w : World) {bo : Option Addr} {bl bc : Nat} (hS : Sgn w) (hC : BysK w (.slice bo bl bc) b) (cH : ∀ W, Sgn W → BysK W (.slice bo bl bc) b → Calls Tryd.prog 62 #[.agg xp, .slice bo bl bc, .agg (sg R S)] W fun e w' => e = .returned (.int .i64 E) ∧ Below W.heap.size W w') : Calls Tryd.prog 16 #[.agg (kb N), .slice bo bl bc, .agg (sg R S)] w fun e w' => e = .returned (.int .i64 E) ∧ Below w.heap.size w w' := by
 have hC0 := hC
 have rp0 := hp2_0 w (.cells (kb N) 25) (.cells (sg R S) 30)
 have rp1 := hp2_1 w (.cells (kb N) 25) (.cells (sg R S) 30)
 have hw : Below w.heap.size w ((w.alloc (.cells (kb N) 25)).alloc (.cells (sg R S) 30)) := (((Below.refl _ _).alloc (Nat.le_refl _) _).alloc (by simp) _)
 have f4 := hS.below (show Below w.heap.size w ((w.alloc (.cells (kb N) 25)).alloc (.cells (sg R S) 30)) from hw)
 have hC := hC.keep (show Below w.heap.size w ((w.alloc (.cells (kb N) 25)).alloc (.cells (sg R S) 30)) from hw)
 go_enter Tryd.func16, Tryd.ntmps16
 iterate 9 go_step
 generalize ((w.alloc (.cells (kb N) 25)).alloc (.cells (sg R S) 30)) = w0 at *
 go_wp2_with (first | (refine wpList_load_want rfl 25 _ rfl (w.heap.size) rfl 25 (kb N) (0, 0) _ rp0 Tryd.underlying25 rfl (kb_info _) ?_) | (refine wpList_load_want rfl 30 _ rfl (w.heap.size + 1) rfl 30 (sg R S) (0, 0) _ rp1 Tryd.underlying30 rfl (sg_infoG _ _) ?_) | fail)
 refine (cP.at f4.1.1).mono ?_
 rintro e_ w1 ⟨rfl, hb⟩
 replace rp0 := keep hb rp0
 replace rp1 := keep hb rp1
 replace f4 := f4.below hb
 replace hC := hC.keep hb
 replace hw := Below.after hw hb
 clear hb
 go_wp2_with (first | (refine wpList_store_row rfl 45 _ _ rfl (w1.heap.size) xp rfl rfl 45 pz (hp1_0 w1 _) hp.info (pt_zero.size.trans hp.size.symm) hp.one ?_; rw [setRow_alloc_new _ _ _ _ _ _ (by simp)]; refine wpList_stay ?_) | fail)
 unfold WpStay
 try simp only [Act.put]
 have rl7 : (w1.alloc (.cells xp 45)).heap[w1.heap.size]? = some (.cells xp 45 (0, 0)) := hp1_0 w1 _
 have hb : Below w1.heap.size w1 (w1.alloc (.cells xp 45)) := ((Below.refl _ _).alloc (Nat.le_refl _) _)
 generalize (w1.alloc (.cells xp 45)) = w2 at *
 have lt_g7_0 := lt_of_row rp0
 have lt_g7_1 := lt_of_row rp1
 have sz_g7 := hw.size
 replace rp0 := keep hb rp0
 replace rp1 := keep hb rp1
 replace f4 := f4.below hb
 replace hC := hC.keep hb
 replace hw := Below.after hw hb
 clear hb
 generalize w1.heap.size = g7 at *
 clear w1
 go_wp2_with (first | (refine wpList_load_want rfl 25 _ rfl (w.heap.size) rfl 25 (kb N) (0, 0) _ rp0 Tryd.underlying25 rfl (kb_info _) ?_) | (refine wpList_load_want rfl 30 _ rfl (w.heap.size + 1) rfl 30 (sg R S) (0, 0) _ rp1 Tryd.underlying30 rfl (sg_infoG _ _) ?_) | (refine wpList_load_want rfl 45 _ rfl (g7) rfl 45 xp (0, 0) _ rl7 Tryd.underlying45 rfl hp.info ?_) | fail)
 refine (cH _ f4 hC).mono ?_
 rintro e_ w3 ⟨rfl, hb⟩
 replace rp0 := keep hb rp0
 replace rp1 := keep hb rp1
 replace rl7 := keep hb rl7
 replace f4 := f4.below hb
 replace hC := hC.keep hb
 replace hw := Below.after hw hb
 clear hb
 go_wp2_with (fail)
 go_ret
 exact ⟨rfl, hw⟩
theorem a_Check {N R S : Int} {b : List Int} (hN : KeyOf (kb N) N) (hR : KeyOf (kb R) R) (hK : KeyOf (kb S) S) (w : World) {v : Value} (hS : Sgn w) (hC : BysK w v b) : Calls Tryd.prog 16 #[.agg (kb N), v, .agg (sg R S)] w fun e w' => e = .returned (.int .i64 (chk N b R S)) ∧ Below w.heap.size w w' := by
 obtain ⟨bo, bc, rfl, _⟩ := hC.slc
 obtain ⟨xp, hp, cP⟩ := a_Parse hN
 unfold chk
 by_cases hE : pe N = 0
 ·rw [if_pos hE]
  rw [hE] at cP
  exact check_walk hp cP w hS hC (fun W h1 h2 => a_held hp hR hK W h1 h2)
 ·rw [if_neg hE]
  exact check_bad hp hE cP w hS hC
end Go.Proofs.YtajaiiidafkijaaDoor
namespace Go.Proofs.YtajaiiidafkijaaDoor
set_option maxRecDepth 100000
def vsd : List Int := [157, 97, 177, 157, 239, 253, 90, 96, 186, 132, 74, 244, 146, 236, 44, 196, 68, 73, 197, 105, 123, 50, 105, 25, 112, 59, 172, 3, 28, 174, 127, 96]
theorem v_sec : sec vsd = 36144925721603087658594284515452164870581325872720374094707712194495455132720 := by
 unfold sec sK vsd
 rw [Wi.h_seed]
 decide +kernel
theorem v_pub : pb (pubP vsd) = 11903303657706407974989296177215005343713679411332034699907763981919547054807 := by
 unfold pubP
 rw [v_sec]
 exact pb_A
theorem v_r : sgr vsd [] = 2015312323900227545039973048451112962192803170366412514267238242679089760755 := by
 unfold sgr nbr
 rw [sP_b32, List.append_nil]
 unfold vsd
 rw [Wi.h_seed]
 show (bval (Wi.sumL [155, 79, 10, 254, 40, 11, 116, 106, 119, 134, 132, 231, 84, 66, 80, 32, 87, 183, 71, 58, 3, 240, 143, 150, 245, 163, 142, 146, 135, 224, 31, 143]) : Int) % L19 = _
 rw [Wi.h_pre]
 decide +kernel
theorem v_R : sigR vsd [] = 38448863731492799660668882834560725606410712239157980760146247592118262650597 := by
 unfold sigR sgR
 rw [v_r]
 exact pb_R
theorem v_c : chl 38448863731492799660668882834560725606410712239157980760146247592118262650597 11903303657706407974989296177215005343713679411332034699907763981919547054807 [] = 1958233733501237659471134851339390337284068724042047466985993338226439154310 := by
 unfold chl nbr
 have e : b32 38448863731492799660668882834560725606410712239157980760146247592118262650597 ++ (b32 11903303657706407974989296177215005343713679411332034699907763981919547054807 ++ []) = [229, 86, 67, 0, 195, 96, 172, 114, 144, 134, 226, 204, 128, 110, 130, 138, 132, 135, 127, 30, 184, 229, 217, 116, 216, 115, 224, 101, 34, 73, 1, 85, 215, 90, 152, 1, 130, 177, 10, 183, 213, 75, 254, 211, 201, 100, 7, 58, 14, 225, 114, 243, 218, 166, 35, 37, 175, 2, 26, 104, 247, 7, 81, 26] := by decide +kernel
 rw [e, Wi.h_chl]
 decide +kernel
theorem v_c0 : chl 38448863731492799660668882834560725606410712239157980760146247592118262650597 11903303657706407974989296177215005343713679411332034699907763981919547054807 [0] = 5739917060239399386628100714654249777605879736788356462454918389142766655041 := by
 unfold chl nbr
 have e : b32 38448863731492799660668882834560725606410712239157980760146247592118262650597 ++ (b32 11903303657706407974989296177215005343713679411332034699907763981919547054807 ++ [0]) = [229, 86, 67, 0, 195, 96, 172, 114, 144, 134, 226, 204, 128, 110, 130, 138, 132, 135, 127, 30, 184, 229, 217, 116, 216, 115, 224, 101, 34, 73, 1, 85, 215, 90, 152, 1, 130, 177, 10, 183, 213, 75, 254, 211, 201, 100, 7, 58, 14, 225, 114, 243, 218, 166, 35, 37, 175, 2, 26, 104, 247, 7, 81, 26, 0] := by decide +kernel
 rw [e, Wi.h_chl0]
 decide +kernel
theorem v_S : sigS vsd [] = 5004556735901913393272427758925840403246877222315506387332009764265656498271 := by
 have h := v_R
 unfold sigR at h
 unfold sigS sgS sga
 rw [h, v_pub, v_c, v_sec, v_r]
 decide +kernel
theorem v_len : vsd.length = 32 := rfl
theorem chk_signed {sd : List Int} (b : List Int) : chk (pb (pubP sd)) b (sigR sd b) (sigS sd b) = 0 := by
 unfold chk
 rw [pe_pb, if_pos rfl, pp_pb]
 have h0 : 0 ≤ sec sd := (sec_key sd).bd.1
 exact hld_signed (sga_bd sd).1 (nbr_bd _).1 (by unfold sga pubP; exact ml_red h0) (by unfold pubP sec; exact sml_clp _) b
theorem v_one : ∀ R S, chk 1 [] R S = 200 := fun R S => by
 unfold chk
 rw [pe_one.1, if_pos rfl, pe_one.2]
 unfold hld
 rw [if_pos ((sml_iff ze).2 (ml_ze 8))]
theorem v_two : ∀ R S, chk 2 [] R S = 190 := fun R S => by
 unfold chk
 rw [pe_two, if_neg (by decide)]
theorem ml_inj {k : Nat} (hk : ¬ ell ∣ k) {a b : Nat} (ha : a < ell) (hb : b < ell) (h : ml a (ml k bp) = ml b (ml k bp)) : a = b := by
 have aux : ∀ a b : Nat, b < ell → a ≤ b → ml a (ml k bp) = ml b (ml k bp) → a = b := by
  intro a b hb hl h
  have h2 := ml_sub h hl
  rw [ml_ml] at h2
  rcases ell_prime.euclid (bp_div h2) with g | g
  ·rcases Nat.eq_zero_or_pos (b - a) with e | e
   ·omega
   ·exact (not_dvd_of_lt e (by omega) g).elim
  ·exact (hk g).elim
 rcases Nat.le_total a b with g | g
 ·exact aux a b hb g h
 ·exact (aux b a ha g h.symm).symm
theorem clp_nd (K : Int) : ¬ ell ∣ (clp K).toNat := fun h => clp_big K (by
 obtain ⟨q, e⟩ := h
 rw [e, Nat.mul_comm, ← ml_ml, bp_order, ml_ze, ml_ze])
theorem v_more : chk (pb (pubP vsd)) [0] (sigR vsd []) (sigS vsd []) = 201 := by
 have hS := v_S
 have h0 : 0 ≤ sec vsd := (sec_key vsd).bd.1
 have hs : sml (pubP vsd) = false := by unfold pubP sec; exact sml_clp _
 have hh := sig_hold (a := sga vsd) (r := sgr vsd []) (c := chl (sigR vsd []) (pb (pubP vsd)) []) (sga_bd vsd).1 (nbr_bd _).1 (nbr_bd _).1 (show ml (sga vsd).toNat bp = pubP vsd by unfold sga pubP; exact ml_red h0)
 unfold chk
 rw [pe_pb, if_pos rfl, pp_pb]
 unfold hld
 rw [hs, if_neg (by decide), if_neg (by rw [hS]; decide +kernel), if_neg]
 intro e
 have e2 := pb_inj (show pb (back (pubP vsd) [0] (sigR vsd []) (sigS vsd [])) = pb (ml (sgr vsd []).toNat bp) from e)
 unfold back at e2
 rw [← hh] at e2
 change pl (ml (sigS vsd []).toNat bp) _ = pl (ml (sigS vsd []).toNat bp) _ at e2
 rw [pl_comm, pl_comm (ml (sigS vsd []).toNat bp)] at e2
 have e3 := congrArg ng (pl_cancel e2)
 rw [ng_ng, ng_ng] at e3
 have hc1 := nbr_bd (b32 (sigR vsd []) ++ (b32 (pb (pubP vsd)) ++ []))
 have hc2 := nbr_bd (b32 (sigR vsd []) ++ (b32 (pb (pubP vsd)) ++ [0]))
 have hl : (ell : Int) = L19 := L_ell.symm
 have e4 := ml_inj (clp_nd _) (by show (nbr _).toNat < ell; omega) (by show (nbr _).toNat < ell; omega) (show ml (chl (sigR vsd []) (pb (pubP vsd)) [0]).toNat (ml (clp (sK vsd)).toNat bp) = ml (chl (sigR vsd []) (pb (pubP vsd)) []).toNat (ml (clp (sK vsd)).toNat bp) from e3)
 rw [v_R, v_pub, v_c, v_c0] at e4
 revert e4
 decide +kernel
end Go.Proofs.YtajaiiidafkijaaDoor
namespace Go.Proofs.YtajaiiidafkijaaDoor.Wi
set_option maxRecDepth 100000
open Go Go.RowKit Go.Sort
attribute [local go_sem] setCell_drewN alloc_drewN
theorem wrapI (x : Int) (h0 : 0 ≤ x) (h1 : x < 9223372036854775808) : IntKind.i64.wrap x = x := by
 have e : x % 2 ^ IntKind.i64.bits = x := Int.emod_eq_of_lt h0 (by show x < 2 ^ 64; omega)
 unfold IntKind.wrap
 simp only [e]
 rw [if_neg]
 simp only [IntKind.signed, IntKind.bits, Bool.true_and]
 intro h
 have h2 : x ≥ 2 ^ 63 := of_decide_eq_true h
 omega
theorem wrap8 (x : Int) (h0 : 0 ≤ x) (h1 : x < 256) : IntKind.u8.wrap x = x := by
 simp [IntKind.wrap, IntKind.bits, IntKind.signed]
 exact Int.emod_eq_of_lt h0 h1
theorem step_call {P : Program} {ops : Array Oper} {o : Oper} {a : Act} {w : World} {K : Act → World → Prop} {Q : Exit → Act → World → Prop} {E : Prop} (f : FuncId) (args : Array Value) {R : Value → World → Prop}
 (hg : o.guard = none) (hx : (execOp a.eval o).run P w = .ok (.enter f args) w) (c : Calls P f args w fun e w' => ∃ v, e = .returned v ∧ R v w') (h : ∀ v w', R v w' → K (a.put o.dst v) w') :
 if Region.wanted o (yielded ops a.tmps) = true then Oper.wp P o a w K Q else E := by
 have hw : Region.wanted o (yielded ops a.tmps) = true := by simp [Region.wanted, hg]
 rw [if_pos hw]
 unfold Oper.wp
 rw [hx, Oper.upon_enter]
 exact c.mono fun e w' ⟨v, he, hb⟩ => by subst he; exact h v w' hb
theorem ex1 {f : FuncId} {args : Array Value} {w : World} {v : Value} {B : World → Prop} (h : Calls Tryd.prog f args w fun e w' => e = .returned v ∧ B w') : Calls Tryd.prog f args w fun e w' => ∃ u, e = .returned u ∧ (u = v ∧ B w') := h.mono fun _ _ ⟨h1, h2⟩ => ⟨v, h1, rfl, h2⟩
theorem step_append_any {P : Program} (w : World) {ops : Array Oper} {o : Oper} {a : Act} {K : Act → World → Prop} {Q : Exit → Act → World → Prop} {E : Prop} (hgd : o.guard = none) (s x : Operand) (t : TypeId)
 (ho : o.op = .call { callee := .builtin .append, args := #[s, x], argTypes := #[t, t] })
 (base : Nat) (e : TypeId) (i : TypeInfo) (z : Value) (ht : P.underlying t = some (.slice e)) (hi : P.info? e = some i) (hz : i.zero = some z)
 (hsize : i.size = 1) (hby : i.bytes = 1) (hzs : z.cells.size = 1)
 (v : Value) (n : Nat) (xs : List Value) (hs : a.eval s = v) (hown : w.ownsRow base e 1 v n xs)
 (ao : Option Addr) (m c : Nat) (news : List Value) (hx : a.eval x = .slice ao m c) (hl : news.length = m * 1) (hnone : ao = none → m = 0 ∧ c = 0) (hnews : ∀ ad, ao = some ad → ∀ j u, news[j]? = some u → w.cell? (ad.add j) = some u) (h1 : ∀ u ∈ news, u.oneCell' = true)
 (h63 : n + m ≤ maxLen) (hbytes : (n + m) * 1 ≤ 140737488355328) (hbase : base ≤ w.heap.size)
 (h : ∀ v' w', w'.ownsRow base e 1 v' (n + m) (xs ++ news) → w.grownBy w' v.ownBlock → K (a.put o.dst v') w') : if Region.wanted o (yielded ops a.tmps) = true then Oper.wp P o a w K Q else E := by
 have hw : Region.wanted o (yielded ops a.tmps) = true := by simp [Region.wanted, hgd]
 rw [if_pos hw]
 cases ao with
 | some ad => exact wp_append_own w s x t ho base e i z 1 1 ht hi hz hsize hby hzs (by decide) v n xs hs hown ad m c news hx hl (hnews ad rfl) h1 h63 hbytes hbase (fun v' w' h2 h3 _ => h v' w' h2 h3)
 | none =>
  obtain ⟨rfl, rfl⟩ := hnone rfl
  have hn0 : news = [] := List.eq_nil_of_length_eq_zero (by simpa using hl)
  subst hn0
  have hrun := run_append_owned_none (P := P) w base t o.type e i 1 ht hi _ n xs hown
  unfold Oper.wp
  simp [execOp, ho, resolve, invoke, builtin, hs, hx, hrun, Result.andThen]
  have h_ := h v w (by simpa using hown) (World.grownBy.refl _ _)
  exact h_
def hx (c : Int) : Int := if 97 ≤ c then c - 87 else c - 48
def isHx (c : Int) : Prop := (48 ≤ c ∧ c ≤ 57) ∨ (97 ≤ c ∧ c ≤ 102)
instance (c : Int) : Decidable (isHx c) := inferInstanceAs (Decidable (_ ∨ _))
def sb (s : ByteArray) (j : Nat) : Int := (s.data.getD j 0).toNat
def vb (s : ByteArray) (j : Nat) : Int := hx (sb s (2 * j)) * 16 + hx (sb s (2 * j + 1))
def hxl (s : ByteArray) (n : Nat) : List Int := (List.range n).map (vb s)
theorem hxl_succ (s : ByteArray) (n : Nat) : hxl s (n + 1) = hxl s n ++ [vb s n] := by simp [hxl, List.range_succ]
theorem hx_bd {c : Int} (h : isHx c) : 0 ≤ hx c ∧ hx c < 16 := by
 unfold isHx at h
 unfold hx
 split <;> omega
theorem hxl_bd (s : ByteArray) (n : Nat) (hh : ∀ j, j < 2 * n → isHx (sb s j)) : ∀ z ∈ hxl s n, 0 ≤ z ∧ z < 256 := by
 intro z hz
 simp only [hxl, List.mem_map, List.mem_range] at hz
 obtain ⟨j, hj, rfl⟩ := hz
 have h1 := hx_bd (hh (2 * j) (by omega))
 have h2 := hx_bd (hh (2 * j + 1) (by omega))
 unfold vb
 omega
set_option maxHeartbeats 4000000 in
theorem digit_any {c : Int} (h : isHx c) : Gives 58 #[.int .u8 c] (.int .u8 (hx c)) := by
 intro w
 unfold isHx at h
 by_cases h9 : 97 ≤ c
 ·have hd : decide ((97 : Int) ≤ c) = true := decide_eq_true h9
  have e : hx c = c - 97 + 10 := by unfold hx; rw [if_pos h9]; omega
  rw [e]
  go_enter Tryd.func58, Tryd.ntmps58
  go_wp2
  go_ret
  exact ⟨rfl, Below.refl _ _⟩
 ·have hd : decide ((97 : Int) ≤ c) = false := decide_eq_false h9
  have e : hx c = c - 48 := by unfold hx; rw [if_neg h9]
  rw [e]
  go_enter Tryd.func58, Tryd.ntmps58
  go_wp2
  go_ret
  exact ⟨rfl, Below.refl _ _⟩
theorem index_sb (s : ByteArray) (i : Int) (j : Nat) (hi : i = (j : Int)) (hj : j < s.size) (W : World) : (Instr.index 9 (.string s) (.int .i64 i)).run Tryd.prog W = .ok (.int .u8 (sb s j)) W := by
 subst hi
 rw [run_index_string W 9 s .i64 j Tryd.underlying9, dif_pos ⟨by omega, by omega⟩]
 have e : sb s j = (s[((j : Int)).toNat]'(by simp; omega)).toNat := by
  unfold sb
  have h2 : j < s.size := by omega
  simp [Array.getD, h2]
  rfl
 rw [e]
set_option maxRecDepth 100000 in
set_option maxHeartbeats 4000000 in
theorem l_hex (s : ByteArray) (n : Nat) (hs : s.size = 2 * n) (hn : n ≤ 1000) (hh : ∀ j, j < 2 * n → isHx (sb s j)) (w : World) : Calls Tryd.prog 13 #[.string s] w fun e w' => ∃ v, e = .returned v ∧ w'.ownsRow w.heap.size 5 1 v n ((hxl s n).map (Value.int .u8)) ∧ Below w.heap.size w w' := by
 obtain ⟨i0, hi, hz0, hz1, hz2⟩ := info8
 have hown0 : w.ownsRow w.heap.size 5 1 (.slice none 0 0) 0 ((hxl s 0).map (Value.int .u8)) := ⟨rfl, .inl ⟨rfl, rfl⟩⟩
 go_enter Tryd.func13, Tryd.ntmps13
 go_wp2_with (fail)
 go_loopw [3, 4] (fun x i wr => ∃ k : Nat, k ≤ n ∧ i = .int .i64 ((2 * k : Nat) : Int) ∧ wr.ownsRow w.heap.size 5 1 x k ((hxl s k).map (Value.int .u8)) ∧ Below w.heap.size w wr) (fun _ i _ => 2 * n - (intOf i).toNat)
 case atStart => exact ⟨0, by omega, rfl, hown0, Below.refl _ _⟩
 case round =>
  clear hown0
  obtain ⟨k, hk, rfl, hown, hw⟩ := hrel
  obtain ⟨aox, capx, rfl⟩ := slen_own hown
  by_cases hlt : k < n
  ·have hd : decide (((2 * k : Nat) : Int) + 1 < (s.size : Int)) = true := by rw [hs]; simp; omega
   have x0 := hh (2 * k) (by omega)
   have x1 := hh (2 * k + 1) (by omega)
   have hi0 := index_sb s ((2 * k : Nat) : Int) (2 * k) rfl (by omega)
   have hi1 := index_sb s (((2 * k : Nat) : Int) + 1) (2 * k + 1) (by omega) (by omega)
   have hvb : hx (sb s (2 * k)) * 16 + hx (sb s (2 * k + 1)) = vb s k := rfl
   have cd1 := digit_any x0
   have cd2 := digit_any x1
   have b0 := hx_bd x0
   have b1 := hx_bd x1
   have hnx := hxl_succ s k
   replace hnx := hide hnx
   replace hvb := hide hvb
   clear x0 x1 hh
   generalize hx (sb s (2 * k)) = d1 at *
   generalize hx (sb s (2 * k + 1)) = d2 at *
   generalize sb s (2 * k) = c1 at *
   generalize sb s (2 * k + 1) = c2 at *
   generalize eI : ((2 * k : Nat) : Int) = I at *
   have hwr : I + 1 < 9223372036854775807 := by omega
   have m1 : IntKind.u8.wrap (d1 * 16) = d1 * 16 := wrap8 _ (by omega) (by omega)
   have m2 : IntKind.u8.wrap (d1 * 16 + d2) = d1 * 16 + d2 := wrap8 _ (by omega) (by omega)
   have hwI : IntKind.i64.wrap (I + 1) = I + 1 := wrapI _ (by omega) (by omega)
   go_wp2
   refine wp_region_noPanic ?_
   go_region_law
    ((first
     | (refine step_call 58 #[.int .u8 c1] (by rfl) (by kernel_rfl) (ex1 (cd1.at wr.drew)) ?_; rintro v1 w1 ⟨rfl, hb1⟩)
     | (refine step_call 58 #[.int .u8 c2] (by rfl) (by kernel_rfl) (ex1 (cd2.at w1)) ?_; rintro v2 w2 ⟨rfl, hb2⟩; have hb12 : Below wr.heap.size wr w2 := Below.after (Below.after (below_drN (Below.refl _ _) 1) hb1) hb2; have hs12 := hb12.size; have hown2 := (own_keep hown hb12).alloc (.cells #[.int .u8 (d1 * 16 + d2)] 5); replace hw := Below.after hw hb12; have hnew := new_cell w2 (d1 * 16 + d2); clear hb1 hb2)
     | (refine step_append_any _ (by rfl) _ _ _ (by rfl) w.heap.size 5 i0 (.int .u8 0) Tryd.underlying22 hi hz0 hz1 hz2 rfl _ k ((hxl s k).map (Value.int .u8)) (by rfl) hown2 (some ⟨w2.heap.size, 0, none⟩) 1 1 [.int .u8 (d1 * 16 + d2)] (by rfl) (by simp) (fun h => by cases h) (fun ad h => by cases h; exact hnew) (by simp [Value.oneCell']) (by unfold maxLen; omega) (by omega) (by rw [size_alloc1]; have := hw.size; omega) ?_; intro v3 w3 hown3 hgrow; have hw3 : Below w.heap.size w w3 := (hw.alloc hw.size _).grown hgrow (by rw [size_alloc1]; have := hw.size; omega) (fun q h => (hown2.lt q h).1))))
   all_goals
    refine NoPanic.normal ?_
    obtain ⟨ao3, cap3, rfl⟩ := slen_own hown3
    rw [hvb.out, show [Value.int .u8 (vb s k)] = [vb s k].map (Value.int .u8) from rfl, ← List.map_append, ← hnx.out] at hown3
    clear hgrow hown2 hw hnew hown
    go_wp2
    refine ⟨⟨k + 1, by omega, by simp; omega, hown3, hw3⟩, ?_⟩
    simp [intOf]; omega
  ·obtain rfl : k = n := by omega
   have hd : decide (((2 * k : Nat) : Int) + 1 < (s.size : Int)) = false := by rw [hs]; simp; omega
   go_wp2
   go_ret
   exact ⟨_, rfl, hown, hw⟩
end Go.Proofs.YtajaiiidafkijaaDoor.Wi

