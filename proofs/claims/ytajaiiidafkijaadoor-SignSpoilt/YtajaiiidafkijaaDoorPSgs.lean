import Derived.Test.YtajaiiidafkijaaDoorProg
import Derived.WalkKit
import Derived.WalkSpells
import Derived.WalkLawsBesides
import Derived.Lib.QuietBelow
import Derived.BigQuiet
import Derived.Deep.Cut
import Derived.Deep.CutRange
import Derived.Test.YtajaiiidafkijaaDoorPSgv
namespace Go.Proofs.YtajaiiidafkijaaDoor
set_option maxRecDepth 100000
open Go Go.RowKit Go.Sort
attribute [local go_sem] setCell_drewN alloc_drewN
set_option maxRecDepth 100000 in
set_option maxHeartbeats 8000000 in
theorem spoilt_walk {pe we E K Q Y c : Int} {xb x1 x2 x3 : Array Value} {eq small : Bool} {N R S : Int} {b : List Int} {xp xn : Array Value} {P : E1} (hp : PtO xp P) (on : WdO xn) (cV : GivesS 3 #[] (.bool true)) (cP : Gives5 22 #[.agg (kb N)] (.tuple #[.agg xp, .int .i64 pe])) (cWh : GivesO 23 #[.agg (kb S)] (.tuple #[.agg xn, .int .i64 we])) (w : World) {bo : Option Addr} {bl bc : Nat} (hS : Sgn w) (hC : BysK w (.slice bo bl bc) b) (cC : ∀ W, Sgn W → BysK W (.slice bo bl bc) b → Calls Tryd.prog 16 #[.agg (kb N), .slice bo bl bc, .agg (sg R S)] W fun e w' => e = .returned (.int .i64 E) ∧ Below W.heap.size W w') (cSm : Gives4 32 #[.agg xp] (.bool small)) (hnone : bo = none → bc = 0) (hlen : b.length ≤ 140737488351232) (cW_ : ∀ (W : World) (base : Nat) (v : Value), W.ownsRow base 5 1 v ([] ++ b32 R ++ b32 N ++ b).length (([] ++ b32 R ++ b32 N ++ b).map (Value.int .u8)) → Calls Tryd.prog 17 #[v] W fun e w' => e = .returned (.agg (sg K Q)) ∧ Below W.heap.size W w') (cB : GivesE 19 #[] (.agg xb)) (cT : Gives4 24 #[.agg xb, .agg xn] (.agg x1)) (cR : ∀ W v, Ord W → Bys W v (b32 K ++ b32 Q) → Calls Tryd.prog 27 #[v] W fun e w' => e = .returned (.agg (wd c)) ∧ Below W.heap.size W w') (cT2 : Gives4 24 #[.agg xp, .agg (wd c)] (.agg x2)) (cU : Gives4 33 #[.agg x1, .agg x2] (.agg x3)) (cZ : Gives 21 #[.agg x3] (.agg (kb Y))) (heq : ∀ W, (Op.equalIn 10000 25 (.agg (kb Y)) (.agg (kb R))).run Tryd.prog W = .ok eq W)
 (hcase : (pe = 190 ∧ E = 190) ∨ (pe = 0 ∧ small = true ∧ E = 200) ∨ (pe = 0 ∧ small = false ∧ we = 191 ∧ E = 191) ∨ (pe = 0 ∧ small = false ∧ we = 0 ∧ ((eq = true ∧ E = 0) ∨ (eq = false ∧ E = 201)))) : Calls Tryd.prog 8 #[.agg (kb N), .slice bo bl bc, .agg (sg R S)] w fun e w' => e = .returned (.bool true) ∧ Below w.heap.size w w' := by
 have hC0 := hC
 have rp0 := hp2_0 w (.cells (kb N) 25) (.cells (sg R S) 30)
 have rp1 := hp2_1 w (.cells (kb N) 25) (.cells (sg R S) 30)
 have hw : Below w.heap.size w ((w.alloc (.cells (kb N) 25)).alloc (.cells (sg R S) 30)) := (((Below.refl _ _).alloc (Nat.le_refl _) _).alloc (by simp) _)
 have f4 := hS.below (show Below w.heap.size w ((w.alloc (.cells (kb N) 25)).alloc (.cells (sg R S) 30)) from hw)
 have hC := hC.keep (show Below w.heap.size w ((w.alloc (.cells (kb N) 25)).alloc (.cells (sg R S) 30)) from hw)
 go_enter Tryd.func8, Tryd.ntmps8
 iterate 10 go_step
 generalize ((w.alloc (.cells (kb N) 25)).alloc (.cells (sg R S) 30)) = w0 at *
 go_wp2_with (fail)
 refine (cV.at f4).mono ?_
 rintro e_ w1 ⟨rfl, hb⟩
 replace rp0 := keep hb rp0
 replace rp1 := keep hb rp1
 replace f4 := f4.below hb
 replace hC := hC.keep hb
 replace hw := Below.after hw hb
 clear hb
 go_wp2_with (fail)
 simp only [z32]
 have rl7 : ((w1.alloc (.cells (kb 0) 25)).alloc (.cells (kb 0) 25)).heap[w1.heap.size]? = some (.cells (kb 0) 25 (0, 0)) := hp2_0 w1 _ _
 have rl8 : ((w1.alloc (.cells (kb 0) 25)).alloc (.cells (kb 0) 25)).heap[w1.heap.size + 1]? = some (.cells (kb 0) 25 (0, 0)) := hp2_1 w1 _ _
 have hb : Below w1.heap.size w1 ((w1.alloc (.cells (kb 0) 25)).alloc (.cells (kb 0) 25)) := (((Below.refl _ _).alloc (Nat.le_refl _) _).alloc (by simp) _)
 generalize ((w1.alloc (.cells (kb 0) 25)).alloc (.cells (kb 0) 25)) = w2 at *
 have lt_g7_0 := lt_of_row rp0
 have lt_g7_1 := lt_of_row rp1
 have sz_g7 := hw.size
 replace rp0 := keep hb rp0
 replace rp1 := keep hb rp1
 replace f4 := f4.below hb
 replace hC := hC.keep hb
 replace hw := Below.after hw hb
 clear hb
 generalize w1.heap.size = g7 at *
 clear w1
 have hb : Below w2.heap.size w2 w2.drew := below_drN (Below.refl _ _) 1
 replace rp0 := keep hb rp0
 replace rp1 := keep hb rp1
 replace rl7 := keep hb rl7
 replace rl8 := keep hb rl8
 replace f4 := f4.below hb
 replace hC := hC.keep hb
 replace hw := Below.after hw hb
 clear hb
 refine wp_region_noPanic ?_
 refine wp_region_held (S := fun _ => True) (by kernel_rfl) ?_
 change wpAnyH _ _ _ _ _ _ _ _ (World.drew _)
 generalize w2.drew = wd28 at *
 refine wpAnyH_take (i := 0) (v := .slice (some ⟨g7, 0, none⟩) 32 32) rfl (by kernel_rfl) (by kernel_rfl) (by kernel_rfl) (fun _ _ _ h => h) (Or.inl ⟨by rfl, ?y29⟩) (trivial) ?r29
 case y29 =>
  intro w_ hS_
  go_simp
  try with_reducible rfl
 simp only [Act.put, ZPa, ZPc, ZPd, ZPe, ZPf]
 refine wpAnyH_take (i := 1) (v := .slice (some ⟨w.heap.size + 1, 0, none⟩) 64 64) rfl (by kernel_rfl) (by kernel_rfl) (by kernel_rfl) (fun _ _ _ h => h) (Or.inl ⟨by rfl, ?y30⟩) (trivial) ?r30
 case y30 =>
  intro w_ hS_
  go_simp
  try with_reducible rfl
 simp only [Act.put, ZPa, ZPb, ZPc, ZPd, ZPe, ZPf]
 refine eH_one (k := 2) (fuel := 0) (by kernel_rfl) rfl (by kernel_rfl) (fun K_ hK_ => ?_)
 refine wp_copy_op _ _ _ _ rfl _ _ rfl rfl _ _ (copy_rows (n := 32) (l := b32 0) (c := b32 R ++ b32 S) rl7 rp1 rfl (show 0 + 32 ≤ 64 by decide) (show 0 + 32 ≤ 32 by decide)) ?_
 rw [show Wi.irow .u8 (List.take 0 (b32 0) ++ (List.take 32 (List.drop 0 (b32 R ++ b32 S)) ++ List.drop (0 + 32) (b32 0))) = (kb R) from rfl]
 have hN_ := setRow_heap wd28 (g7) _ (kb R) _ _ rl7
 replace rp0 := (setRow_other wd28 (g7) (w.heap.size) (kb R) (by omega)).trans rp0
 replace rp1 := (setRow_other wd28 (g7) (w.heap.size + 1) (kb R) (by omega)).trans rp1
 replace rl8 := (setRow_other wd28 (g7) (g7 + 1) (kb R) (by omega)).trans rl8
 replace hw := below_setRow hw (show w.heap.size ≤ g7 by omega) (kb R)
 replace f4 := hS.below hw
 replace hC := hC0.keep hw
 generalize (wd28.setRow (g7) (kb R)) = wc31 at *
 clear rl7
 have rl7 := hN_
 clear hN_
 refine hK_ _ _ trivial ?_
 simp only [Act.put, ZPa, ZPb, ZPc, ZPd, ZPe, ZPf]
 clear hK_
 refine wpAnyH_done (by kernel_rfl) ?_ _
 refine NoPanic.normal ?_
 go_wp2_with (fail)
 have hb : Below wc31.heap.size wc31 wc31.drew := below_drN (Below.refl _ _) 1
 replace rp0 := keep hb rp0
 replace rp1 := keep hb rp1
 replace rl7 := keep hb rl7
 replace rl8 := keep hb rl8
 replace f4 := f4.below hb
 replace hC := hC.keep hb
 replace hw := Below.after hw hb
 clear hb
 refine wp_region_noPanic ?_
 refine wp_region_held (S := fun _ => True) (by kernel_rfl) ?_
 change wpAnyH _ _ _ _ _ _ _ _ (World.drew _)
 generalize wc31.drew = wd32 at *
 refine wpAnyH_take (i := 0) (v := .slice (some ⟨g7 + 1, 0, none⟩) 32 32) rfl (by kernel_rfl) (by kernel_rfl) (by kernel_rfl) (fun _ _ _ h => h) (Or.inl ⟨by rfl, ?y33⟩) (trivial) ?r33
 case y33 =>
  intro w_ hS_
  go_simp
  try with_reducible rfl
 simp only [Act.put, ZPa, ZPc, ZPd, ZPe, ZPf]
 refine wpAnyH_take (i := 1) (v := .slice (some ⟨w.heap.size + 1, 32, none⟩) 32 32) rfl (by kernel_rfl) (by kernel_rfl) (by kernel_rfl) (fun _ _ _ h => h) (Or.inl ⟨by rfl, ?y34⟩) (trivial) ?r34
 case y34 =>
  intro w_ hS_
  go_simp
  try with_reducible rfl
 simp only [Act.put, ZPa, ZPb, ZPc, ZPd, ZPe, ZPf]
 refine eH_one (k := 2) (fuel := 0) (by kernel_rfl) rfl (by kernel_rfl) (fun K_ hK_ => ?_)
 refine wp_copy_op _ _ _ _ rfl _ _ rfl rfl _ _ (copy_rows (n := 32) (l := b32 0) (c := b32 R ++ b32 S) rl8 rp1 rfl (show 32 + 32 ≤ 64 by decide) (show 0 + 32 ≤ 32 by decide)) ?_
 rw [show Wi.irow .u8 (List.take 0 (b32 0) ++ (List.take 32 (List.drop 32 (b32 R ++ b32 S)) ++ List.drop (0 + 32) (b32 0))) = (kb S) from rfl]
 have hN_ := setRow_heap wd32 (g7 + 1) _ (kb S) _ _ rl8
 replace rp0 := (setRow_other wd32 (g7 + 1) (w.heap.size) (kb S) (by omega)).trans rp0
 replace rp1 := (setRow_other wd32 (g7 + 1) (w.heap.size + 1) (kb S) (by omega)).trans rp1
 replace rl7 := (setRow_other wd32 (g7 + 1) (g7) (kb S) (by omega)).trans rl7
 replace hw := below_setRow hw (show w.heap.size ≤ g7 + 1 by omega) (kb S)
 replace f4 := hS.below hw
 replace hC := hC0.keep hw
 generalize (wd32.setRow (g7 + 1) (kb S)) = wc35 at *
 clear rl8
 have rl8 := hN_
 clear hN_
 refine hK_ _ _ trivial ?_
 simp only [Act.put, ZPa, ZPb, ZPc, ZPd, ZPe, ZPf]
 clear hK_
 refine wpAnyH_done (by kernel_rfl) ?_ _
 refine NoPanic.normal ?_
 go_wp2_with (first | (refine wpList_load_want rfl 25 _ rfl (w.heap.size) rfl 25 (kb N) (0, 0) _ rp0 Tryd.underlying25 rfl (kb_info _) ?_) | (refine wpList_load_want rfl 30 _ rfl (w.heap.size + 1) rfl 30 (sg R S) (0, 0) _ rp1 Tryd.underlying30 rfl (sg_infoG _ _) ?_) | (refine wpList_load_want rfl 25 _ rfl (g7) rfl 25 (kb R) (0, 0) _ rl7 Tryd.underlying25 rfl (kb_info _) ?_) | (refine wpList_load_want rfl 25 _ rfl (g7 + 1) rfl 25 (kb S) (0, 0) _ rl8 Tryd.underlying25 rfl (kb_info _) ?_) | fail)
 refine (cC _ f4 hC).mono ?_
 rintro e_ w3 ⟨rfl, hb⟩
 replace rp0 := keep hb rp0
 replace rp1 := keep hb rp1
 replace rl7 := keep hb rl7
 replace rl8 := keep hb rl8
 replace f4 := f4.below hb
 replace hC := hC.keep hb
 replace hw := Below.after hw hb
 clear hb
 go_wp2_with (first | (refine wpList_load_want rfl 25 _ rfl (w.heap.size) rfl 25 (kb N) (0, 0) _ rp0 Tryd.underlying25 rfl (kb_info _) ?_) | (refine wpList_load_want rfl 30 _ rfl (w.heap.size + 1) rfl 30 (sg R S) (0, 0) _ rp1 Tryd.underlying30 rfl (sg_infoG _ _) ?_) | (refine wpList_load_want rfl 25 _ rfl (g7) rfl 25 (kb R) (0, 0) _ rl7 Tryd.underlying25 rfl (kb_info _) ?_) | (refine wpList_load_want rfl 25 _ rfl (g7 + 1) rfl 25 (kb S) (0, 0) _ rl8 Tryd.underlying25 rfl (kb_info _) ?_) | fail)
 refine (cP.at f4.1.1).mono ?_
 rintro e_ w4 ⟨rfl, hb⟩
 replace rp0 := keep hb rp0
 replace rp1 := keep hb rp1
 replace rl7 := keep hb rl7
 replace rl8 := keep hb rl8
 replace f4 := f4.below hb
 replace hC := hC.keep hb
 replace hw := Below.after hw hb
 clear hb
 go_wp2_with (first | (refine wpList_store_row rfl 45 _ _ rfl (w4.heap.size) xp rfl rfl 45 pz (hp1_0 w4 _) hp.info (pt_zero.size.trans hp.size.symm) hp.one ?_; rw [setRow_alloc_new _ _ _ _ _ _ (by simp)]; refine wpList_stay ?_) | fail)
 unfold WpStay
 try simp only [Act.put]
 have rl10 : (w4.alloc (.cells xp 45)).heap[w4.heap.size]? = some (.cells xp 45 (0, 0)) := hp1_0 w4 _
 have hb : Below w4.heap.size w4 (w4.alloc (.cells xp 45)) := ((Below.refl _ _).alloc (Nat.le_refl _) _)
 generalize (w4.alloc (.cells xp 45)) = w5 at *
 have lt_g10_0 := lt_of_row rp0
 have lt_g10_1 := lt_of_row rp1
 have lt_g10_2 := lt_of_row rl7
 have lt_g10_3 := lt_of_row rl8
 have sz_g10 := hw.size
 replace rp0 := keep hb rp0
 replace rp1 := keep hb rp1
 replace rl7 := keep hb rl7
 replace rl8 := keep hb rl8
 replace f4 := f4.below hb
 replace hC := hC.keep hb
 replace hw := Below.after hw hb
 clear hb
 generalize w4.heap.size = g10 at *
 clear w4
 go_wp2_with (first | (refine wpList_load_want rfl 25 _ rfl (w.heap.size) rfl 25 (kb N) (0, 0) _ rp0 Tryd.underlying25 rfl (kb_info _) ?_) | (refine wpList_load_want rfl 30 _ rfl (w.heap.size + 1) rfl 30 (sg R S) (0, 0) _ rp1 Tryd.underlying30 rfl (sg_infoG _ _) ?_) | (refine wpList_load_want rfl 25 _ rfl (g7) rfl 25 (kb R) (0, 0) _ rl7 Tryd.underlying25 rfl (kb_info _) ?_) | (refine wpList_load_want rfl 25 _ rfl (g7 + 1) rfl 25 (kb S) (0, 0) _ rl8 Tryd.underlying25 rfl (kb_info _) ?_) | (refine wpList_load_want rfl 45 _ rfl (g10) rfl 45 xp (0, 0) _ rl10 Tryd.underlying45 rfl hp.info ?_) | fail)
 refine (cWh.at f4.2).mono ?_
 rintro e_ w6 ⟨rfl, hb⟩
 replace rp0 := keep hb rp0
 replace rp1 := keep hb rp1
 replace rl7 := keep hb rl7
 replace rl8 := keep hb rl8
 replace rl10 := keep hb rl10
 replace f4 := f4.below hb
 replace hC := hC.keep hb
 replace hw := Below.after hw hb
 clear hb
 go_wp2_with (first | (refine wpList_store_row rfl 54 _ _ rfl (w6.heap.size) xn rfl rfl 54 (wd 0) (hp1_0 w6 _) on.infoS ((wd_size _).trans on.1.symm) on.2 ?_; rw [setRow_alloc_new _ _ _ _ _ _ (by simp)]; refine wpList_stay ?_) | fail)
 unfold WpStay
 try simp only [Act.put]
 have rl12 : (w6.alloc (.cells xn 54)).heap[w6.heap.size]? = some (.cells xn 54 (0, 0)) := hp1_0 w6 _
 have hb : Below w6.heap.size w6 (w6.alloc (.cells xn 54)) := ((Below.refl _ _).alloc (Nat.le_refl _) _)
 generalize (w6.alloc (.cells xn 54)) = w7 at *
 have lt_g12_0 := lt_of_row rp0
 have lt_g12_1 := lt_of_row rp1
 have lt_g12_2 := lt_of_row rl7
 have lt_g12_3 := lt_of_row rl8
 have lt_g12_4 := lt_of_row rl10
 have sz_g12 := hw.size
 replace rp0 := keep hb rp0
 replace rp1 := keep hb rp1
 replace rl7 := keep hb rl7
 replace rl8 := keep hb rl8
 replace rl10 := keep hb rl10
 replace f4 := f4.below hb
 replace hC := hC.keep hb
 replace hw := Below.after hw hb
 clear hb
 generalize w6.heap.size = g12 at *
 clear w6
 clear rp1 rl8
 rcases hcase with ⟨rfl, rfl⟩ | ⟨rfl, rfl, rfl⟩ | ⟨rfl, rfl, rfl, rfl⟩ | ⟨rfl, rfl, rfl, hE⟩
 ·skip
  go_wp2_with (first | (refine wpList_load_want rfl 25 _ rfl (w.heap.size) rfl 25 (kb N) (0, 0) _ rp0 Tryd.underlying25 rfl (kb_info _) ?_) | (refine wpList_load_want rfl 25 _ rfl (g7) rfl 25 (kb R) (0, 0) _ rl7 Tryd.underlying25 rfl (kb_info _) ?_) | (refine wpList_load_want rfl 45 _ rfl (g10) rfl 45 xp (0, 0) _ rl10 Tryd.underlying45 rfl hp.info ?_) | (refine wpList_load_want rfl 54 _ rfl (g12) rfl 54 xn (0, 0) _ rl12 Tryd.underlying54 rfl on.infoS ?_) | fail)
  go_ret
  exact ⟨rfl, hw⟩
 ·skip
  go_wp2_with (first | (refine wpList_load_want rfl 25 _ rfl (w.heap.size) rfl 25 (kb N) (0, 0) _ rp0 Tryd.underlying25 rfl (kb_info _) ?_) | (refine wpList_load_want rfl 25 _ rfl (g7) rfl 25 (kb R) (0, 0) _ rl7 Tryd.underlying25 rfl (kb_info _) ?_) | (refine wpList_load_want rfl 45 _ rfl (g10) rfl 45 xp (0, 0) _ rl10 Tryd.underlying45 rfl hp.info ?_) | (refine wpList_load_want rfl 54 _ rfl (g12) rfl 54 xn (0, 0) _ rl12 Tryd.underlying54 rfl on.infoS ?_) | fail)
  refine (cSm.at f4.four).mono ?_
  rintro e_ w8 ⟨rfl, hb⟩
  replace rp0 := keep hb rp0
  replace rl7 := keep hb rl7
  replace rl10 := keep hb rl10
  replace rl12 := keep hb rl12
  replace f4 := f4.below hb
  replace hC := hC.keep hb
  replace hw := Below.after hw hb
  clear hb
  go_wp2_with (fail)
  go_ret
  exact ⟨rfl, hw⟩
 ·skip
  go_wp2_with (first | (refine wpList_load_want rfl 25 _ rfl (w.heap.size) rfl 25 (kb N) (0, 0) _ rp0 Tryd.underlying25 rfl (kb_info _) ?_) | (refine wpList_load_want rfl 25 _ rfl (g7) rfl 25 (kb R) (0, 0) _ rl7 Tryd.underlying25 rfl (kb_info _) ?_) | (refine wpList_load_want rfl 45 _ rfl (g10) rfl 45 xp (0, 0) _ rl10 Tryd.underlying45 rfl hp.info ?_) | (refine wpList_load_want rfl 54 _ rfl (g12) rfl 54 xn (0, 0) _ rl12 Tryd.underlying54 rfl on.infoS ?_) | fail)
  refine (cSm.at f4.four).mono ?_
  rintro e_ w8 ⟨rfl, hb⟩
  replace rp0 := keep hb rp0
  replace rl7 := keep hb rl7
  replace rl10 := keep hb rl10
  replace rl12 := keep hb rl12
  replace f4 := f4.below hb
  replace hC := hC.keep hb
  replace hw := Below.after hw hb
  clear hb
  go_wp2_with (fail)
  go_ret
  exact ⟨rfl, hw⟩
 ·skip
  go_wp2_with (first | (refine wpList_load_want rfl 25 _ rfl (w.heap.size) rfl 25 (kb N) (0, 0) _ rp0 Tryd.underlying25 rfl (kb_info _) ?_) | (refine wpList_load_want rfl 25 _ rfl (g7) rfl 25 (kb R) (0, 0) _ rl7 Tryd.underlying25 rfl (kb_info _) ?_) | (refine wpList_load_want rfl 45 _ rfl (g10) rfl 45 xp (0, 0) _ rl10 Tryd.underlying45 rfl hp.info ?_) | (refine wpList_load_want rfl 54 _ rfl (g12) rfl 54 xn (0, 0) _ rl12 Tryd.underlying54 rfl on.infoS ?_) | fail)
  refine (cSm.at f4.four).mono ?_
  rintro e_ w8 ⟨rfl, hb⟩
  replace rp0 := keep hb rp0
  replace rl7 := keep hb rl7
  replace rl10 := keep hb rl10
  replace rl12 := keep hb rl12
  replace f4 := f4.below hb
  replace hC := hC.keep hb
  replace hw := Below.after hw hb
  clear hb
  go_wp2_with (fail)
  go_cut [14] from 15 to 80 (fun u_ wx => ∃ gx, u_ = .pointer (some ⟨gx, 0, none⟩) ∧ w.heap.size < gx ∧ g7 < gx ∧ g10 < gx ∧ g12 < gx ∧ w.heap.size ≤ gx ∧ wx.heap[w.heap.size]? = some (.cells (kb N) 25 (0, 0)) ∧ wx.heap[g7]? = some (.cells (kb R) 25 (0, 0)) ∧ wx.heap[g10]? = some (.cells xp 45 (0, 0)) ∧ wx.heap[g12]? = some (.cells xn 54 (0, 0)) ∧ wx.heap[gx]? = some (.cells (sg K Q) 37 (0, 0)) ∧ Sgn wx ∧ BysK wx (.slice bo bl bc) b ∧ Below w.heap.size w wx)
  case first =>
   have hb : Below w8.heap.size w8 w8.drew := below_drN (Below.refl _ _) 1
   replace rp0 := keep hb rp0
   replace rl7 := keep hb rl7
   replace rl10 := keep hb rl10
   replace rl12 := keep hb rl12
   replace f4 := f4.below hb
   replace hC := hC.keep hb
   replace hw := Below.after hw hb
   clear hb
   refine wp_region_noPanic ?_
   refine wp_region_held (S := fun _ => True) (by kernel_rfl) ?_
   change wpAnyH _ _ _ _ _ _ _ _ (World.drew _)
   generalize w8.drew = wd37 at *
   refine wpAnyH_take (i := 1) (v := .slice (some ⟨g7, 0, none⟩) 32 32) rfl (by kernel_rfl) (by kernel_rfl) (by kernel_rfl) (fun _ _ _ h => h) (Or.inl ⟨by rfl, ?y38⟩) (trivial) ?r38
   case y38 =>
    intro w_ hS_
    go_simp
    try with_reducible rfl
   simp only [Act.put, ZPa, ZPb, ZPc, ZPd, ZPe, ZPf]
   refine wpAnyH_take (i := 3) (v := .slice (some ⟨w.heap.size, 0, none⟩) 32 32) rfl (by kernel_rfl) (by kernel_rfl) (by kernel_rfl) (fun _ _ _ h => h) (Or.inl ⟨by rfl, ?y39⟩) (trivial) ?r39
   case y39 =>
    intro w_ hS_
    go_simp
    try with_reducible rfl
   simp only [Act.put, ZPa, ZPb, ZPc, ZPd, ZPe, ZPf]
   refine wpAnyH_take (i := 5) (v := ?v40) rfl (by kernel_rfl) (by kernel_rfl) (by kernel_rfl) (fun _ _ _ h => h) (Or.inl ⟨by rfl, ?y40⟩) (trivial) ?r40
   case y40 =>
    intro w_ hS_
    go_simp
    try with_reducible rfl
   simp only [Act.put, ZPa, ZPb, ZPc, ZPd, ZPe, ZPf]
   refine eH_two (j := 0) (k := 8) (fuel := 6) (by kernel_rfl) rfl rfl (by kernel_rfl) (by kernel_rfl) (fun K_ hK_ => ?_) (fun K_ hK_ => ?_)
   ·skip
    refine e_world_op (.slice (some ⟨wd37.heap.size, 0, none⟩) 0 0) (wd37.alloc (.cells #[] 5)) (by kernel_rfl) ?_
    have hb : Below wd37.heap.size wd37 (wd37.alloc (.cells #[] 5)) := (Below.refl _ _).alloc (Nat.le_refl _) _
    have hO := Wi.own_empty wd37
    have hbs := hb.size
    have hnB := hw.size
    replace rp0 := keep hb rp0
    replace rl7 := keep hb rl7
    replace rl10 := keep hb rl10
    replace rl12 := keep hb rl12
    replace f4 := f4.below hb
    replace hC := hC.keep hb
    replace hw := Below.after hw hb
    clear hb
    refine hK_ _ _ trivial ?_
    simp only [Act.put, ZPa, ZPc, ZPd, ZPe, ZPf]
    clear hK_
    generalize (wd37.alloc (.cells #[] 5)) = wq41 at *
    generalize wd37.heap.size = gB41 at *
    refine eH_two (j := 2) (k := 8) (fuel := 5) (by kernel_rfl) rfl rfl (by kernel_rfl) (by kernel_rfl) (fun K_ hK_ => ?_) (fun K_ hK_ => ?_)
    ·skip
     refine wp_append_B _ _ rfl gB41 _ ([]) rfl hO (some ⟨g7, 0, none⟩) 32 32 (b32 R) rfl (bysK_row rl7).1 (fun e => by cases e) (by simp [b32] <;> omega) hbs (fun v42 wq42 hO_ hQ_ hs_ hT_ => ?_)
     replace hw := hQ_ _ _ hw hnB
     replace hO := hO_
     replace hbs := hs_
     clear hO_ hQ_ hs_
     replace rp0 := hT_ _ _ _ _ (by decide) rp0
     replace rl7 := hT_ _ _ _ _ (by decide) rl7
     replace rl10 := hT_ _ _ _ _ (by decide) rl10
     replace rl12 := hT_ _ _ _ _ (by decide) rl12
     replace f4 := hS.below hw
     replace hC := hC0.keep hw
     clear hT_
     refine hK_ _ _ trivial ?_
     simp only [Act.put, ZPa, ZPb, ZPc, ZPd, ZPe, ZPf]
     clear hK_
     refine eH_two (j := 4) (k := 8) (fuel := 4) (by kernel_rfl) rfl rfl (by kernel_rfl) (by kernel_rfl) (fun K_ hK_ => ?_) (fun K_ hK_ => ?_)
     ·skip
      refine wp_append_B _ _ rfl gB41 _ ([] ++ b32 R) rfl hO (some ⟨w.heap.size, 0, none⟩) 32 32 (b32 N) rfl (bysK_row rp0).1 (fun e => by cases e) (by simp [b32] <;> omega) hbs (fun v43 wq43 hO_ hQ_ hs_ hT_ => ?_)
      replace hw := hQ_ _ _ hw hnB
      replace hO := hO_
      replace hbs := hs_
      clear hO_ hQ_ hs_
      replace rp0 := hT_ _ _ _ _ (by decide) rp0
      replace rl7 := hT_ _ _ _ _ (by decide) rl7
      replace rl10 := hT_ _ _ _ _ (by decide) rl10
      replace rl12 := hT_ _ _ _ _ (by decide) rl12
      replace f4 := hS.below hw
      replace hC := hC0.keep hw
      clear hT_
      refine hK_ _ _ trivial ?_
      simp only [Act.put, ZPa, ZPb, ZPc, ZPd, ZPe, ZPf]
      clear hK_
      refine eH_two (j := 6) (k := 8) (fuel := 3) (by kernel_rfl) rfl rfl (by kernel_rfl) (by kernel_rfl) (fun K_ hK_ => ?_) (fun K_ hK_ => ?_)
      ·skip
       refine wp_append_B _ _ rfl gB41 _ ([] ++ b32 R ++ b32 N) rfl hO bo bl bc (b) rfl hC.1 hnone (by simp [b32] <;> omega) hbs (fun v44 wq44 hO_ hQ_ hs_ hT_ => ?_)
       replace hw := hQ_ _ _ hw hnB
       replace hO := hO_
       replace hbs := hs_
       clear hO_ hQ_ hs_
       replace rp0 := hT_ _ _ _ _ (by decide) rp0
       replace rl7 := hT_ _ _ _ _ (by decide) rl7
       replace rl10 := hT_ _ _ _ _ (by decide) rl10
       replace rl12 := hT_ _ _ _ _ (by decide) rl12
       replace f4 := hS.below hw
       replace hC := hC0.keep hw
       clear hT_
       refine hK_ _ _ trivial ?_
       simp only [Act.put, ZPa, ZPb, ZPc, ZPd, ZPe, ZPf]
       clear hK_
       refine eH_two (j := 7) (k := 8) (fuel := 2) (by kernel_rfl) rfl rfl (by kernel_rfl) (by kernel_rfl) (fun K_ hK_ => ?_) (fun K_ hK_ => ?_)
       ·skip
        refine wp_call_ex (f := 17) (by kernel_rfl) (ex1e (cW_ _ _ _ hO)) (fun v_ wq45 hX_ => ?_)
        obtain ⟨rfl, hb⟩ := hX_
        clear hO hbs
        replace rp0 := keep hb rp0
        replace rl7 := keep hb rl7
        replace rl10 := keep hb rl10
        replace rl12 := keep hb rl12
        replace f4 := f4.below hb
        replace hC := hC.keep hb
        replace hw := Below.after hw hb
        clear hb
        refine hK_ _ _ (trivial) ?_
        simp only [Act.put, ZPa, ZPb, ZPc, ZPd, ZPe, ZPf]
        clear hK_
        refine eH_one (k := 8) (fuel := 1) (by kernel_rfl) rfl (by kernel_rfl) (fun K_ hK_ => ?_)
        refine e_world_op (.pointer (some ⟨wq45.heap.size, 0, none⟩)) (wq45.alloc (.cells (Wi.irow .u8 (Wi.zr 64)) 37)) (by kernel_rfl) ?_
        have hb : Below wq45.heap.size wq45 (wq45.alloc (.cells (Wi.irow .u8 (Wi.zr 64)) 37)) := (Below.refl _ _).alloc (Nat.le_refl _) _
        have rg46 := hp1_0 wq45 (.cells (Wi.irow .u8 (Wi.zr 64)) 37)
        have lt_g46_0 := lt_of_row rp0
        have lt_g46_1 := lt_of_row rl7
        have lt_g46_2 := lt_of_row rl10
        have lt_g46_3 := lt_of_row rl12
        have sz_g46 := hw.size
        replace rp0 := keep hb rp0
        replace rl7 := keep hb rl7
        replace rl10 := keep hb rl10
        replace rl12 := keep hb rl12
        replace f4 := f4.below hb
        replace hC := hC.keep hb
        replace hw := Below.after hw hb
        clear hb
        refine hK_ _ _ (trivial) ?_
        simp only [Act.put, ZPa, ZPb, ZPc, ZPd, ZPe, ZPf]
        clear hK_
        generalize (wq45.alloc (.cells (Wi.irow .u8 (Wi.zr 64)) 37)) = wq46 at *
        generalize wq45.heap.size = g46 at *
        refine eH_one (k := 9) (fuel := 0) (by kernel_rfl) rfl (by kernel_rfl) (fun K_ hK_ => ?_)
        refine wp_store_row 37 _ _ rfl (g46) (sg K Q) rfl rfl 37 _ rg46 (sg_infoW _ _) (z64_size.trans (sg_size _ _).symm) (sg_one _ _) ?_
        have hN_ := setRow_heap wq46 (g46) _ (sg K Q) _ _ rg46
        replace rp0 := (setRow_other wq46 (g46) (w.heap.size) (sg K Q) (by omega)).trans rp0
        replace rl7 := (setRow_other wq46 (g46) (g7) (sg K Q) (by omega)).trans rl7
        replace rl10 := (setRow_other wq46 (g46) (g10) (sg K Q) (by omega)).trans rl10
        replace rl12 := (setRow_other wq46 (g46) (g12) (sg K Q) (by omega)).trans rl12
        replace hw := below_setRow hw (show w.heap.size ≤ g46 by omega) (sg K Q)
        replace f4 := hS.below hw
        replace hC := hC0.keep hw
        generalize (wq46.setRow (g46) (sg K Q)) = wq47 at *
        clear rg46
        have rg46 := hN_
        clear hN_
        refine hK_ _ _ (trivial) ?_
        simp only [Act.put]
        clear hK_
        refine wpAnyH_done (by kernel_rfl) ?_ _
        refine NoPanic.normal ?_
        go_wp2_with (fail)
        go_meet
        case rel => exact ⟨g46, rfl, by omega, by omega, by omega, by omega, by omega, rp0, rl7, rl10, rl12, rg46, f4, hC, hw⟩
       ·skip
        refine e_world_op (.pointer (some ⟨wq44.heap.size, 0, none⟩)) (wq44.alloc (.cells (Wi.irow .u8 (Wi.zr 64)) 37)) (by kernel_rfl) ?_
        have hb : Below wq44.heap.size wq44 (wq44.alloc (.cells (Wi.irow .u8 (Wi.zr 64)) 37)) := (Below.refl _ _).alloc (Nat.le_refl _) _
        have rg48 := hp1_0 wq44 (.cells (Wi.irow .u8 (Wi.zr 64)) 37)
        have lt_g48_0 := lt_of_row rp0
        have lt_g48_1 := lt_of_row rl7
        have lt_g48_2 := lt_of_row rl10
        have lt_g48_3 := lt_of_row rl12
        have sz_g48 := hw.size
        replace rp0 := keep hb rp0
        replace rl7 := keep hb rl7
        replace rl10 := keep hb rl10
        replace rl12 := keep hb rl12
        replace f4 := f4.below hb
        replace hC := hC.keep hb
        replace hO := Wi.own_keep hO hb
        replace hbs := Nat.le_trans hbs hb.size
        replace hw := Below.after hw hb
        clear hb
        refine hK_ _ _ (trivial) ?_
        simp only [Act.put, ZPa, ZPb, ZPc, ZPd, ZPe, ZPf]
        clear hK_
        generalize (wq44.alloc (.cells (Wi.irow .u8 (Wi.zr 64)) 37)) = wq48 at *
        generalize wq44.heap.size = g48 at *
        refine eH_one (k := 7) (fuel := 1) (by kernel_rfl) rfl (by kernel_rfl) (fun K_ hK_ => ?_)
        refine wp_call_ex (f := 17) (by kernel_rfl) (ex1e (cW_ _ _ _ hO)) (fun v_ wq49 hX_ => ?_)
        obtain ⟨rfl, hb⟩ := hX_
        clear hO hbs
        replace rp0 := keep hb rp0
        replace rl7 := keep hb rl7
        replace rl10 := keep hb rl10
        replace rl12 := keep hb rl12
        replace rg48 := keep hb rg48
        replace f4 := f4.below hb
        replace hC := hC.keep hb
        replace hw := Below.after hw hb
        clear hb
        refine hK_ _ _ (trivial) ?_
        simp only [Act.put, ZPa, ZPb, ZPc, ZPd, ZPe, ZPf]
        clear hK_
        refine eH_one (k := 9) (fuel := 0) (by kernel_rfl) rfl (by kernel_rfl) (fun K_ hK_ => ?_)
        refine wp_store_row 37 _ _ rfl (g48) (sg K Q) rfl rfl 37 _ rg48 (sg_infoW _ _) (z64_size.trans (sg_size _ _).symm) (sg_one _ _) ?_
        have hN_ := setRow_heap wq49 (g48) _ (sg K Q) _ _ rg48
        replace rp0 := (setRow_other wq49 (g48) (w.heap.size) (sg K Q) (by omega)).trans rp0
        replace rl7 := (setRow_other wq49 (g48) (g7) (sg K Q) (by omega)).trans rl7
        replace rl10 := (setRow_other wq49 (g48) (g10) (sg K Q) (by omega)).trans rl10
        replace rl12 := (setRow_other wq49 (g48) (g12) (sg K Q) (by omega)).trans rl12
        replace hw := below_setRow hw (show w.heap.size ≤ g48 by omega) (sg K Q)
        replace f4 := hS.below hw
        replace hC := hC0.keep hw
        generalize (wq49.setRow (g48) (sg K Q)) = wq50 at *
        clear rg48
        have rg48 := hN_
        clear hN_
        refine hK_ _ _ (trivial) ?_
        simp only [Act.put]
        clear hK_
        refine wpAnyH_done (by kernel_rfl) ?_ _
        refine NoPanic.normal ?_
        go_wp2_with (fail)
        go_meet
        case rel => exact ⟨g48, rfl, by omega, by omega, by omega, by omega, by omega, rp0, rl7, rl10, rl12, rg48, f4, hC, hw⟩
      ·skip
       refine e_world_op (.pointer (some ⟨wq43.heap.size, 0, none⟩)) (wq43.alloc (.cells (Wi.irow .u8 (Wi.zr 64)) 37)) (by kernel_rfl) ?_
       have hb : Below wq43.heap.size wq43 (wq43.alloc (.cells (Wi.irow .u8 (Wi.zr 64)) 37)) := (Below.refl _ _).alloc (Nat.le_refl _) _
       have rg51 := hp1_0 wq43 (.cells (Wi.irow .u8 (Wi.zr 64)) 37)
       have lt_g51_0 := lt_of_row rp0
       have lt_g51_1 := lt_of_row rl7
       have lt_g51_2 := lt_of_row rl10
       have lt_g51_3 := lt_of_row rl12
       have sz_g51 := hw.size
       replace rp0 := keep hb rp0
       replace rl7 := keep hb rl7
       replace rl10 := keep hb rl10
       replace rl12 := keep hb rl12
       replace f4 := f4.below hb
       replace hC := hC.keep hb
       replace hO := Wi.own_keep hO hb
       replace hbs := Nat.le_trans hbs hb.size
       replace hw := Below.after hw hb
       clear hb
       refine hK_ _ _ (trivial) ?_
       simp only [Act.put, ZPa, ZPb, ZPc, ZPd, ZPe, ZPf]
       clear hK_
       generalize (wq43.alloc (.cells (Wi.irow .u8 (Wi.zr 64)) 37)) = wq51 at *
       generalize wq43.heap.size = g51 at *
       refine eH_one (k := 6) (fuel := 2) (by kernel_rfl) rfl (by kernel_rfl) (fun K_ hK_ => ?_)
       refine wp_append_B _ _ rfl gB41 _ ([] ++ b32 R ++ b32 N) rfl hO bo bl bc (b) rfl hC.1 hnone (by simp [b32] <;> omega) hbs (fun v52 wq52 hO_ hQ_ hs_ hT_ => ?_)
       replace hw := hQ_ _ _ hw hnB
       replace hO := hO_
       replace hbs := hs_
       clear hO_ hQ_ hs_
       replace rp0 := hT_ _ _ _ _ (by decide) rp0
       replace rl7 := hT_ _ _ _ _ (by decide) rl7
       replace rl10 := hT_ _ _ _ _ (by decide) rl10
       replace rl12 := hT_ _ _ _ _ (by decide) rl12
       replace rg51 := hT_ _ _ _ _ (by decide) rg51
       replace f4 := hS.below hw
       replace hC := hC0.keep hw
       clear hT_
       refine hK_ _ _ trivial ?_
       simp only [Act.put, ZPa, ZPb, ZPc, ZPd, ZPe, ZPf]
       clear hK_
       refine eH_one (k := 7) (fuel := 1) (by kernel_rfl) rfl (by kernel_rfl) (fun K_ hK_ => ?_)
       refine wp_call_ex (f := 17) (by kernel_rfl) (ex1e (cW_ _ _ _ hO)) (fun v_ wq53 hX_ => ?_)
       obtain ⟨rfl, hb⟩ := hX_
       clear hO hbs
       replace rp0 := keep hb rp0
       replace rl7 := keep hb rl7
       replace rl10 := keep hb rl10
       replace rl12 := keep hb rl12
       replace rg51 := keep hb rg51
       replace f4 := f4.below hb
       replace hC := hC.keep hb
       replace hw := Below.after hw hb
       clear hb
       refine hK_ _ _ (trivial) ?_
       simp only [Act.put, ZPa, ZPb, ZPc, ZPd, ZPe, ZPf]
       clear hK_
       refine eH_one (k := 9) (fuel := 0) (by kernel_rfl) rfl (by kernel_rfl) (fun K_ hK_ => ?_)
       refine wp_store_row 37 _ _ rfl (g51) (sg K Q) rfl rfl 37 _ rg51 (sg_infoW _ _) (z64_size.trans (sg_size _ _).symm) (sg_one _ _) ?_
       have hN_ := setRow_heap wq53 (g51) _ (sg K Q) _ _ rg51
       replace rp0 := (setRow_other wq53 (g51) (w.heap.size) (sg K Q) (by omega)).trans rp0
       replace rl7 := (setRow_other wq53 (g51) (g7) (sg K Q) (by omega)).trans rl7
       replace rl10 := (setRow_other wq53 (g51) (g10) (sg K Q) (by omega)).trans rl10
       replace rl12 := (setRow_other wq53 (g51) (g12) (sg K Q) (by omega)).trans rl12
       replace hw := below_setRow hw (show w.heap.size ≤ g51 by omega) (sg K Q)
       replace f4 := hS.below hw
       replace hC := hC0.keep hw
       generalize (wq53.setRow (g51) (sg K Q)) = wq54 at *
       clear rg51
       have rg51 := hN_
       clear hN_
       refine hK_ _ _ (trivial) ?_
       simp only [Act.put]
       clear hK_
       refine wpAnyH_done (by kernel_rfl) ?_ _
       refine NoPanic.normal ?_
       go_wp2_with (fail)
       go_meet
       case rel => exact ⟨g51, rfl, by omega, by omega, by omega, by omega, by omega, rp0, rl7, rl10, rl12, rg51, f4, hC, hw⟩
     ·skip
      refine e_world_op (.pointer (some ⟨wq42.heap.size, 0, none⟩)) (wq42.alloc (.cells (Wi.irow .u8 (Wi.zr 64)) 37)) (by kernel_rfl) ?_
      have hb : Below wq42.heap.size wq42 (wq42.alloc (.cells (Wi.irow .u8 (Wi.zr 64)) 37)) := (Below.refl _ _).alloc (Nat.le_refl _) _
      have rg55 := hp1_0 wq42 (.cells (Wi.irow .u8 (Wi.zr 64)) 37)
      have lt_g55_0 := lt_of_row rp0
      have lt_g55_1 := lt_of_row rl7
      have lt_g55_2 := lt_of_row rl10
      have lt_g55_3 := lt_of_row rl12
      have sz_g55 := hw.size
      replace rp0 := keep hb rp0
      replace rl7 := keep hb rl7
      replace rl10 := keep hb rl10
      replace rl12 := keep hb rl12
      replace f4 := f4.below hb
      replace hC := hC.keep hb
      replace hO := Wi.own_keep hO hb
      replace hbs := Nat.le_trans hbs hb.size
      replace hw := Below.after hw hb
      clear hb
      refine hK_ _ _ (trivial) ?_
      simp only [Act.put, ZPa, ZPb, ZPc, ZPd, ZPe, ZPf]
      clear hK_
      generalize (wq42.alloc (.cells (Wi.irow .u8 (Wi.zr 64)) 37)) = wq55 at *
      generalize wq42.heap.size = g55 at *
      refine eH_one (k := 4) (fuel := 3) (by kernel_rfl) rfl (by kernel_rfl) (fun K_ hK_ => ?_)
      refine wp_append_B _ _ rfl gB41 _ ([] ++ b32 R) rfl hO (some ⟨w.heap.size, 0, none⟩) 32 32 (b32 N) rfl (bysK_row rp0).1 (fun e => by cases e) (by simp [b32] <;> omega) hbs (fun v56 wq56 hO_ hQ_ hs_ hT_ => ?_)
      replace hw := hQ_ _ _ hw hnB
      replace hO := hO_
      replace hbs := hs_
      clear hO_ hQ_ hs_
      replace rp0 := hT_ _ _ _ _ (by decide) rp0
      replace rl7 := hT_ _ _ _ _ (by decide) rl7
      replace rl10 := hT_ _ _ _ _ (by decide) rl10
      replace rl12 := hT_ _ _ _ _ (by decide) rl12
      replace rg55 := hT_ _ _ _ _ (by decide) rg55
      replace f4 := hS.below hw
      replace hC := hC0.keep hw
      clear hT_
      refine hK_ _ _ trivial ?_
      simp only [Act.put, ZPa, ZPb, ZPc, ZPd, ZPe, ZPf]
      clear hK_
      refine eH_one (k := 6) (fuel := 2) (by kernel_rfl) rfl (by kernel_rfl) (fun K_ hK_ => ?_)
      refine wp_append_B _ _ rfl gB41 _ ([] ++ b32 R ++ b32 N) rfl hO bo bl bc (b) rfl hC.1 hnone (by simp [b32] <;> omega) hbs (fun v57 wq57 hO_ hQ_ hs_ hT_ => ?_)
      replace hw := hQ_ _ _ hw hnB
      replace hO := hO_
      replace hbs := hs_
      clear hO_ hQ_ hs_
      replace rp0 := hT_ _ _ _ _ (by decide) rp0
      replace rl7 := hT_ _ _ _ _ (by decide) rl7
      replace rl10 := hT_ _ _ _ _ (by decide) rl10
      replace rl12 := hT_ _ _ _ _ (by decide) rl12
      replace rg55 := hT_ _ _ _ _ (by decide) rg55
      replace f4 := hS.below hw
      replace hC := hC0.keep hw
      clear hT_
      refine hK_ _ _ trivial ?_
      simp only [Act.put, ZPa, ZPb, ZPc, ZPd, ZPe, ZPf]
      clear hK_
      refine eH_one (k := 7) (fuel := 1) (by kernel_rfl) rfl (by kernel_rfl) (fun K_ hK_ => ?_)
      refine wp_call_ex (f := 17) (by kernel_rfl) (ex1e (cW_ _ _ _ hO)) (fun v_ wq58 hX_ => ?_)
      obtain ⟨rfl, hb⟩ := hX_
      clear hO hbs
      replace rp0 := keep hb rp0
      replace rl7 := keep hb rl7
      replace rl10 := keep hb rl10
      replace rl12 := keep hb rl12
      replace rg55 := keep hb rg55
      replace f4 := f4.below hb
      replace hC := hC.keep hb
      replace hw := Below.after hw hb
      clear hb
      refine hK_ _ _ (trivial) ?_
      simp only [Act.put, ZPa, ZPb, ZPc, ZPd, ZPe, ZPf]
      clear hK_
      refine eH_one (k := 9) (fuel := 0) (by kernel_rfl) rfl (by kernel_rfl) (fun K_ hK_ => ?_)
      refine wp_store_row 37 _ _ rfl (g55) (sg K Q) rfl rfl 37 _ rg55 (sg_infoW _ _) (z64_size.trans (sg_size _ _).symm) (sg_one _ _) ?_
      have hN_ := setRow_heap wq58 (g55) _ (sg K Q) _ _ rg55
      replace rp0 := (setRow_other wq58 (g55) (w.heap.size) (sg K Q) (by omega)).trans rp0
      replace rl7 := (setRow_other wq58 (g55) (g7) (sg K Q) (by omega)).trans rl7
      replace rl10 := (setRow_other wq58 (g55) (g10) (sg K Q) (by omega)).trans rl10
      replace rl12 := (setRow_other wq58 (g55) (g12) (sg K Q) (by omega)).trans rl12
      replace hw := below_setRow hw (show w.heap.size ≤ g55 by omega) (sg K Q)
      replace f4 := hS.below hw
      replace hC := hC0.keep hw
      generalize (wq58.setRow (g55) (sg K Q)) = wq59 at *
      clear rg55
      have rg55 := hN_
      clear hN_
      refine hK_ _ _ (trivial) ?_
      simp only [Act.put]
      clear hK_
      refine wpAnyH_done (by kernel_rfl) ?_ _
      refine NoPanic.normal ?_
      go_wp2_with (fail)
      go_meet
      case rel => exact ⟨g55, rfl, by omega, by omega, by omega, by omega, by omega, rp0, rl7, rl10, rl12, rg55, f4, hC, hw⟩
    ·skip
     refine e_world_op (.pointer (some ⟨wq41.heap.size, 0, none⟩)) (wq41.alloc (.cells (Wi.irow .u8 (Wi.zr 64)) 37)) (by kernel_rfl) ?_
     have hb : Below wq41.heap.size wq41 (wq41.alloc (.cells (Wi.irow .u8 (Wi.zr 64)) 37)) := (Below.refl _ _).alloc (Nat.le_refl _) _
     have rg60 := hp1_0 wq41 (.cells (Wi.irow .u8 (Wi.zr 64)) 37)
     have lt_g60_0 := lt_of_row rp0
     have lt_g60_1 := lt_of_row rl7
     have lt_g60_2 := lt_of_row rl10
     have lt_g60_3 := lt_of_row rl12
     have sz_g60 := hw.size
     replace rp0 := keep hb rp0
     replace rl7 := keep hb rl7
     replace rl10 := keep hb rl10
     replace rl12 := keep hb rl12
     replace f4 := f4.below hb
     replace hC := hC.keep hb
     replace hO := Wi.own_keep hO hb
     replace hbs := Nat.le_trans hbs hb.size
     replace hw := Below.after hw hb
     clear hb
     refine hK_ _ _ (trivial) ?_
     simp only [Act.put, ZPa, ZPb, ZPc, ZPd, ZPe, ZPf]
     clear hK_
     generalize (wq41.alloc (.cells (Wi.irow .u8 (Wi.zr 64)) 37)) = wq60 at *
     generalize wq41.heap.size = g60 at *
     refine eH_one (k := 2) (fuel := 4) (by kernel_rfl) rfl (by kernel_rfl) (fun K_ hK_ => ?_)
     refine wp_append_B _ _ rfl gB41 _ ([]) rfl hO (some ⟨g7, 0, none⟩) 32 32 (b32 R) rfl (bysK_row rl7).1 (fun e => by cases e) (by simp [b32] <;> omega) hbs (fun v61 wq61 hO_ hQ_ hs_ hT_ => ?_)
     replace hw := hQ_ _ _ hw hnB
     replace hO := hO_
     replace hbs := hs_
     clear hO_ hQ_ hs_
     replace rp0 := hT_ _ _ _ _ (by decide) rp0
     replace rl7 := hT_ _ _ _ _ (by decide) rl7
     replace rl10 := hT_ _ _ _ _ (by decide) rl10
     replace rl12 := hT_ _ _ _ _ (by decide) rl12
     replace rg60 := hT_ _ _ _ _ (by decide) rg60
     replace f4 := hS.below hw
     replace hC := hC0.keep hw
     clear hT_
     refine hK_ _ _ trivial ?_
     simp only [Act.put, ZPa, ZPb, ZPc, ZPd, ZPe, ZPf]
     clear hK_
     refine eH_one (k := 4) (fuel := 3) (by kernel_rfl) rfl (by kernel_rfl) (fun K_ hK_ => ?_)
     refine wp_append_B _ _ rfl gB41 _ ([] ++ b32 R) rfl hO (some ⟨w.heap.size, 0, none⟩) 32 32 (b32 N) rfl (bysK_row rp0).1 (fun e => by cases e) (by simp [b32] <;> omega) hbs (fun v62 wq62 hO_ hQ_ hs_ hT_ => ?_)
     replace hw := hQ_ _ _ hw hnB
     replace hO := hO_
     replace hbs := hs_
     clear hO_ hQ_ hs_
     replace rp0 := hT_ _ _ _ _ (by decide) rp0
     replace rl7 := hT_ _ _ _ _ (by decide) rl7
     replace rl10 := hT_ _ _ _ _ (by decide) rl10
     replace rl12 := hT_ _ _ _ _ (by decide) rl12
     replace rg60 := hT_ _ _ _ _ (by decide) rg60
     replace f4 := hS.below hw
     replace hC := hC0.keep hw
     clear hT_
     refine hK_ _ _ trivial ?_
     simp only [Act.put, ZPa, ZPb, ZPc, ZPd, ZPe, ZPf]
     clear hK_
     refine eH_one (k := 6) (fuel := 2) (by kernel_rfl) rfl (by kernel_rfl) (fun K_ hK_ => ?_)
     refine wp_append_B _ _ rfl gB41 _ ([] ++ b32 R ++ b32 N) rfl hO bo bl bc (b) rfl hC.1 hnone (by simp [b32] <;> omega) hbs (fun v63 wq63 hO_ hQ_ hs_ hT_ => ?_)
     replace hw := hQ_ _ _ hw hnB
     replace hO := hO_
     replace hbs := hs_
     clear hO_ hQ_ hs_
     replace rp0 := hT_ _ _ _ _ (by decide) rp0
     replace rl7 := hT_ _ _ _ _ (by decide) rl7
     replace rl10 := hT_ _ _ _ _ (by decide) rl10
     replace rl12 := hT_ _ _ _ _ (by decide) rl12
     replace rg60 := hT_ _ _ _ _ (by decide) rg60
     replace f4 := hS.below hw
     replace hC := hC0.keep hw
     clear hT_
     refine hK_ _ _ trivial ?_
     simp only [Act.put, ZPa, ZPb, ZPc, ZPd, ZPe, ZPf]
     clear hK_
     refine eH_one (k := 7) (fuel := 1) (by kernel_rfl) rfl (by kernel_rfl) (fun K_ hK_ => ?_)
     refine wp_call_ex (f := 17) (by kernel_rfl) (ex1e (cW_ _ _ _ hO)) (fun v_ wq64 hX_ => ?_)
     obtain ⟨rfl, hb⟩ := hX_
     clear hO hbs
     replace rp0 := keep hb rp0
     replace rl7 := keep hb rl7
     replace rl10 := keep hb rl10
     replace rl12 := keep hb rl12
     replace rg60 := keep hb rg60
     replace f4 := f4.below hb
     replace hC := hC.keep hb
     replace hw := Below.after hw hb
     clear hb
     refine hK_ _ _ (trivial) ?_
     simp only [Act.put, ZPa, ZPb, ZPc, ZPd, ZPe, ZPf]
     clear hK_
     refine eH_one (k := 9) (fuel := 0) (by kernel_rfl) rfl (by kernel_rfl) (fun K_ hK_ => ?_)
     refine wp_store_row 37 _ _ rfl (g60) (sg K Q) rfl rfl 37 _ rg60 (sg_infoW _ _) (z64_size.trans (sg_size _ _).symm) (sg_one _ _) ?_
     have hN_ := setRow_heap wq64 (g60) _ (sg K Q) _ _ rg60
     replace rp0 := (setRow_other wq64 (g60) (w.heap.size) (sg K Q) (by omega)).trans rp0
     replace rl7 := (setRow_other wq64 (g60) (g7) (sg K Q) (by omega)).trans rl7
     replace rl10 := (setRow_other wq64 (g60) (g10) (sg K Q) (by omega)).trans rl10
     replace rl12 := (setRow_other wq64 (g60) (g12) (sg K Q) (by omega)).trans rl12
     replace hw := below_setRow hw (show w.heap.size ≤ g60 by omega) (sg K Q)
     replace f4 := hS.below hw
     replace hC := hC0.keep hw
     generalize (wq64.setRow (g60) (sg K Q)) = wq65 at *
     clear rg60
     have rg60 := hN_
     clear hN_
     refine hK_ _ _ (trivial) ?_
     simp only [Act.put]
     clear hK_
     refine wpAnyH_done (by kernel_rfl) ?_ _
     refine NoPanic.normal ?_
     go_wp2_with (fail)
     go_meet
     case rel => exact ⟨g60, rfl, by omega, by omega, by omega, by omega, by omega, rp0, rl7, rl10, rl12, rg60, f4, hC, hw⟩
   ·skip
    refine e_world_op (.pointer (some ⟨wd37.heap.size, 0, none⟩)) (wd37.alloc (.cells (Wi.irow .u8 (Wi.zr 64)) 37)) (by kernel_rfl) ?_
    have hb : Below wd37.heap.size wd37 (wd37.alloc (.cells (Wi.irow .u8 (Wi.zr 64)) 37)) := (Below.refl _ _).alloc (Nat.le_refl _) _
    have rg66 := hp1_0 wd37 (.cells (Wi.irow .u8 (Wi.zr 64)) 37)
    have lt_g66_0 := lt_of_row rp0
    have lt_g66_1 := lt_of_row rl7
    have lt_g66_2 := lt_of_row rl10
    have lt_g66_3 := lt_of_row rl12
    have sz_g66 := hw.size
    replace rp0 := keep hb rp0
    replace rl7 := keep hb rl7
    replace rl10 := keep hb rl10
    replace rl12 := keep hb rl12
    replace f4 := f4.below hb
    replace hC := hC.keep hb
    replace hw := Below.after hw hb
    clear hb
    refine hK_ _ _ (trivial) ?_
    simp only [Act.put, ZPa, ZPb, ZPc, ZPd, ZPe, ZPf]
    clear hK_
    generalize (wd37.alloc (.cells (Wi.irow .u8 (Wi.zr 64)) 37)) = wq66 at *
    generalize wd37.heap.size = g66 at *
    refine eH_one (k := 0) (fuel := 5) (by kernel_rfl) rfl (by kernel_rfl) (fun K_ hK_ => ?_)
    refine e_world_op (.slice (some ⟨wq66.heap.size, 0, none⟩) 0 0) (wq66.alloc (.cells #[] 5)) (by kernel_rfl) ?_
    have hb : Below wq66.heap.size wq66 (wq66.alloc (.cells #[] 5)) := (Below.refl _ _).alloc (Nat.le_refl _) _
    have hO := Wi.own_empty wq66
    have hbs := hb.size
    have hnB := hw.size
    replace rp0 := keep hb rp0
    replace rl7 := keep hb rl7
    replace rl10 := keep hb rl10
    replace rl12 := keep hb rl12
    replace rg66 := keep hb rg66
    replace f4 := f4.below hb
    replace hC := hC.keep hb
    replace hw := Below.after hw hb
    clear hb
    refine hK_ _ _ trivial ?_
    simp only [Act.put, ZPa, ZPc, ZPd, ZPe, ZPf]
    clear hK_
    generalize (wq66.alloc (.cells #[] 5)) = wq67 at *
    generalize wq66.heap.size = gB67 at *
    refine eH_one (k := 2) (fuel := 4) (by kernel_rfl) rfl (by kernel_rfl) (fun K_ hK_ => ?_)
    refine wp_append_B _ _ rfl gB67 _ ([]) rfl hO (some ⟨g7, 0, none⟩) 32 32 (b32 R) rfl (bysK_row rl7).1 (fun e => by cases e) (by simp [b32] <;> omega) hbs (fun v68 wq68 hO_ hQ_ hs_ hT_ => ?_)
    replace hw := hQ_ _ _ hw hnB
    replace hO := hO_
    replace hbs := hs_
    clear hO_ hQ_ hs_
    replace rp0 := hT_ _ _ _ _ (by decide) rp0
    replace rl7 := hT_ _ _ _ _ (by decide) rl7
    replace rl10 := hT_ _ _ _ _ (by decide) rl10
    replace rl12 := hT_ _ _ _ _ (by decide) rl12
    replace rg66 := hT_ _ _ _ _ (by decide) rg66
    replace f4 := hS.below hw
    replace hC := hC0.keep hw
    clear hT_
    refine hK_ _ _ trivial ?_
    simp only [Act.put, ZPa, ZPb, ZPc, ZPd, ZPe, ZPf]
    clear hK_
    refine eH_one (k := 4) (fuel := 3) (by kernel_rfl) rfl (by kernel_rfl) (fun K_ hK_ => ?_)
    refine wp_append_B _ _ rfl gB67 _ ([] ++ b32 R) rfl hO (some ⟨w.heap.size, 0, none⟩) 32 32 (b32 N) rfl (bysK_row rp0).1 (fun e => by cases e) (by simp [b32] <;> omega) hbs (fun v69 wq69 hO_ hQ_ hs_ hT_ => ?_)
    replace hw := hQ_ _ _ hw hnB
    replace hO := hO_
    replace hbs := hs_
    clear hO_ hQ_ hs_
    replace rp0 := hT_ _ _ _ _ (by decide) rp0
    replace rl7 := hT_ _ _ _ _ (by decide) rl7
    replace rl10 := hT_ _ _ _ _ (by decide) rl10
    replace rl12 := hT_ _ _ _ _ (by decide) rl12
    replace rg66 := hT_ _ _ _ _ (by decide) rg66
    replace f4 := hS.below hw
    replace hC := hC0.keep hw
    clear hT_
    refine hK_ _ _ trivial ?_
    simp only [Act.put, ZPa, ZPb, ZPc, ZPd, ZPe, ZPf]
    clear hK_
    refine eH_one (k := 6) (fuel := 2) (by kernel_rfl) rfl (by kernel_rfl) (fun K_ hK_ => ?_)
    refine wp_append_B _ _ rfl gB67 _ ([] ++ b32 R ++ b32 N) rfl hO bo bl bc (b) rfl hC.1 hnone (by simp [b32] <;> omega) hbs (fun v70 wq70 hO_ hQ_ hs_ hT_ => ?_)
    replace hw := hQ_ _ _ hw hnB
    replace hO := hO_
    replace hbs := hs_
    clear hO_ hQ_ hs_
    replace rp0 := hT_ _ _ _ _ (by decide) rp0
    replace rl7 := hT_ _ _ _ _ (by decide) rl7
    replace rl10 := hT_ _ _ _ _ (by decide) rl10
    replace rl12 := hT_ _ _ _ _ (by decide) rl12
    replace rg66 := hT_ _ _ _ _ (by decide) rg66
    replace f4 := hS.below hw
    replace hC := hC0.keep hw
    clear hT_
    refine hK_ _ _ trivial ?_
    simp only [Act.put, ZPa, ZPb, ZPc, ZPd, ZPe, ZPf]
    clear hK_
    refine eH_one (k := 7) (fuel := 1) (by kernel_rfl) rfl (by kernel_rfl) (fun K_ hK_ => ?_)
    refine wp_call_ex (f := 17) (by kernel_rfl) (ex1e (cW_ _ _ _ hO)) (fun v_ wq71 hX_ => ?_)
    obtain ⟨rfl, hb⟩ := hX_
    clear hO hbs
    replace rp0 := keep hb rp0
    replace rl7 := keep hb rl7
    replace rl10 := keep hb rl10
    replace rl12 := keep hb rl12
    replace rg66 := keep hb rg66
    replace f4 := f4.below hb
    replace hC := hC.keep hb
    replace hw := Below.after hw hb
    clear hb
    refine hK_ _ _ (trivial) ?_
    simp only [Act.put, ZPa, ZPb, ZPc, ZPd, ZPe, ZPf]
    clear hK_
    refine eH_one (k := 9) (fuel := 0) (by kernel_rfl) rfl (by kernel_rfl) (fun K_ hK_ => ?_)
    refine wp_store_row 37 _ _ rfl (g66) (sg K Q) rfl rfl 37 _ rg66 (sg_infoW _ _) (z64_size.trans (sg_size _ _).symm) (sg_one _ _) ?_
    have hN_ := setRow_heap wq71 (g66) _ (sg K Q) _ _ rg66
    replace rp0 := (setRow_other wq71 (g66) (w.heap.size) (sg K Q) (by omega)).trans rp0
    replace rl7 := (setRow_other wq71 (g66) (g7) (sg K Q) (by omega)).trans rl7
    replace rl10 := (setRow_other wq71 (g66) (g10) (sg K Q) (by omega)).trans rl10
    replace rl12 := (setRow_other wq71 (g66) (g12) (sg K Q) (by omega)).trans rl12
    replace hw := below_setRow hw (show w.heap.size ≤ g66 by omega) (sg K Q)
    replace f4 := hS.below hw
    replace hC := hC0.keep hw
    generalize (wq71.setRow (g66) (sg K Q)) = wq72 at *
    clear rg66
    have rg66 := hN_
    clear hN_
    refine hK_ _ _ (trivial) ?_
    simp only [Act.put]
    clear hK_
    refine wpAnyH_done (by kernel_rfl) ?_ _
    refine NoPanic.normal ?_
    go_wp2_with (fail)
    go_meet
    case rel => exact ⟨g66, rfl, by omega, by omega, by omega, by omega, by omega, rp0, rl7, rl10, rl12, rg66, f4, hC, hw⟩
  case rest =>
   obtain ⟨gc36, rfl, ltc36_0, ltc36_1, ltc36_2, ltc36_3, szc36, rp0, rl7, rl10, rl12, rc36, f4, hC, hw⟩ := hcut
   go_wp2_with (fail)
   have hb : Below wc.heap.size wc wc.drew := below_drN (Below.refl _ _) 1
   replace rp0 := keep hb rp0
   replace rl7 := keep hb rl7
   replace rl10 := keep hb rl10
   replace rl12 := keep hb rl12
   replace rc36 := keep hb rc36
   replace f4 := f4.below hb
   replace hC := hC.keep hb
   replace hw := Below.after hw hb
   clear hb
   refine wp_region_noPanic ?_
   refine wp_region_held (S := fun W_ => W_.heap[g12]? = some (.cells xn 54 (0, 0)) ∧ W_.heap[g10]? = some (.cells xp 45 (0, 0)) ∧ W_.heap[g7]? = some (.cells (kb R) 25 (0, 0))) (by kernel_rfl) ?_
   change wpAnyH _ _ _ _ _ _ _ _ (World.drew _)
   generalize wc.drew = wd73 at *
   refine wpAnyH_take (i := 1) (v := .agg xn) rfl (by kernel_rfl) (by kernel_rfl) (by kernel_rfl) (fun _ _ _ h => h) (Or.inl ⟨by rfl, ?y74⟩) (⟨rl12, rl10, rl7⟩) ?r74
   case y74 =>
    intro w_ hS_
    simp only [List.getElem_toArray, List.getElem_cons_succ, List.getElem_cons_zero]
    exact e_load_part 54 _ (by rfl) (g12) 0 (by rfl) 54 xn (0, 0) xn _ (hS_.1) (all_rowe _) Tryd.underlying54 rfl on.infoS
   simp only [Act.put, ZPa, ZPb, ZPc, ZPd, ZPe, ZPf]
   refine wpAnyH_take (i := 3) (v := .agg xp) rfl (by kernel_rfl) (by kernel_rfl) (by kernel_rfl) (fun _ _ _ h => h) (Or.inl ⟨by rfl, ?y75⟩) (⟨rl12, rl10, rl7⟩) ?r75
   case y75 =>
    intro w_ hS_
    simp only [List.getElem_toArray, List.getElem_cons_succ, List.getElem_cons_zero]
    exact e_load_part 45 _ (by rfl) (g10) 0 (by rfl) 45 xp (0, 0) xp _ (hS_.2.1) (all_rowe _) Tryd.underlying45 rfl hp.info
   simp only [Act.put, ZPa, ZPb, ZPc, ZPd, ZPe, ZPf]
   refine wpAnyH_take (i := 4) (v := .slice (some ⟨gc36, 0, none⟩) 64 64) rfl (by kernel_rfl) (by kernel_rfl) (by kernel_rfl) (fun _ _ _ h => h) (Or.inl ⟨by rfl, ?y76⟩) (⟨rl12, rl10, rl7⟩) ?r76
   case y76 =>
    intro w_ hS_
    go_simp
    try with_reducible rfl
   simp only [Act.put, ZPa, ZPb, ZPc, ZPd, ZPe, ZPf]
   refine wpAnyH_take (i := 9) (v := .agg (kb R)) rfl (by kernel_rfl) (by kernel_rfl) (by kernel_rfl) (fun _ _ _ h => h) (Or.inl ⟨by rfl, ?y77⟩) (⟨rl12, rl10, rl7⟩) ?r77
   case y77 =>
    intro w_ hS_
    simp only [List.getElem_toArray, List.getElem_cons_succ, List.getElem_cons_zero]
    exact e_load_part 25 _ (by rfl) (g7) 0 (by rfl) 25 (kb R) (0, 0) (kb R) _ (hS_.2.2) (all_rowe _) Tryd.underlying25 rfl (kb_info _)
   simp only [Act.put, ZPa, ZPb, ZPc, ZPd, ZPe, ZPf]
   refine eH_one (k := 0) (fuel := 7) (by kernel_rfl) rfl (by kernel_rfl) (fun K_ hK_ => ?_)
   refine wp_call_ex (f := 19) (by kernel_rfl) (ex1e (cB.at f4.1)) (fun v_ wq78 hX_ => ?_)
   obtain ⟨rfl, hb⟩ := hX_
   replace rp0 := keep hb rp0
   replace rl7 := keep hb rl7
   replace rl10 := keep hb rl10
   replace rl12 := keep hb rl12
   replace rc36 := keep hb rc36
   replace f4 := f4.below hb
   replace hC := hC.keep hb
   replace hw := Below.after hw hb
   clear hb
   refine hK_ _ _ (⟨rl12, rl10, rl7⟩) ?_
   simp only [Act.put, ZPa, ZPc, ZPd, ZPe, ZPf]
   clear hK_
   refine eH_one (k := 2) (fuel := 6) (by kernel_rfl) rfl (by kernel_rfl) (fun K_ hK_ => ?_)
   refine wp_call_ex (f := 24) (by kernel_rfl) (ex1e (cT.at f4.four)) (fun v_ wq79 hX_ => ?_)
   obtain ⟨rfl, hb⟩ := hX_
   replace rp0 := keep hb rp0
   replace rl7 := keep hb rl7
   replace rl10 := keep hb rl10
   replace rl12 := keep hb rl12
   replace rc36 := keep hb rc36
   replace f4 := f4.below hb
   replace hC := hC.keep hb
   replace hw := Below.after hw hb
   clear hb
   refine hK_ _ _ (⟨rl12, rl10, rl7⟩) ?_
   simp only [Act.put, ZPa, ZPb, ZPc, ZPd, ZPe, ZPf]
   clear hK_
   refine eH_one (k := 5) (fuel := 5) (by kernel_rfl) rfl (by kernel_rfl) (fun K_ hK_ => ?_)
   refine wp_call_ex (f := 27) (by kernel_rfl) (ex1e (cR _ _ f4.2 (bysK_sg rc36).1)) (fun v_ wq80 hX_ => ?_)
   obtain ⟨rfl, hb⟩ := hX_
   replace rp0 := keep hb rp0
   replace rl7 := keep hb rl7
   replace rl10 := keep hb rl10
   replace rl12 := keep hb rl12
   replace rc36 := keep hb rc36
   replace f4 := f4.below hb
   replace hC := hC.keep hb
   replace hw := Below.after hw hb
   clear hb
   refine hK_ _ _ (⟨rl12, rl10, rl7⟩) ?_
   simp only [Act.put, ZPa, ZPb, ZPc, ZPd, ZPe, ZPf]
   clear hK_
   refine eH_one (k := 6) (fuel := 4) (by kernel_rfl) rfl (by kernel_rfl) (fun K_ hK_ => ?_)
   refine wp_call_ex (f := 24) (by kernel_rfl) (ex1e (cT2.at f4.four)) (fun v_ wq81 hX_ => ?_)
   obtain ⟨rfl, hb⟩ := hX_
   replace rp0 := keep hb rp0
   replace rl7 := keep hb rl7
   replace rl10 := keep hb rl10
   replace rl12 := keep hb rl12
   replace rc36 := keep hb rc36
   replace f4 := f4.below hb
   replace hC := hC.keep hb
   replace hw := Below.after hw hb
   clear hb
   refine hK_ _ _ (⟨rl12, rl10, rl7⟩) ?_
   simp only [Act.put, ZPa, ZPb, ZPc, ZPd, ZPe, ZPf]
   clear hK_
   refine eH_one (k := 7) (fuel := 3) (by kernel_rfl) rfl (by kernel_rfl) (fun K_ hK_ => ?_)
   refine wp_call_ex (f := 33) (by kernel_rfl) (ex1e (cU.at f4.four)) (fun v_ wq82 hX_ => ?_)
   obtain ⟨rfl, hb⟩ := hX_
   replace rp0 := keep hb rp0
   replace rl7 := keep hb rl7
   replace rl10 := keep hb rl10
   replace rl12 := keep hb rl12
   replace rc36 := keep hb rc36
   replace f4 := f4.below hb
   replace hC := hC.keep hb
   replace hw := Below.after hw hb
   clear hb
   refine hK_ _ _ (⟨rl12, rl10, rl7⟩) ?_
   simp only [Act.put, ZPa, ZPb, ZPc, ZPd, ZPe, ZPf]
   clear hK_
   refine eH_one (k := 8) (fuel := 2) (by kernel_rfl) rfl (by kernel_rfl) (fun K_ hK_ => ?_)
   refine wp_call_ex (f := 21) (by kernel_rfl) (ex1e (cZ.at _)) (fun v_ wq83 hX_ => ?_)
   obtain ⟨rfl, hb⟩ := hX_
   replace rp0 := keep hb rp0
   replace rl7 := keep hb rl7
   replace rl10 := keep hb rl10
   replace rl12 := keep hb rl12
   replace rc36 := keep hb rc36
   replace f4 := f4.below hb
   replace hC := hC.keep hb
   replace hw := Below.after hw hb
   clear hb
   refine hK_ _ _ (⟨rl12, rl10, rl7⟩) ?_
   simp only [Act.put, ZPa, ZPb, ZPc, ZPd, ZPe, ZPf]
   clear hK_
   refine wpAnyH_take (i := 10) (v := ?v84) rfl (by kernel_rfl) (by kernel_rfl) (by kernel_rfl) (fun _ _ _ h => h) (Or.inl ⟨by rfl, ?y84⟩) (⟨rl12, rl10, rl7⟩) ?r84
   case y84 =>
    intro w_ hS_
    go_simp
    try with_reducible rfl
   simp only [Act.put, ZPa, ZPb, ZPc, ZPd, ZPe, ZPf]
   refine wpAnyH_take (i := 11) (v := ?v85) rfl (by kernel_rfl) (by kernel_rfl) (by kernel_rfl) (fun _ _ _ h => h) (Or.inl ⟨by rfl, ?y85⟩) (⟨rl12, rl10, rl7⟩) ?r85
   case y85 =>
    intro w_ hS_
    go_simp
    try with_reducible rfl
   simp only [Act.put, ZPa, ZPb, ZPc, ZPd, ZPe, ZPf]
   refine wpAnyH_done (by kernel_rfl) ?_ _
   refine NoPanic.normal ?_
   rcases hE with ⟨rfl, rfl⟩ | ⟨rfl, rfl⟩
   ·go_wp2_with (fail)
    go_ret
    exact ⟨rfl, hw⟩
   ·go_wp2_with (fail)
    go_ret
    exact ⟨rfl, hw⟩
theorem spoilt_any {N R S : Int} {b : List Int} {k s : Array Value} (hN0 : KeyOf k N) (es : s = sg R S) (hR : KeyOf (kb R) R) (hK : KeyOf (kb S) S) (w : World) {v : Value} (hS : Sgn w) (hC : BysK w v b) (hnone : ∀ a l c, v = .slice a l c → a = none → c = 0) (hlen : b.length ≤ 140737488351232) : Calls Tryd.prog 8 #[.agg k, v, .agg s] w fun e w' => e = .returned (.bool true) ∧ Below w.heap.size w w' := by
 have hN := hN0
 rw [key_is hN0] at hN
 rw [key_is hN0, es]
 obtain ⟨bo, bc, rfl, _⟩ := hC.slc
 obtain ⟨xp, hp, cP⟩ := a_Parse hN
 have hcC := fun W (h1 : Sgn W) (h2 : BysK W (.slice bo b.length bc) b) => a_Check hN hR hK W h1 h2
 have hbz : ∀ z ∈ b, 0 ≤ z ∧ z < 256 := by obtain ⟨⟨_, _, _, _, _, h⟩, _⟩ := hC; exact h
 have eL : [] ++ b32 R ++ b32 N ++ b = b32 R ++ (b32 N ++ b) := by simp
 have hz : ∀ z ∈ [] ++ b32 R ++ b32 N ++ b, 0 ≤ z ∧ z < 256 := by
  rw [eL]
  intro z h
  rcases List.mem_append.1 h with h | h
  ·exact b32_bd _ z h
  ·exact (List.mem_append.1 h).elim (b32_bd _ z) (hbz z)
 have hl : ([] ++ b32 R ++ b32 N ++ b).length ≤ 4611686018427380000 := by simp [b32]; omega
 obtain ⟨xb, hb, cB⟩ := a_Base
 have hM := mod_L (if L19 ≤ S then 0 else S)
 have cWh := a_Whole hK
 obtain ⟨x1, h1, cT⟩ := a_Times hb (N := if L19 ≤ S then 0 else S) (by
  by_cases g : L19 ≤ S
  ·rw [if_pos g]; unfold L19; decide
  ·rw [if_neg g]; exact ⟨hK.bd.1, by omega⟩)
 obtain ⟨x2, h2, cT2⟩ := a_Times hp (nbr_bd ([] ++ b32 R ++ b32 N ++ b))
 obtain ⟨x3, h3, cU⟩ := a_Sub h1 h2
 refine spoilt_walk (E := chk N b R S) hp (wdo _) a_vec cP cWh w hS hC hcC (a_Small hp) (fun e => hnone _ _ _ rfl e) hlen (fun W base v hO => sum_own hO hz hl) cB cT (nbr_halves _) cT2 cU (a_Bytes h3) (fun W => kb_equal _ _ (pb_bd _).1 (pb_bd _).2 hR.bd.1 hR.bd.2 W) ?_
 unfold chk
 rcases pe_or N with ⟨P, e1, e2, e3⟩ | ⟨_, e2, e3⟩
 ·rw [e3, if_pos rfl, e2]
  unfold hld
  refine Or.inr ?_
  cases hs : sml P with
  | true => exact Or.inl ⟨rfl, rfl, by rw [if_pos rfl]⟩
  | false =>
   refine Or.inr ?_
   simp only [if_neg (show ¬ (false = true) by decide)]
   by_cases g : L19 ≤ S
   ·simp only [if_pos g]
    exact Or.inl ⟨trivial, trivial, trivial, trivial⟩
   ·simp only [if_neg g]
    refine Or.inr ⟨trivial, trivial, trivial, ?_⟩
    have eb : pl (ml S.toNat bp) (ng (ml (nbr ([] ++ b32 R ++ b32 N ++ b)).toNat P)) = back P b R S := by unfold back chl; rw [e1, eL]
    rw [eb]
    by_cases q : pb (back P b R S) = R
    ·rw [if_pos q]; exact Or.inl ⟨decide_eq_true q, rfl⟩
    ·rw [if_neg q]; exact Or.inr ⟨decide_eq_false q, rfl⟩
 ·rw [e3, if_neg (by decide)]
  exact Or.inl ⟨rfl, rfl⟩
end Go.Proofs.YtajaiiidafkijaaDoor

