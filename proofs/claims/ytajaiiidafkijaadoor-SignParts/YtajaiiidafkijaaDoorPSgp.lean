import Derived.Test.YtajaiiidafkijaaDoorProg
import Derived.WalkKit
import Derived.WalkSpells
import Derived.WalkLawsBesides
import Derived.Lib.QuietBelow
import Derived.BigQuiet
import Derived.Deep.Cut
import Derived.Deep.CutRange
import Derived.Test.YtajaiiidafkijaaDoorPSgv
namespace Go.Proofs.YtajaiiidafkijaaDoor
set_option maxRecDepth 100000
open Go Go.RowKit Go.Sort
attribute [local go_sem] setCell_drewN alloc_drewN
set_option maxRecDepth 100000 in
set_option maxHeartbeats 8000000 in
theorem parts_bad {sd b : List Int} (w : World) {ao bo : Option Addr} {lb cap bl bc : Nat} (hS : Sgn w) (hB : BysK w (.slice ao lb cap) sd) (hC : BysK w (.slice bo bl bc) b) (hl : lb ≠ 32) (cV : GivesS 3 #[] (.bool true)) : Calls Tryd.prog 6 #[.slice ao lb cap, .slice bo bl bc] w fun e w' => e = .returned (.bool true) ∧ Below w.heap.size w w' := by
 have hd : decide ((lb : Int) = 32) = false := by simp; omega
 have hw : Below w.heap.size w w := Below.refl _ _
 have f4 := hS
 go_enter Tryd.func6, Tryd.ntmps6
 go_wp2_with (fail)
 refine (cV.at f4).mono ?_
 rintro e_ w1 ⟨rfl, hb⟩
 replace f4 := f4.below hb
 replace hB := hB.keep hb
 replace hC := hC.keep hb
 replace hw := Below.after hw hb
 clear hb
 go_wp2_with (fail)
 go_ret
 exact ⟨rfl, hw⟩
set_option maxRecDepth 100000 in
set_option maxHeartbeats 8000000 in
theorem parts_walk {sd b : List Int} {A R S K1 Q1 ks K Q c : Int} {xb xs xf xn xa x1 x2 x3 : Array Value} {Pf Pa : E1} (hf : PtO xf Pf) (hxa : PtO xa Pa) (on : WdO xn) (hks : KeyOf (kb ks) ks) (w : World) {ao bo : Option Addr} {cap bl bc : Nat} (hS : Sgn w) (hB : BysK w (.slice ao 32 cap) sd) (hC : BysK w (.slice bo bl bc) b) (hnone : bo = none → bc = 0) (hlen : b.length ≤ 140737488351232) (cV : GivesS 3 #[] (.bool true)) (cW1 : ∀ W, BysK W (.slice ao 32 cap) sd → Calls Tryd.prog 17 #[.slice ao 32 cap] W fun e w' => e = .returned (.agg (sg K1 Q1)) ∧ Below W.heap.size W w') (cCl : Gives 18 #[.agg (kb K1)] (.agg (kb ks))) (cP : ∀ W, Sgn W → BysK W (.slice ao 32 cap) sd → Calls Tryd.prog 14 #[.slice ao 32 cap] W fun e w' => e = .returned (.tuple #[.agg (kb A), .int .i64 0]) ∧ Below W.heap.size W w') (cS : ∀ W, Sgn W → BysK W (.slice ao 32 cap) sd → BysK W (.slice bo bl bc) b → Calls Tryd.prog 15 #[.slice ao 32 cap, .slice bo bl bc] W fun e w' => e = .returned (.tuple #[.agg (sg R S), .int .i64 0]) ∧ Below W.heap.size W w') (cB : GivesE 19 #[] (.agg xb)) (cSc : ∀ (w : World) (ev : Value), Four w → Bys w ev (b32 ks) → Calls Tryd.prog 20 #[.agg xb, ev] w fun e w' => e = .returned (.agg xs) ∧ Below w.heap.size w w') (cY : Gives 21 #[.agg xs] (.agg (kb A))) (heq : ∀ W, (Op.equalIn 10000 25 (.agg (kb A)) (.agg (kb A))).run Tryd.prog W = .ok true W)
 (cP1 : Gives5 22 #[.agg (kb R)] (.tuple #[.agg xf, .int .i64 0])) (cWh : GivesO 23 #[.agg (kb S)] (.tuple #[.agg xn, .int .i64 0])) (cP2 : Gives5 22 #[.agg (kb A)] (.tuple #[.agg xa, .int .i64 0])) (cW_ : ∀ (W : World) (base : Nat) (v : Value), W.ownsRow base 5 1 v ([] ++ b32 R ++ b32 A ++ b).length (([] ++ b32 R ++ b32 A ++ b).map (Value.int .u8)) → Calls Tryd.prog 17 #[v] W fun e w' => e = .returned (.agg (sg K Q)) ∧ Below W.heap.size W w') (cT : Gives4 24 #[.agg xb, .agg xn] (.agg x1)) (cR : ∀ W v, Ord W → Bys W v (b32 K ++ b32 Q) → Calls Tryd.prog 27 #[v] W fun e w' => e = .returned (.agg (wd c)) ∧ Below W.heap.size W w') (cT2 : Gives4 24 #[.agg xa, .agg (wd c)] (.agg x2)) (cA : Gives4 26 #[.agg xf, .agg x2] (.agg x3)) (cE : Gives 25 #[.agg x1, .agg x3] (.bool true)) : Calls Tryd.prog 6 #[.slice ao 32 cap, .slice bo bl bc] w fun e w' => e = .returned (.bool true) ∧ Below w.heap.size w w' := by
 have hB0 := hB
 have hC0 := hC
 have hw : Below w.heap.size w w := Below.refl _ _
 have f4 := hS
 go_enter Tryd.func6, Tryd.ntmps6
 go_wp2_with (fail)
 refine (cW1 _ hB).mono ?_
 rintro e_ w1 ⟨rfl, hb⟩
 replace f4 := f4.below hb
 replace hB := hB.keep hb
 replace hC := hC.keep hb
 replace hw := Below.after hw hb
 clear hb
 go_wp2_with (first | (refine wpList_store_row rfl 37 _ _ rfl (w1.heap.size) (sg K1 Q1) rfl rfl 37 (Wi.irow .u8 (Wi.zr 64)) (hp1_0 w1 _) (sg_infoW _ _) (z64_size.trans (sg_size _ _).symm) (sg_one _ _) ?_; rw [setRow_alloc_new _ _ _ _ _ _ (by simp)]; refine wpList_stay ?_) | (refine wpList_alloc rfl 37 rfl (Wi.irow .u8 (Wi.zr 64)) zW ?_) | fail)
 unfold WpStay
 try simp only [Act.put]
 have rl5 : (w1.alloc (.cells (sg K1 Q1) 37)).heap[w1.heap.size]? = some (.cells (sg K1 Q1) 37 (0, 0)) := hp1_0 w1 _
 have hb : Below w1.heap.size w1 (w1.alloc (.cells (sg K1 Q1) 37)) := ((Below.refl _ _).alloc (Nat.le_refl _) _)
 generalize (w1.alloc (.cells (sg K1 Q1) 37)) = w2 at *
 have sz_g5 := hw.size
 replace f4 := f4.below hb
 replace hB := hB.keep hb
 replace hC := hC.keep hb
 replace hw := Below.after hw hb
 clear hb
 generalize w1.heap.size = g5 at *
 clear w1
 go_wp2_with (fail)
 simp only [z32]
 have rl6 : (w2.alloc (.cells (kb 0) 25)).heap[w2.heap.size]? = some (.cells (kb 0) 25 (0, 0)) := hp1_0 w2 _
 have hb : Below w2.heap.size w2 (w2.alloc (.cells (kb 0) 25)) := ((Below.refl _ _).alloc (Nat.le_refl _) _)
 generalize (w2.alloc (.cells (kb 0) 25)) = w3 at *
 have lt_g6_0 := lt_of_row rl5
 have sz_g6 := hw.size
 replace rl5 := keep hb rl5
 replace f4 := f4.below hb
 replace hB := hB.keep hb
 replace hC := hC.keep hb
 replace hw := Below.after hw hb
 clear hb
 generalize w2.heap.size = g6 at *
 clear w2
 have hb : Below w3.heap.size w3 w3.drew := below_drN (Below.refl _ _) 1
 replace rl5 := keep hb rl5
 replace rl6 := keep hb rl6
 replace f4 := f4.below hb
 replace hB := hB.keep hb
 replace hC := hC.keep hb
 replace hw := Below.after hw hb
 clear hb
 refine wp_region_noPanic ?_
 refine wp_region_held (S := fun _ => True) (by kernel_rfl) ?_
 change wpAnyH _ _ _ _ _ _ _ _ (World.drew _)
 generalize w3.drew = wd28 at *
 refine wpAnyH_take (i := 0) (v := .slice (some ⟨g6, 0, none⟩) 32 32) rfl (by kernel_rfl) (by kernel_rfl) (by kernel_rfl) (fun _ _ _ h => h) (Or.inl ⟨by rfl, ?y29⟩) (trivial) ?r29
 case y29 =>
  intro w_ hS_
  go_simp
  try with_reducible rfl
 simp only [Act.put, ZPa, ZPc, ZPd, ZPe, ZPf]
 refine wpAnyH_take (i := 1) (v := .slice (some ⟨g5, 0, none⟩) 64 64) rfl (by kernel_rfl) (by kernel_rfl) (by kernel_rfl) (fun _ _ _ h => h) (Or.inl ⟨by rfl, ?y30⟩) (trivial) ?r30
 case y30 =>
  intro w_ hS_
  go_simp
  try with_reducible rfl
 simp only [Act.put, ZPa, ZPb, ZPc, ZPd, ZPe, ZPf]
 refine eH_one (k := 2) (fuel := 0) (by kernel_rfl) rfl (by kernel_rfl) (fun K_ hK_ => ?_)
 refine wp_copy_op _ _ _ _ rfl _ _ rfl rfl _ _ (copy_rows (n := 32) (l := b32 0) (c := b32 K1 ++ b32 Q1) rl6 rl5 rfl (show 0 + 32 ≤ 64 by decide) (show 0 + 32 ≤ 32 by decide)) ?_
 rw [show Wi.irow .u8 (List.take 0 (b32 0) ++ (List.take 32 (List.drop 0 (b32 K1 ++ b32 Q1)) ++ List.drop (0 + 32) (b32 0))) = (kb K1) from rfl]
 have hN_ := setRow_heap wd28 (g6) _ (kb K1) _ _ rl6
 replace rl5 := (setRow_other wd28 (g6) (g5) (kb K1) (by omega)).trans rl5
 replace hw := below_setRow hw (show w.heap.size ≤ g6 by omega) (kb K1)
 replace f4 := hS.below hw
 replace hB := hB0.keep hw
 replace hC := hC0.keep hw
 generalize (wd28.setRow (g6) (kb K1)) = wc31 at *
 clear rl6
 have rl6 := hN_
 clear hN_
 refine hK_ _ _ trivial ?_
 simp only [Act.put, ZPa, ZPb, ZPc, ZPd, ZPe, ZPf]
 clear hK_
 refine wpAnyH_done (by kernel_rfl) ?_ _
 refine NoPanic.normal ?_
 clear rl5
 go_wp2_with (first | (refine wpList_load_want rfl 25 _ rfl (g6) rfl 25 (kb K1) (0, 0) _ rl6 Tryd.underlying25 rfl (kb_info _) ?_) | fail)
 refine (cCl.at _).mono ?_
 rintro e_ w4 ⟨rfl, hb⟩
 replace rl6 := keep hb rl6
 replace f4 := f4.below hb
 replace hB := hB.keep hb
 replace hC := hC.keep hb
 replace hw := Below.after hw hb
 clear hb
 go_wp2_with (first | (refine wpList_store_row rfl 25 _ _ rfl (g6) (kb ks) rfl rfl 25 _ rl6 (kb_info _) ((kb_size _).trans (kb_size _).symm) (kb_one _) ?_; refine wpList_stay ?_) | fail)
 unfold WpStay
 have hN_ := setRow_heap w4 (g6) _ (kb ks) _ _ rl6
 replace hw := below_setRow hw (show w.heap.size ≤ g6 by omega) (kb ks)
 replace f4 := hS.below hw
 replace hB := hB0.keep hw
 replace hC := hC0.keep hw
 generalize (w4.setRow (g6) (kb ks)) = w5 at *
 clear rl6
 have rl6 := hN_
 clear hN_
 go_wp2_with (fail)
 refine (cP _ f4 hB).mono ?_
 rintro e_ w6 ⟨rfl, hb⟩
 replace rl6 := keep hb rl6
 replace f4 := f4.below hb
 replace hB := hB.keep hb
 replace hC := hC.keep hb
 replace hw := Below.after hw hb
 clear hb
 go_wp2_with (first | (refine wpList_store_row rfl 25 _ _ rfl (w6.heap.size) (kb A) rfl rfl 25 (kb 0) (hp1_0 w6 _) (kb_info _) ((kb_size _).trans (kb_size _).symm) (kb_one _) ?_; rw [setRow_alloc_new _ _ _ _ _ _ (by simp)]; refine wpList_stay ?_) | fail)
 unfold WpStay
 try simp only [Act.put]
 have rl7 : (w6.alloc (.cells (kb A) 25)).heap[w6.heap.size]? = some (.cells (kb A) 25 (0, 0)) := hp1_0 w6 _
 have hb : Below w6.heap.size w6 (w6.alloc (.cells (kb A) 25)) := ((Below.refl _ _).alloc (Nat.le_refl _) _)
 generalize (w6.alloc (.cells (kb A) 25)) = w7 at *
 have lt_g7_0 := lt_of_row rl6
 have sz_g7 := hw.size
 replace rl6 := keep hb rl6
 replace f4 := f4.below hb
 replace hB := hB.keep hb
 replace hC := hC.keep hb
 replace hw := Below.after hw hb
 clear hb
 generalize w6.heap.size = g7 at *
 clear w6
 go_wp2_with (fail)
 refine (cS _ f4 hB hC).mono ?_
 rintro e_ w8 ⟨rfl, hb⟩
 replace rl6 := keep hb rl6
 replace rl7 := keep hb rl7
 replace f4 := f4.below hb
 replace hB := hB.keep hb
 replace hC := hC.keep hb
 replace hw := Below.after hw hb
 clear hb
 go_wp2_with (first | (refine wpList_store_row rfl 30 _ _ rfl (w8.heap.size) (sg R S) rfl rfl 30 (Wi.irow .u8 (Wi.zr 64)) (hp1_0 w8 _) (sg_infoG _ _) (z64_size.trans (sg_size _ _).symm) (sg_one _ _) ?_; rw [setRow_alloc_new _ _ _ _ _ _ (by simp)]; refine wpList_stay ?_) | (refine wpList_alloc rfl 30 rfl (Wi.irow .u8 (Wi.zr 64)) zG ?_) | fail)
 unfold WpStay
 try simp only [Act.put]
 have rl9 : (w8.alloc (.cells (sg R S) 30)).heap[w8.heap.size]? = some (.cells (sg R S) 30 (0, 0)) := hp1_0 w8 _
 have hb : Below w8.heap.size w8 (w8.alloc (.cells (sg R S) 30)) := ((Below.refl _ _).alloc (Nat.le_refl _) _)
 generalize (w8.alloc (.cells (sg R S) 30)) = w9 at *
 have lt_g9_0 := lt_of_row rl6
 have lt_g9_1 := lt_of_row rl7
 have sz_g9 := hw.size
 replace rl6 := keep hb rl6
 replace rl7 := keep hb rl7
 replace f4 := f4.below hb
 replace hB := hB.keep hb
 replace hC := hC.keep hb
 replace hw := Below.after hw hb
 clear hb
 generalize w8.heap.size = g9 at *
 clear w8
 clear hB
 go_wp2_with (fail)
 have hb : Below w9.heap.size w9 w9.drew := below_drN (Below.refl _ _) 1
 replace rl6 := keep hb rl6
 replace rl7 := keep hb rl7
 replace rl9 := keep hb rl9
 replace f4 := f4.below hb
 replace hC := hC.keep hb
 replace hw := Below.after hw hb
 clear hb
 refine wp_region_noPanic ?_
 refine wp_region_held (S := fun W_ => W_.heap[g7]? = some (.cells (kb A) 25 (0, 0))) (by kernel_rfl) ?_
 change wpAnyH _ _ _ _ _ _ _ _ (World.drew _)
 generalize w9.drew = wd32 at *
 refine wpAnyH_take (i := 0) (v := ?v33) rfl (by kernel_rfl) (by kernel_rfl) (by kernel_rfl) (fun _ _ _ h => h) (Or.inl ⟨by rfl, ?y33⟩) (rl7) ?r33
 case y33 =>
  intro w_ hS_
  go_simp
  try with_reducible rfl
 simp only [Act.put, ZPa, ZPc, ZPd, ZPe, ZPf]
 refine wpAnyH_take (i := 1) (v := ?v34) rfl (by kernel_rfl) (by kernel_rfl) (by kernel_rfl) (fun _ _ _ h => h) (Or.inl ⟨by rfl, ?y34⟩) (rl7) ?r34
 case y34 =>
  intro w_ hS_
  go_simp
  try with_reducible rfl
 simp only [Act.put, ZPa, ZPb, ZPc, ZPd, ZPe, ZPf]
 refine wpAnyH_take (i := 2) (v := ?v35) rfl (by kernel_rfl) (by kernel_rfl) (by kernel_rfl) (fun _ _ _ h => h) (Or.inl ⟨by rfl, ?y35⟩) (rl7) ?r35
 case y35 =>
  intro w_ hS_
  go_simp
  try with_reducible rfl
 simp only [Act.put, ZPa, ZPb, ZPc, ZPd, ZPe, ZPf]
 refine wpAnyH_take (i := 3) (v := ?v36) rfl (by kernel_rfl) (by kernel_rfl) (by kernel_rfl) (fun _ _ _ h => h) (Or.inl ⟨by rfl, ?y36⟩) (rl7) ?r36
 case y36 =>
  intro w_ hS_
  go_simp
  try with_reducible rfl
 simp only [Act.put, ZPa, ZPb, ZPc, ZPd, ZPe, ZPf]
 refine wpAnyH_take (i := 4) (v := ?v37) rfl (by kernel_rfl) (by kernel_rfl) (by kernel_rfl) (fun _ _ _ h => h) (Or.inl ⟨by rfl, ?y37⟩) (rl7) ?r37
 case y37 =>
  intro w_ hS_
  go_simp
  try with_reducible rfl
 simp only [Act.put, ZPa, ZPb, ZPc, ZPd, ZPe, ZPf]
 refine wpAnyH_take (i := 5) (v := ?v38) rfl (by kernel_rfl) (by kernel_rfl) (by kernel_rfl) (fun _ _ _ h => h) (Or.inl ⟨by rfl, ?y38⟩) (rl7) ?r38
 case y38 =>
  intro w_ hS_
  go_simp
  try with_reducible rfl
 simp only [Act.put, ZPa, ZPb, ZPc, ZPd, ZPe, ZPf]
 refine wpAnyH_take (i := 6) (v := ?v39) rfl (by kernel_rfl) (by kernel_rfl) (by kernel_rfl) (fun _ _ _ h => h) (Or.inl ⟨by rfl, ?y39⟩) (rl7) ?r39
 case y39 =>
  intro w_ hS_
  go_simp
  try with_reducible rfl
 simp only [Act.put, ZPa, ZPb, ZPc, ZPd, ZPe, ZPf]
 refine wpAnyH_take (i := 7) (v := .agg (kb A)) rfl (by kernel_rfl) (by kernel_rfl) (by kernel_rfl) (fun _ _ _ h => h) (Or.inl ⟨by rfl, ?y40⟩) (rl7) ?r40
 case y40 =>
  intro w_ hS_
  simp only [List.getElem_toArray, List.getElem_cons_succ, List.getElem_cons_zero]
  exact e_load_part 25 _ (by rfl) (g7) 0 (by rfl) 25 (kb A) (0, 0) (kb A) _ (hS_) (all_rowe _) Tryd.underlying25 rfl (kb_info _)
 simp only [Act.put, ZPa, ZPb, ZPc, ZPd, ZPe, ZPf]
 refine wpAnyH_take (i := 9) (v := .slice (some ⟨g6, 0, none⟩) 32 32) rfl (by kernel_rfl) (by kernel_rfl) (by kernel_rfl) (fun _ _ _ h => h) (Or.inl ⟨by rfl, ?y41⟩) (rl7) ?r41
 case y41 =>
  intro w_ hS_
  go_simp
  try with_reducible rfl
 simp only [Act.put, ZPa, ZPb, ZPc, ZPd, ZPe, ZPf]
 refine eH_one (k := 8) (fuel := 4) (by kernel_rfl) rfl (by kernel_rfl) (fun K_ hK_ => ?_)
 refine wp_call_ex (f := 19) (by kernel_rfl) (ex1e (cB.at f4.1)) (fun v_ wq42 hX_ => ?_)
 obtain ⟨rfl, hb⟩ := hX_
 replace rl6 := keep hb rl6
 replace rl7 := keep hb rl7
 replace rl9 := keep hb rl9
 replace f4 := f4.below hb
 replace hC := hC.keep hb
 replace hw := Below.after hw hb
 clear hb
 refine hK_ _ _ (rl7) ?_
 simp only [Act.put, ZPa, ZPb, ZPc, ZPd, ZPe, ZPf]
 clear hK_
 refine eH_one (k := 10) (fuel := 3) (by kernel_rfl) rfl (by kernel_rfl) (fun K_ hK_ => ?_)
 refine wp_call_ex (f := 20) (by kernel_rfl) (ex1e (cSc _ _ f4.four (bys_row rl6 hks))) (fun v_ wq43 hX_ => ?_)
 obtain ⟨rfl, hb⟩ := hX_
 replace rl6 := keep hb rl6
 replace rl7 := keep hb rl7
 replace rl9 := keep hb rl9
 replace f4 := f4.below hb
 replace hC := hC.keep hb
 replace hw := Below.after hw hb
 clear hb
 refine hK_ _ _ (rl7) ?_
 simp only [Act.put, ZPa, ZPb, ZPc, ZPd, ZPe, ZPf]
 clear hK_
 refine eH_one (k := 11) (fuel := 2) (by kernel_rfl) rfl (by kernel_rfl) (fun K_ hK_ => ?_)
 refine wp_call_ex (f := 21) (by kernel_rfl) (ex1e (cY.at _)) (fun v_ wq44 hX_ => ?_)
 obtain ⟨rfl, hb⟩ := hX_
 replace rl6 := keep hb rl6
 replace rl7 := keep hb rl7
 replace rl9 := keep hb rl9
 replace f4 := f4.below hb
 replace hC := hC.keep hb
 replace hw := Below.after hw hb
 clear hb
 refine hK_ _ _ (rl7) ?_
 simp only [Act.put, ZPa, ZPb, ZPc, ZPd, ZPe, ZPf]
 clear hK_
 refine wpAnyH_take (i := 12) (v := ?v45) rfl (by kernel_rfl) (by kernel_rfl) (by kernel_rfl) (fun _ _ _ h => h) (Or.inl ⟨by rfl, ?y45⟩) (rl7) ?r45
 case y45 =>
  intro w_ hS_
  go_simp
  try with_reducible rfl
 simp only [Act.put, ZPa, ZPb, ZPc, ZPd, ZPe, ZPf]
 refine wpAnyH_take (i := 13) (v := ?v46) rfl (by kernel_rfl) (by kernel_rfl) (by kernel_rfl) (fun _ _ _ h => h) (Or.inl ⟨by rfl, ?y46⟩) (rl7) ?r46
 case y46 =>
  intro w_ hS_
  go_simp
  try with_reducible rfl
 simp only [Act.put, ZPa, ZPb, ZPc, ZPd, ZPe, ZPf]
 refine wpAnyH_done (by kernel_rfl) ?_ _
 refine NoPanic.normal ?_
 clear rl6
 go_wp2_with (fail)
 simp only [z32]
 have rl11 : ((wq44.alloc (.cells (kb 0) 25)).alloc (.cells (kb 0) 25)).heap[wq44.heap.size]? = some (.cells (kb 0) 25 (0, 0)) := hp2_0 wq44 _ _
 have rl12 : ((wq44.alloc (.cells (kb 0) 25)).alloc (.cells (kb 0) 25)).heap[wq44.heap.size + 1]? = some (.cells (kb 0) 25 (0, 0)) := hp2_1 wq44 _ _
 have hb : Below wq44.heap.size wq44 ((wq44.alloc (.cells (kb 0) 25)).alloc (.cells (kb 0) 25)) := (((Below.refl _ _).alloc (Nat.le_refl _) _).alloc (by simp) _)
 generalize ((wq44.alloc (.cells (kb 0) 25)).alloc (.cells (kb 0) 25)) = w10 at *
 have lt_g11_0 := lt_of_row rl7
 have lt_g11_1 := lt_of_row rl9
 have sz_g11 := hw.size
 replace rl7 := keep hb rl7
 replace rl9 := keep hb rl9
 replace f4 := f4.below hb
 replace hC := hC.keep hb
 replace hw := Below.after hw hb
 clear hb
 generalize wq44.heap.size = g11 at *
 clear wq44
 have hb : Below w10.heap.size w10 w10.drew := below_drN (Below.refl _ _) 1
 replace rl7 := keep hb rl7
 replace rl9 := keep hb rl9
 replace rl11 := keep hb rl11
 replace rl12 := keep hb rl12
 replace f4 := f4.below hb
 replace hC := hC.keep hb
 replace hw := Below.after hw hb
 clear hb
 refine wp_region_noPanic ?_
 refine wp_region_held (S := fun _ => True) (by kernel_rfl) ?_
 change wpAnyH _ _ _ _ _ _ _ _ (World.drew _)
 generalize w10.drew = wd47 at *
 refine wpAnyH_take (i := 0) (v := .slice (some ⟨g11, 0, none⟩) 32 32) rfl (by kernel_rfl) (by kernel_rfl) (by kernel_rfl) (fun _ _ _ h => h) (Or.inl ⟨by rfl, ?y48⟩) (trivial) ?r48
 case y48 =>
  intro w_ hS_
  go_simp
  try with_reducible rfl
 simp only [Act.put, ZPa, ZPc, ZPd, ZPe, ZPf]
 refine wpAnyH_take (i := 1) (v := .slice (some ⟨g9, 0, none⟩) 64 64) rfl (by kernel_rfl) (by kernel_rfl) (by kernel_rfl) (fun _ _ _ h => h) (Or.inl ⟨by rfl, ?y49⟩) (trivial) ?r49
 case y49 =>
  intro w_ hS_
  go_simp
  try with_reducible rfl
 simp only [Act.put, ZPa, ZPb, ZPc, ZPd, ZPe, ZPf]
 refine eH_one (k := 2) (fuel := 0) (by kernel_rfl) rfl (by kernel_rfl) (fun K_ hK_ => ?_)
 refine wp_copy_op _ _ _ _ rfl _ _ rfl rfl _ _ (copy_rows (n := 32) (l := b32 0) (c := b32 R ++ b32 S) rl11 rl9 rfl (show 0 + 32 ≤ 64 by decide) (show 0 + 32 ≤ 32 by decide)) ?_
 rw [show Wi.irow .u8 (List.take 0 (b32 0) ++ (List.take 32 (List.drop 0 (b32 R ++ b32 S)) ++ List.drop (0 + 32) (b32 0))) = (kb R) from rfl]
 have hN_ := setRow_heap wd47 (g11) _ (kb R) _ _ rl11
 replace rl7 := (setRow_other wd47 (g11) (g7) (kb R) (by omega)).trans rl7
 replace rl9 := (setRow_other wd47 (g11) (g9) (kb R) (by omega)).trans rl9
 replace rl12 := (setRow_other wd47 (g11) (g11 + 1) (kb R) (by omega)).trans rl12
 replace hw := below_setRow hw (show w.heap.size ≤ g11 by omega) (kb R)
 replace f4 := hS.below hw
 replace hC := hC0.keep hw
 generalize (wd47.setRow (g11) (kb R)) = wc50 at *
 clear rl11
 have rl11 := hN_
 clear hN_
 refine hK_ _ _ trivial ?_
 simp only [Act.put, ZPa, ZPb, ZPc, ZPd, ZPe, ZPf]
 clear hK_
 refine wpAnyH_done (by kernel_rfl) ?_ _
 refine NoPanic.normal ?_
 go_wp2_with (fail)
 have hb : Below wc50.heap.size wc50 wc50.drew := below_drN (Below.refl _ _) 1
 replace rl7 := keep hb rl7
 replace rl9 := keep hb rl9
 replace rl11 := keep hb rl11
 replace rl12 := keep hb rl12
 replace f4 := f4.below hb
 replace hC := hC.keep hb
 replace hw := Below.after hw hb
 clear hb
 refine wp_region_noPanic ?_
 refine wp_region_held (S := fun _ => True) (by kernel_rfl) ?_
 change wpAnyH _ _ _ _ _ _ _ _ (World.drew _)
 generalize wc50.drew = wd51 at *
 refine wpAnyH_take (i := 0) (v := .slice (some ⟨g11 + 1, 0, none⟩) 32 32) rfl (by kernel_rfl) (by kernel_rfl) (by kernel_rfl) (fun _ _ _ h => h) (Or.inl ⟨by rfl, ?y52⟩) (trivial) ?r52
 case y52 =>
  intro w_ hS_
  go_simp
  try with_reducible rfl
 simp only [Act.put, ZPa, ZPc, ZPd, ZPe, ZPf]
 refine wpAnyH_take (i := 1) (v := .slice (some ⟨g9, 32, none⟩) 32 32) rfl (by kernel_rfl) (by kernel_rfl) (by kernel_rfl) (fun _ _ _ h => h) (Or.inl ⟨by rfl, ?y53⟩) (trivial) ?r53
 case y53 =>
  intro w_ hS_
  go_simp
  try with_reducible rfl
 simp only [Act.put, ZPa, ZPb, ZPc, ZPd, ZPe, ZPf]
 refine eH_one (k := 2) (fuel := 0) (by kernel_rfl) rfl (by kernel_rfl) (fun K_ hK_ => ?_)
 refine wp_copy_op _ _ _ _ rfl _ _ rfl rfl _ _ (copy_rows (n := 32) (l := b32 0) (c := b32 R ++ b32 S) rl12 rl9 rfl (show 32 + 32 ≤ 64 by decide) (show 0 + 32 ≤ 32 by decide)) ?_
 rw [show Wi.irow .u8 (List.take 0 (b32 0) ++ (List.take 32 (List.drop 32 (b32 R ++ b32 S)) ++ List.drop (0 + 32) (b32 0))) = (kb S) from rfl]
 have hN_ := setRow_heap wd51 (g11 + 1) _ (kb S) _ _ rl12
 replace rl7 := (setRow_other wd51 (g11 + 1) (g7) (kb S) (by omega)).trans rl7
 replace rl9 := (setRow_other wd51 (g11 + 1) (g9) (kb S) (by omega)).trans rl9
 replace rl11 := (setRow_other wd51 (g11 + 1) (g11) (kb S) (by omega)).trans rl11
 replace hw := below_setRow hw (show w.heap.size ≤ g11 + 1 by omega) (kb S)
 replace f4 := hS.below hw
 replace hC := hC0.keep hw
 generalize (wd51.setRow (g11 + 1) (kb S)) = wc54 at *
 clear rl12
 have rl12 := hN_
 clear hN_
 refine hK_ _ _ trivial ?_
 simp only [Act.put, ZPa, ZPb, ZPc, ZPd, ZPe, ZPf]
 clear hK_
 refine wpAnyH_done (by kernel_rfl) ?_ _
 refine NoPanic.normal ?_
 clear rl9
 go_wp2_with (first | (refine wpList_load_want rfl 25 _ rfl (g7) rfl 25 (kb A) (0, 0) _ rl7 Tryd.underlying25 rfl (kb_info _) ?_) | (refine wpList_load_want rfl 25 _ rfl (g11) rfl 25 (kb R) (0, 0) _ rl11 Tryd.underlying25 rfl (kb_info _) ?_) | (refine wpList_load_want rfl 25 _ rfl (g11 + 1) rfl 25 (kb S) (0, 0) _ rl12 Tryd.underlying25 rfl (kb_info _) ?_) | fail)
 refine (cP1.at f4.1.1).mono ?_
 rintro e_ w11 ⟨rfl, hb⟩
 replace rl7 := keep hb rl7
 replace rl11 := keep hb rl11
 replace rl12 := keep hb rl12
 replace f4 := f4.below hb
 replace hC := hC.keep hb
 replace hw := Below.after hw hb
 clear hb
 go_wp2_with (first | (refine wpList_store_row rfl 45 _ _ rfl (w11.heap.size) xf rfl rfl 45 pz (hp1_0 w11 _) hf.info (pt_zero.size.trans hf.size.symm) hf.one ?_; rw [setRow_alloc_new _ _ _ _ _ _ (by simp)]; refine wpList_stay ?_) | fail)
 unfold WpStay
 try simp only [Act.put]
 have rl13 : (w11.alloc (.cells xf 45)).heap[w11.heap.size]? = some (.cells xf 45 (0, 0)) := hp1_0 w11 _
 have hb : Below w11.heap.size w11 (w11.alloc (.cells xf 45)) := ((Below.refl _ _).alloc (Nat.le_refl _) _)
 generalize (w11.alloc (.cells xf 45)) = w12 at *
 have lt_g13_0 := lt_of_row rl7
 have lt_g13_1 := lt_of_row rl11
 have lt_g13_2 := lt_of_row rl12
 have sz_g13 := hw.size
 replace rl7 := keep hb rl7
 replace rl11 := keep hb rl11
 replace rl12 := keep hb rl12
 replace f4 := f4.below hb
 replace hC := hC.keep hb
 replace hw := Below.after hw hb
 clear hb
 generalize w11.heap.size = g13 at *
 clear w11
 go_wp2_with (first | (refine wpList_load_want rfl 25 _ rfl (g7) rfl 25 (kb A) (0, 0) _ rl7 Tryd.underlying25 rfl (kb_info _) ?_) | (refine wpList_load_want rfl 25 _ rfl (g11) rfl 25 (kb R) (0, 0) _ rl11 Tryd.underlying25 rfl (kb_info _) ?_) | (refine wpList_load_want rfl 25 _ rfl (g11 + 1) rfl 25 (kb S) (0, 0) _ rl12 Tryd.underlying25 rfl (kb_info _) ?_) | (refine wpList_load_want rfl 45 _ rfl (g13) rfl 45 xf (0, 0) _ rl13 Tryd.underlying45 rfl hf.info ?_) | fail)
 refine (cWh.at f4.2).mono ?_
 rintro e_ w13 ⟨rfl, hb⟩
 replace rl7 := keep hb rl7
 replace rl11 := keep hb rl11
 replace rl12 := keep hb rl12
 replace rl13 := keep hb rl13
 replace f4 := f4.below hb
 replace hC := hC.keep hb
 replace hw := Below.after hw hb
 clear hb
 go_wp2_with (first | (refine wpList_store_row rfl 54 _ _ rfl (w13.heap.size) xn rfl rfl 54 (wd 0) (hp1_0 w13 _) on.infoS ((wd_size _).trans on.1.symm) on.2 ?_; rw [setRow_alloc_new _ _ _ _ _ _ (by simp)]; refine wpList_stay ?_) | fail)
 unfold WpStay
 try simp only [Act.put]
 have rl15 : (w13.alloc (.cells xn 54)).heap[w13.heap.size]? = some (.cells xn 54 (0, 0)) := hp1_0 w13 _
 have hb : Below w13.heap.size w13 (w13.alloc (.cells xn 54)) := ((Below.refl _ _).alloc (Nat.le_refl _) _)
 generalize (w13.alloc (.cells xn 54)) = w14 at *
 have lt_g15_0 := lt_of_row rl7
 have lt_g15_1 := lt_of_row rl11
 have lt_g15_2 := lt_of_row rl12
 have lt_g15_3 := lt_of_row rl13
 have sz_g15 := hw.size
 replace rl7 := keep hb rl7
 replace rl11 := keep hb rl11
 replace rl12 := keep hb rl12
 replace rl13 := keep hb rl13
 replace f4 := f4.below hb
 replace hC := hC.keep hb
 replace hw := Below.after hw hb
 clear hb
 generalize w13.heap.size = g15 at *
 clear w13
 clear rl12
 go_wp2_with (first | (refine wpList_load_want rfl 25 _ rfl (g7) rfl 25 (kb A) (0, 0) _ rl7 Tryd.underlying25 rfl (kb_info _) ?_) | (refine wpList_load_want rfl 25 _ rfl (g11) rfl 25 (kb R) (0, 0) _ rl11 Tryd.underlying25 rfl (kb_info _) ?_) | (refine wpList_load_want rfl 45 _ rfl (g13) rfl 45 xf (0, 0) _ rl13 Tryd.underlying45 rfl hf.info ?_) | (refine wpList_load_want rfl 54 _ rfl (g15) rfl 54 xn (0, 0) _ rl15 Tryd.underlying54 rfl on.infoS ?_) | fail)
 refine (cP2.at f4.1.1).mono ?_
 rintro e_ w15 ⟨rfl, hb⟩
 replace rl7 := keep hb rl7
 replace rl11 := keep hb rl11
 replace rl13 := keep hb rl13
 replace rl15 := keep hb rl15
 replace f4 := f4.below hb
 replace hC := hC.keep hb
 replace hw := Below.after hw hb
 clear hb
 go_wp2_with (first | (refine wpList_store_row rfl 45 _ _ rfl (w15.heap.size) xa rfl rfl 45 pz (hp1_0 w15 _) hxa.info (pt_zero.size.trans hxa.size.symm) hxa.one ?_; rw [setRow_alloc_new _ _ _ _ _ _ (by simp)]; refine wpList_stay ?_) | fail)
 unfold WpStay
 try simp only [Act.put]
 have rl17 : (w15.alloc (.cells xa 45)).heap[w15.heap.size]? = some (.cells xa 45 (0, 0)) := hp1_0 w15 _
 have hb : Below w15.heap.size w15 (w15.alloc (.cells xa 45)) := ((Below.refl _ _).alloc (Nat.le_refl _) _)
 generalize (w15.alloc (.cells xa 45)) = w16 at *
 have lt_g17_0 := lt_of_row rl7
 have lt_g17_1 := lt_of_row rl11
 have lt_g17_2 := lt_of_row rl13
 have lt_g17_3 := lt_of_row rl15
 have sz_g17 := hw.size
 replace rl7 := keep hb rl7
 replace rl11 := keep hb rl11
 replace rl13 := keep hb rl13
 replace rl15 := keep hb rl15
 replace f4 := f4.below hb
 replace hC := hC.keep hb
 replace hw := Below.after hw hb
 clear hb
 generalize w15.heap.size = g17 at *
 clear w15
 go_wp2_with (fail)
 go_cut [19] from 20 to 108 (fun u_ wx => ∃ gx, u_ = .pointer (some ⟨gx, 0, none⟩) ∧ g7 < gx ∧ g11 < gx ∧ g13 < gx ∧ g15 < gx ∧ g17 < gx ∧ w.heap.size ≤ gx ∧ wx.heap[g7]? = some (.cells (kb A) 25 (0, 0)) ∧ wx.heap[g11]? = some (.cells (kb R) 25 (0, 0)) ∧ wx.heap[g13]? = some (.cells xf 45 (0, 0)) ∧ wx.heap[g15]? = some (.cells xn 54 (0, 0)) ∧ wx.heap[g17]? = some (.cells xa 45 (0, 0)) ∧ wx.heap[gx]? = some (.cells (sg K Q) 37 (0, 0)) ∧ Sgn wx ∧ BysK wx (.slice bo bl bc) b ∧ Below w.heap.size w wx)
 case first =>
  have hb : Below w16.heap.size w16 w16.drew := below_drN (Below.refl _ _) 1
  replace rl7 := keep hb rl7
  replace rl11 := keep hb rl11
  replace rl13 := keep hb rl13
  replace rl15 := keep hb rl15
  replace rl17 := keep hb rl17
  replace f4 := f4.below hb
  replace hC := hC.keep hb
  replace hw := Below.after hw hb
  clear hb
  refine wp_region_noPanic ?_
  refine wp_region_held (S := fun _ => True) (by kernel_rfl) ?_
  change wpAnyH _ _ _ _ _ _ _ _ (World.drew _)
  generalize w16.drew = wd56 at *
  refine wpAnyH_take (i := 1) (v := .slice (some ⟨g11, 0, none⟩) 32 32) rfl (by kernel_rfl) (by kernel_rfl) (by kernel_rfl) (fun _ _ _ h => h) (Or.inl ⟨by rfl, ?y57⟩) (trivial) ?r57
  case y57 =>
   intro w_ hS_
   go_simp
   try with_reducible rfl
  simp only [Act.put, ZPa, ZPb, ZPc, ZPd, ZPe, ZPf]
  refine wpAnyH_take (i := 3) (v := .slice (some ⟨g7, 0, none⟩) 32 32) rfl (by kernel_rfl) (by kernel_rfl) (by kernel_rfl) (fun _ _ _ h => h) (Or.inl ⟨by rfl, ?y58⟩) (trivial) ?r58
  case y58 =>
   intro w_ hS_
   go_simp
   try with_reducible rfl
  simp only [Act.put, ZPa, ZPb, ZPc, ZPd, ZPe, ZPf]
  refine wpAnyH_take (i := 5) (v := ?v59) rfl (by kernel_rfl) (by kernel_rfl) (by kernel_rfl) (fun _ _ _ h => h) (Or.inl ⟨by rfl, ?y59⟩) (trivial) ?r59
  case y59 =>
   intro w_ hS_
   go_simp
   try with_reducible rfl
  simp only [Act.put, ZPa, ZPb, ZPc, ZPd, ZPe, ZPf]
  refine eH_two (j := 0) (k := 8) (fuel := 6) (by kernel_rfl) rfl rfl (by kernel_rfl) (by kernel_rfl) (fun K_ hK_ => ?_) (fun K_ hK_ => ?_)
  ·skip
   refine e_world_op (.slice (some ⟨wd56.heap.size, 0, none⟩) 0 0) (wd56.alloc (.cells #[] 5)) (by kernel_rfl) ?_
   have hb : Below wd56.heap.size wd56 (wd56.alloc (.cells #[] 5)) := (Below.refl _ _).alloc (Nat.le_refl _) _
   have hO := Wi.own_empty wd56
   have hbs := hb.size
   have hnB := hw.size
   replace rl7 := keep hb rl7
   replace rl11 := keep hb rl11
   replace rl13 := keep hb rl13
   replace rl15 := keep hb rl15
   replace rl17 := keep hb rl17
   replace f4 := f4.below hb
   replace hC := hC.keep hb
   replace hw := Below.after hw hb
   clear hb
   refine hK_ _ _ trivial ?_
   simp only [Act.put, ZPa, ZPc, ZPd, ZPe, ZPf]
   clear hK_
   generalize (wd56.alloc (.cells #[] 5)) = wq60 at *
   generalize wd56.heap.size = gB60 at *
   refine eH_two (j := 2) (k := 8) (fuel := 5) (by kernel_rfl) rfl rfl (by kernel_rfl) (by kernel_rfl) (fun K_ hK_ => ?_) (fun K_ hK_ => ?_)
   ·skip
    refine wp_append_B _ _ rfl gB60 _ ([]) rfl hO (some ⟨g11, 0, none⟩) 32 32 (b32 R) rfl (bysK_row rl11).1 (fun e => by cases e) (by simp [b32] <;> omega) hbs (fun v61 wq61 hO_ hQ_ hs_ hT_ => ?_)
    replace hw := hQ_ _ _ hw hnB
    replace hO := hO_
    replace hbs := hs_
    clear hO_ hQ_ hs_
    replace rl7 := hT_ _ _ _ _ (by decide) rl7
    replace rl11 := hT_ _ _ _ _ (by decide) rl11
    replace rl13 := hT_ _ _ _ _ (by decide) rl13
    replace rl15 := hT_ _ _ _ _ (by decide) rl15
    replace rl17 := hT_ _ _ _ _ (by decide) rl17
    replace f4 := hS.below hw
    replace hC := hC0.keep hw
    clear hT_
    refine hK_ _ _ trivial ?_
    simp only [Act.put, ZPa, ZPb, ZPc, ZPd, ZPe, ZPf]
    clear hK_
    refine eH_two (j := 4) (k := 8) (fuel := 4) (by kernel_rfl) rfl rfl (by kernel_rfl) (by kernel_rfl) (fun K_ hK_ => ?_) (fun K_ hK_ => ?_)
    ·skip
     refine wp_append_B _ _ rfl gB60 _ ([] ++ b32 R) rfl hO (some ⟨g7, 0, none⟩) 32 32 (b32 A) rfl (bysK_row rl7).1 (fun e => by cases e) (by simp [b32] <;> omega) hbs (fun v62 wq62 hO_ hQ_ hs_ hT_ => ?_)
     replace hw := hQ_ _ _ hw hnB
     replace hO := hO_
     replace hbs := hs_
     clear hO_ hQ_ hs_
     replace rl7 := hT_ _ _ _ _ (by decide) rl7
     replace rl11 := hT_ _ _ _ _ (by decide) rl11
     replace rl13 := hT_ _ _ _ _ (by decide) rl13
     replace rl15 := hT_ _ _ _ _ (by decide) rl15
     replace rl17 := hT_ _ _ _ _ (by decide) rl17
     replace f4 := hS.below hw
     replace hC := hC0.keep hw
     clear hT_
     refine hK_ _ _ trivial ?_
     simp only [Act.put, ZPa, ZPb, ZPc, ZPd, ZPe, ZPf]
     clear hK_
     refine eH_two (j := 6) (k := 8) (fuel := 3) (by kernel_rfl) rfl rfl (by kernel_rfl) (by kernel_rfl) (fun K_ hK_ => ?_) (fun K_ hK_ => ?_)
     ·skip
      refine wp_append_B _ _ rfl gB60 _ ([] ++ b32 R ++ b32 A) rfl hO bo bl bc (b) rfl hC.1 hnone (by simp [b32] <;> omega) hbs (fun v63 wq63 hO_ hQ_ hs_ hT_ => ?_)
      replace hw := hQ_ _ _ hw hnB
      replace hO := hO_
      replace hbs := hs_
      clear hO_ hQ_ hs_
      replace rl7 := hT_ _ _ _ _ (by decide) rl7
      replace rl11 := hT_ _ _ _ _ (by decide) rl11
      replace rl13 := hT_ _ _ _ _ (by decide) rl13
      replace rl15 := hT_ _ _ _ _ (by decide) rl15
      replace rl17 := hT_ _ _ _ _ (by decide) rl17
      replace f4 := hS.below hw
      replace hC := hC0.keep hw
      clear hT_
      refine hK_ _ _ trivial ?_
      simp only [Act.put, ZPa, ZPb, ZPc, ZPd, ZPe, ZPf]
      clear hK_
      refine eH_two (j := 7) (k := 8) (fuel := 2) (by kernel_rfl) rfl rfl (by kernel_rfl) (by kernel_rfl) (fun K_ hK_ => ?_) (fun K_ hK_ => ?_)
      ·skip
       refine wp_call_ex (f := 17) (by kernel_rfl) (ex1e (cW_ _ _ _ hO)) (fun v_ wq64 hX_ => ?_)
       obtain ⟨rfl, hb⟩ := hX_
       clear hO hbs
       replace rl7 := keep hb rl7
       replace rl11 := keep hb rl11
       replace rl13 := keep hb rl13
       replace rl15 := keep hb rl15
       replace rl17 := keep hb rl17
       replace f4 := f4.below hb
       replace hC := hC.keep hb
       replace hw := Below.after hw hb
       clear hb
       refine hK_ _ _ (trivial) ?_
       simp only [Act.put, ZPa, ZPb, ZPc, ZPd, ZPe, ZPf]
       clear hK_
       refine eH_one (k := 8) (fuel := 1) (by kernel_rfl) rfl (by kernel_rfl) (fun K_ hK_ => ?_)
       refine e_world_op (.pointer (some ⟨wq64.heap.size, 0, none⟩)) (wq64.alloc (.cells (Wi.irow .u8 (Wi.zr 64)) 37)) (by kernel_rfl) ?_
       have hb : Below wq64.heap.size wq64 (wq64.alloc (.cells (Wi.irow .u8 (Wi.zr 64)) 37)) := (Below.refl _ _).alloc (Nat.le_refl _) _
       have rg65 := hp1_0 wq64 (.cells (Wi.irow .u8 (Wi.zr 64)) 37)
       have lt_g65_0 := lt_of_row rl7
       have lt_g65_1 := lt_of_row rl11
       have lt_g65_2 := lt_of_row rl13
       have lt_g65_3 := lt_of_row rl15
       have lt_g65_4 := lt_of_row rl17
       have sz_g65 := hw.size
       replace rl7 := keep hb rl7
       replace rl11 := keep hb rl11
       replace rl13 := keep hb rl13
       replace rl15 := keep hb rl15
       replace rl17 := keep hb rl17
       replace f4 := f4.below hb
       replace hC := hC.keep hb
       replace hw := Below.after hw hb
       clear hb
       refine hK_ _ _ (trivial) ?_
       simp only [Act.put, ZPa, ZPb, ZPc, ZPd, ZPe, ZPf]
       clear hK_
       generalize (wq64.alloc (.cells (Wi.irow .u8 (Wi.zr 64)) 37)) = wq65 at *
       generalize wq64.heap.size = g65 at *
       refine eH_one (k := 9) (fuel := 0) (by kernel_rfl) rfl (by kernel_rfl) (fun K_ hK_ => ?_)
       refine wp_store_row 37 _ _ rfl (g65) (sg K Q) rfl rfl 37 _ rg65 (sg_infoW _ _) (z64_size.trans (sg_size _ _).symm) (sg_one _ _) ?_
       have hN_ := setRow_heap wq65 (g65) _ (sg K Q) _ _ rg65
       replace rl7 := (setRow_other wq65 (g65) (g7) (sg K Q) (by omega)).trans rl7
       replace rl11 := (setRow_other wq65 (g65) (g11) (sg K Q) (by omega)).trans rl11
       replace rl13 := (setRow_other wq65 (g65) (g13) (sg K Q) (by omega)).trans rl13
       replace rl15 := (setRow_other wq65 (g65) (g15) (sg K Q) (by omega)).trans rl15
       replace rl17 := (setRow_other wq65 (g65) (g17) (sg K Q) (by omega)).trans rl17
       replace hw := below_setRow hw (show w.heap.size ≤ g65 by omega) (sg K Q)
       replace f4 := hS.below hw
       replace hC := hC0.keep hw
       generalize (wq65.setRow (g65) (sg K Q)) = wq66 at *
       clear rg65
       have rg65 := hN_
       clear hN_
       refine hK_ _ _ (trivial) ?_
       simp only [Act.put]
       clear hK_
       refine wpAnyH_done (by kernel_rfl) ?_ _
       refine NoPanic.normal ?_
       go_wp2_with (fail)
       go_meet
       case rel => exact ⟨g65, rfl, by omega, by omega, by omega, by omega, by omega, by omega, rl7, rl11, rl13, rl15, rl17, rg65, f4, hC, hw⟩
      ·skip
       refine e_world_op (.pointer (some ⟨wq63.heap.size, 0, none⟩)) (wq63.alloc (.cells (Wi.irow .u8 (Wi.zr 64)) 37)) (by kernel_rfl) ?_
       have hb : Below wq63.heap.size wq63 (wq63.alloc (.cells (Wi.irow .u8 (Wi.zr 64)) 37)) := (Below.refl _ _).alloc (Nat.le_refl _) _
       have rg67 := hp1_0 wq63 (.cells (Wi.irow .u8 (Wi.zr 64)) 37)
       have lt_g67_0 := lt_of_row rl7
       have lt_g67_1 := lt_of_row rl11
       have lt_g67_2 := lt_of_row rl13
       have lt_g67_3 := lt_of_row rl15
       have lt_g67_4 := lt_of_row rl17
       have sz_g67 := hw.size
       replace rl7 := keep hb rl7
       replace rl11 := keep hb rl11
       replace rl13 := keep hb rl13
       replace rl15 := keep hb rl15
       replace rl17 := keep hb rl17
       replace f4 := f4.below hb
       replace hC := hC.keep hb
       replace hO := Wi.own_keep hO hb
       replace hbs := Nat.le_trans hbs hb.size
       replace hw := Below.after hw hb
       clear hb
       refine hK_ _ _ (trivial) ?_
       simp only [Act.put, ZPa, ZPb, ZPc, ZPd, ZPe, ZPf]
       clear hK_
       generalize (wq63.alloc (.cells (Wi.irow .u8 (Wi.zr 64)) 37)) = wq67 at *
       generalize wq63.heap.size = g67 at *
       refine eH_one (k := 7) (fuel := 1) (by kernel_rfl) rfl (by kernel_rfl) (fun K_ hK_ => ?_)
       refine wp_call_ex (f := 17) (by kernel_rfl) (ex1e (cW_ _ _ _ hO)) (fun v_ wq68 hX_ => ?_)
       obtain ⟨rfl, hb⟩ := hX_
       clear hO hbs
       replace rl7 := keep hb rl7
       replace rl11 := keep hb rl11
       replace rl13 := keep hb rl13
       replace rl15 := keep hb rl15
       replace rl17 := keep hb rl17
       replace rg67 := keep hb rg67
       replace f4 := f4.below hb
       replace hC := hC.keep hb
       replace hw := Below.after hw hb
       clear hb
       refine hK_ _ _ (trivial) ?_
       simp only [Act.put, ZPa, ZPb, ZPc, ZPd, ZPe, ZPf]
       clear hK_
       refine eH_one (k := 9) (fuel := 0) (by kernel_rfl) rfl (by kernel_rfl) (fun K_ hK_ => ?_)
       refine wp_store_row 37 _ _ rfl (g67) (sg K Q) rfl rfl 37 _ rg67 (sg_infoW _ _) (z64_size.trans (sg_size _ _).symm) (sg_one _ _) ?_
       have hN_ := setRow_heap wq68 (g67) _ (sg K Q) _ _ rg67
       replace rl7 := (setRow_other wq68 (g67) (g7) (sg K Q) (by omega)).trans rl7
       replace rl11 := (setRow_other wq68 (g67) (g11) (sg K Q) (by omega)).trans rl11
       replace rl13 := (setRow_other wq68 (g67) (g13) (sg K Q) (by omega)).trans rl13
       replace rl15 := (setRow_other wq68 (g67) (g15) (sg K Q) (by omega)).trans rl15
       replace rl17 := (setRow_other wq68 (g67) (g17) (sg K Q) (by omega)).trans rl17
       replace hw := below_setRow hw (show w.heap.size ≤ g67 by omega) (sg K Q)
       replace f4 := hS.below hw
       replace hC := hC0.keep hw
       generalize (wq68.setRow (g67) (sg K Q)) = wq69 at *
       clear rg67
       have rg67 := hN_
       clear hN_
       refine hK_ _ _ (trivial) ?_
       simp only [Act.put]
       clear hK_
       refine wpAnyH_done (by kernel_rfl) ?_ _
       refine NoPanic.normal ?_
       go_wp2_with (fail)
       go_meet
       case rel => exact ⟨g67, rfl, by omega, by omega, by omega, by omega, by omega, by omega, rl7, rl11, rl13, rl15, rl17, rg67, f4, hC, hw⟩
     ·skip
      refine e_world_op (.pointer (some ⟨wq62.heap.size, 0, none⟩)) (wq62.alloc (.cells (Wi.irow .u8 (Wi.zr 64)) 37)) (by kernel_rfl) ?_
      have hb : Below wq62.heap.size wq62 (wq62.alloc (.cells (Wi.irow .u8 (Wi.zr 64)) 37)) := (Below.refl _ _).alloc (Nat.le_refl _) _
      have rg70 := hp1_0 wq62 (.cells (Wi.irow .u8 (Wi.zr 64)) 37)
      have lt_g70_0 := lt_of_row rl7
      have lt_g70_1 := lt_of_row rl11
      have lt_g70_2 := lt_of_row rl13
      have lt_g70_3 := lt_of_row rl15
      have lt_g70_4 := lt_of_row rl17
      have sz_g70 := hw.size
      replace rl7 := keep hb rl7
      replace rl11 := keep hb rl11
      replace rl13 := keep hb rl13
      replace rl15 := keep hb rl15
      replace rl17 := keep hb rl17
      replace f4 := f4.below hb
      replace hC := hC.keep hb
      replace hO := Wi.own_keep hO hb
      replace hbs := Nat.le_trans hbs hb.size
      replace hw := Below.after hw hb
      clear hb
      refine hK_ _ _ (trivial) ?_
      simp only [Act.put, ZPa, ZPb, ZPc, ZPd, ZPe, ZPf]
      clear hK_
      generalize (wq62.alloc (.cells (Wi.irow .u8 (Wi.zr 64)) 37)) = wq70 at *
      generalize wq62.heap.size = g70 at *
      refine eH_one (k := 6) (fuel := 2) (by kernel_rfl) rfl (by kernel_rfl) (fun K_ hK_ => ?_)
      refine wp_append_B _ _ rfl gB60 _ ([] ++ b32 R ++ b32 A) rfl hO bo bl bc (b) rfl hC.1 hnone (by simp [b32] <;> omega) hbs (fun v71 wq71 hO_ hQ_ hs_ hT_ => ?_)
      replace hw := hQ_ _ _ hw hnB
      replace hO := hO_
      replace hbs := hs_
      clear hO_ hQ_ hs_
      replace rl7 := hT_ _ _ _ _ (by decide) rl7
      replace rl11 := hT_ _ _ _ _ (by decide) rl11
      replace rl13 := hT_ _ _ _ _ (by decide) rl13
      replace rl15 := hT_ _ _ _ _ (by decide) rl15
      replace rl17 := hT_ _ _ _ _ (by decide) rl17
      replace rg70 := hT_ _ _ _ _ (by decide) rg70
      replace f4 := hS.below hw
      replace hC := hC0.keep hw
      clear hT_
      refine hK_ _ _ trivial ?_
      simp only [Act.put, ZPa, ZPb, ZPc, ZPd, ZPe, ZPf]
      clear hK_
      refine eH_one (k := 7) (fuel := 1) (by kernel_rfl) rfl (by kernel_rfl) (fun K_ hK_ => ?_)
      refine wp_call_ex (f := 17) (by kernel_rfl) (ex1e (cW_ _ _ _ hO)) (fun v_ wq72 hX_ => ?_)
      obtain ⟨rfl, hb⟩ := hX_
      clear hO hbs
      replace rl7 := keep hb rl7
      replace rl11 := keep hb rl11
      replace rl13 := keep hb rl13
      replace rl15 := keep hb rl15
      replace rl17 := keep hb rl17
      replace rg70 := keep hb rg70
      replace f4 := f4.below hb
      replace hC := hC.keep hb
      replace hw := Below.after hw hb
      clear hb
      refine hK_ _ _ (trivial) ?_
      simp only [Act.put, ZPa, ZPb, ZPc, ZPd, ZPe, ZPf]
      clear hK_
      refine eH_one (k := 9) (fuel := 0) (by kernel_rfl) rfl (by kernel_rfl) (fun K_ hK_ => ?_)
      refine wp_store_row 37 _ _ rfl (g70) (sg K Q) rfl rfl 37 _ rg70 (sg_infoW _ _) (z64_size.trans (sg_size _ _).symm) (sg_one _ _) ?_
      have hN_ := setRow_heap wq72 (g70) _ (sg K Q) _ _ rg70
      replace rl7 := (setRow_other wq72 (g70) (g7) (sg K Q) (by omega)).trans rl7
      replace rl11 := (setRow_other wq72 (g70) (g11) (sg K Q) (by omega)).trans rl11
      replace rl13 := (setRow_other wq72 (g70) (g13) (sg K Q) (by omega)).trans rl13
      replace rl15 := (setRow_other wq72 (g70) (g15) (sg K Q) (by omega)).trans rl15
      replace rl17 := (setRow_other wq72 (g70) (g17) (sg K Q) (by omega)).trans rl17
      replace hw := below_setRow hw (show w.heap.size ≤ g70 by omega) (sg K Q)
      replace f4 := hS.below hw
      replace hC := hC0.keep hw
      generalize (wq72.setRow (g70) (sg K Q)) = wq73 at *
      clear rg70
      have rg70 := hN_
      clear hN_
      refine hK_ _ _ (trivial) ?_
      simp only [Act.put]
      clear hK_
      refine wpAnyH_done (by kernel_rfl) ?_ _
      refine NoPanic.normal ?_
      go_wp2_with (fail)
      go_meet
      case rel => exact ⟨g70, rfl, by omega, by omega, by omega, by omega, by omega, by omega, rl7, rl11, rl13, rl15, rl17, rg70, f4, hC, hw⟩
    ·skip
     refine e_world_op (.pointer (some ⟨wq61.heap.size, 0, none⟩)) (wq61.alloc (.cells (Wi.irow .u8 (Wi.zr 64)) 37)) (by kernel_rfl) ?_
     have hb : Below wq61.heap.size wq61 (wq61.alloc (.cells (Wi.irow .u8 (Wi.zr 64)) 37)) := (Below.refl _ _).alloc (Nat.le_refl _) _
     have rg74 := hp1_0 wq61 (.cells (Wi.irow .u8 (Wi.zr 64)) 37)
     have lt_g74_0 := lt_of_row rl7
     have lt_g74_1 := lt_of_row rl11
     have lt_g74_2 := lt_of_row rl13
     have lt_g74_3 := lt_of_row rl15
     have lt_g74_4 := lt_of_row rl17
     have sz_g74 := hw.size
     replace rl7 := keep hb rl7
     replace rl11 := keep hb rl11
     replace rl13 := keep hb rl13
     replace rl15 := keep hb rl15
     replace rl17 := keep hb rl17
     replace f4 := f4.below hb
     replace hC := hC.keep hb
     replace hO := Wi.own_keep hO hb
     replace hbs := Nat.le_trans hbs hb.size
     replace hw := Below.after hw hb
     clear hb
     refine hK_ _ _ (trivial) ?_
     simp only [Act.put, ZPa, ZPb, ZPc, ZPd, ZPe, ZPf]
     clear hK_
     generalize (wq61.alloc (.cells (Wi.irow .u8 (Wi.zr 64)) 37)) = wq74 at *
     generalize wq61.heap.size = g74 at *
     refine eH_one (k := 4) (fuel := 3) (by kernel_rfl) rfl (by kernel_rfl) (fun K_ hK_ => ?_)
     refine wp_append_B _ _ rfl gB60 _ ([] ++ b32 R) rfl hO (some ⟨g7, 0, none⟩) 32 32 (b32 A) rfl (bysK_row rl7).1 (fun e => by cases e) (by simp [b32] <;> omega) hbs (fun v75 wq75 hO_ hQ_ hs_ hT_ => ?_)
     replace hw := hQ_ _ _ hw hnB
     replace hO := hO_
     replace hbs := hs_
     clear hO_ hQ_ hs_
     replace rl7 := hT_ _ _ _ _ (by decide) rl7
     replace rl11 := hT_ _ _ _ _ (by decide) rl11
     replace rl13 := hT_ _ _ _ _ (by decide) rl13
     replace rl15 := hT_ _ _ _ _ (by decide) rl15
     replace rl17 := hT_ _ _ _ _ (by decide) rl17
     replace rg74 := hT_ _ _ _ _ (by decide) rg74
     replace f4 := hS.below hw
     replace hC := hC0.keep hw
     clear hT_
     refine hK_ _ _ trivial ?_
     simp only [Act.put, ZPa, ZPb, ZPc, ZPd, ZPe, ZPf]
     clear hK_
     refine eH_one (k := 6) (fuel := 2) (by kernel_rfl) rfl (by kernel_rfl) (fun K_ hK_ => ?_)
     refine wp_append_B _ _ rfl gB60 _ ([] ++ b32 R ++ b32 A) rfl hO bo bl bc (b) rfl hC.1 hnone (by simp [b32] <;> omega) hbs (fun v76 wq76 hO_ hQ_ hs_ hT_ => ?_)
     replace hw := hQ_ _ _ hw hnB
     replace hO := hO_
     replace hbs := hs_
     clear hO_ hQ_ hs_
     replace rl7 := hT_ _ _ _ _ (by decide) rl7
     replace rl11 := hT_ _ _ _ _ (by decide) rl11
     replace rl13 := hT_ _ _ _ _ (by decide) rl13
     replace rl15 := hT_ _ _ _ _ (by decide) rl15
     replace rl17 := hT_ _ _ _ _ (by decide) rl17
     replace rg74 := hT_ _ _ _ _ (by decide) rg74
     replace f4 := hS.below hw
     replace hC := hC0.keep hw
     clear hT_
     refine hK_ _ _ trivial ?_
     simp only [Act.put, ZPa, ZPb, ZPc, ZPd, ZPe, ZPf]
     clear hK_
     refine eH_one (k := 7) (fuel := 1) (by kernel_rfl) rfl (by kernel_rfl) (fun K_ hK_ => ?_)
     refine wp_call_ex (f := 17) (by kernel_rfl) (ex1e (cW_ _ _ _ hO)) (fun v_ wq77 hX_ => ?_)
     obtain ⟨rfl, hb⟩ := hX_
     clear hO hbs
     replace rl7 := keep hb rl7
     replace rl11 := keep hb rl11
     replace rl13 := keep hb rl13
     replace rl15 := keep hb rl15
     replace rl17 := keep hb rl17
     replace rg74 := keep hb rg74
     replace f4 := f4.below hb
     replace hC := hC.keep hb
     replace hw := Below.after hw hb
     clear hb
     refine hK_ _ _ (trivial) ?_
     simp only [Act.put, ZPa, ZPb, ZPc, ZPd, ZPe, ZPf]
     clear hK_
     refine eH_one (k := 9) (fuel := 0) (by kernel_rfl) rfl (by kernel_rfl) (fun K_ hK_ => ?_)
     refine wp_store_row 37 _ _ rfl (g74) (sg K Q) rfl rfl 37 _ rg74 (sg_infoW _ _) (z64_size.trans (sg_size _ _).symm) (sg_one _ _) ?_
     have hN_ := setRow_heap wq77 (g74) _ (sg K Q) _ _ rg74
     replace rl7 := (setRow_other wq77 (g74) (g7) (sg K Q) (by omega)).trans rl7
     replace rl11 := (setRow_other wq77 (g74) (g11) (sg K Q) (by omega)).trans rl11
     replace rl13 := (setRow_other wq77 (g74) (g13) (sg K Q) (by omega)).trans rl13
     replace rl15 := (setRow_other wq77 (g74) (g15) (sg K Q) (by omega)).trans rl15
     replace rl17 := (setRow_other wq77 (g74) (g17) (sg K Q) (by omega)).trans rl17
     replace hw := below_setRow hw (show w.heap.size ≤ g74 by omega) (sg K Q)
     replace f4 := hS.below hw
     replace hC := hC0.keep hw
     generalize (wq77.setRow (g74) (sg K Q)) = wq78 at *
     clear rg74
     have rg74 := hN_
     clear hN_
     refine hK_ _ _ (trivial) ?_
     simp only [Act.put]
     clear hK_
     refine wpAnyH_done (by kernel_rfl) ?_ _
     refine NoPanic.normal ?_
     go_wp2_with (fail)
     go_meet
     case rel => exact ⟨g74, rfl, by omega, by omega, by omega, by omega, by omega, by omega, rl7, rl11, rl13, rl15, rl17, rg74, f4, hC, hw⟩
   ·skip
    refine e_world_op (.pointer (some ⟨wq60.heap.size, 0, none⟩)) (wq60.alloc (.cells (Wi.irow .u8 (Wi.zr 64)) 37)) (by kernel_rfl) ?_
    have hb : Below wq60.heap.size wq60 (wq60.alloc (.cells (Wi.irow .u8 (Wi.zr 64)) 37)) := (Below.refl _ _).alloc (Nat.le_refl _) _
    have rg79 := hp1_0 wq60 (.cells (Wi.irow .u8 (Wi.zr 64)) 37)
    have lt_g79_0 := lt_of_row rl7
    have lt_g79_1 := lt_of_row rl11
    have lt_g79_2 := lt_of_row rl13
    have lt_g79_3 := lt_of_row rl15
    have lt_g79_4 := lt_of_row rl17
    have sz_g79 := hw.size
    replace rl7 := keep hb rl7
    replace rl11 := keep hb rl11
    replace rl13 := keep hb rl13
    replace rl15 := keep hb rl15
    replace rl17 := keep hb rl17
    replace f4 := f4.below hb
    replace hC := hC.keep hb
    replace hO := Wi.own_keep hO hb
    replace hbs := Nat.le_trans hbs hb.size
    replace hw := Below.after hw hb
    clear hb
    refine hK_ _ _ (trivial) ?_
    simp only [Act.put, ZPa, ZPb, ZPc, ZPd, ZPe, ZPf]
    clear hK_
    generalize (wq60.alloc (.cells (Wi.irow .u8 (Wi.zr 64)) 37)) = wq79 at *
    generalize wq60.heap.size = g79 at *
    refine eH_one (k := 2) (fuel := 4) (by kernel_rfl) rfl (by kernel_rfl) (fun K_ hK_ => ?_)
    refine wp_append_B _ _ rfl gB60 _ ([]) rfl hO (some ⟨g11, 0, none⟩) 32 32 (b32 R) rfl (bysK_row rl11).1 (fun e => by cases e) (by simp [b32] <;> omega) hbs (fun v80 wq80 hO_ hQ_ hs_ hT_ => ?_)
    replace hw := hQ_ _ _ hw hnB
    replace hO := hO_
    replace hbs := hs_
    clear hO_ hQ_ hs_
    replace rl7 := hT_ _ _ _ _ (by decide) rl7
    replace rl11 := hT_ _ _ _ _ (by decide) rl11
    replace rl13 := hT_ _ _ _ _ (by decide) rl13
    replace rl15 := hT_ _ _ _ _ (by decide) rl15
    replace rl17 := hT_ _ _ _ _ (by decide) rl17
    replace rg79 := hT_ _ _ _ _ (by decide) rg79
    replace f4 := hS.below hw
    replace hC := hC0.keep hw
    clear hT_
    refine hK_ _ _ trivial ?_
    simp only [Act.put, ZPa, ZPb, ZPc, ZPd, ZPe, ZPf]
    clear hK_
    refine eH_one (k := 4) (fuel := 3) (by kernel_rfl) rfl (by kernel_rfl) (fun K_ hK_ => ?_)
    refine wp_append_B _ _ rfl gB60 _ ([] ++ b32 R) rfl hO (some ⟨g7, 0, none⟩) 32 32 (b32 A) rfl (bysK_row rl7).1 (fun e => by cases e) (by simp [b32] <;> omega) hbs (fun v81 wq81 hO_ hQ_ hs_ hT_ => ?_)
    replace hw := hQ_ _ _ hw hnB
    replace hO := hO_
    replace hbs := hs_
    clear hO_ hQ_ hs_
    replace rl7 := hT_ _ _ _ _ (by decide) rl7
    replace rl11 := hT_ _ _ _ _ (by decide) rl11
    replace rl13 := hT_ _ _ _ _ (by decide) rl13
    replace rl15 := hT_ _ _ _ _ (by decide) rl15
    replace rl17 := hT_ _ _ _ _ (by decide) rl17
    replace rg79 := hT_ _ _ _ _ (by decide) rg79
    replace f4 := hS.below hw
    replace hC := hC0.keep hw
    clear hT_
    refine hK_ _ _ trivial ?_
    simp only [Act.put, ZPa, ZPb, ZPc, ZPd, ZPe, ZPf]
    clear hK_
    refine eH_one (k := 6) (fuel := 2) (by kernel_rfl) rfl (by kernel_rfl) (fun K_ hK_ => ?_)
    refine wp_append_B _ _ rfl gB60 _ ([] ++ b32 R ++ b32 A) rfl hO bo bl bc (b) rfl hC.1 hnone (by simp [b32] <;> omega) hbs (fun v82 wq82 hO_ hQ_ hs_ hT_ => ?_)
    replace hw := hQ_ _ _ hw hnB
    replace hO := hO_
    replace hbs := hs_
    clear hO_ hQ_ hs_
    replace rl7 := hT_ _ _ _ _ (by decide) rl7
    replace rl11 := hT_ _ _ _ _ (by decide) rl11
    replace rl13 := hT_ _ _ _ _ (by decide) rl13
    replace rl15 := hT_ _ _ _ _ (by decide) rl15
    replace rl17 := hT_ _ _ _ _ (by decide) rl17
    replace rg79 := hT_ _ _ _ _ (by decide) rg79
    replace f4 := hS.below hw
    replace hC := hC0.keep hw
    clear hT_
    refine hK_ _ _ trivial ?_
    simp only [Act.put, ZPa, ZPb, ZPc, ZPd, ZPe, ZPf]
    clear hK_
    refine eH_one (k := 7) (fuel := 1) (by kernel_rfl) rfl (by kernel_rfl) (fun K_ hK_ => ?_)
    refine wp_call_ex (f := 17) (by kernel_rfl) (ex1e (cW_ _ _ _ hO)) (fun v_ wq83 hX_ => ?_)
    obtain ⟨rfl, hb⟩ := hX_
    clear hO hbs
    replace rl7 := keep hb rl7
    replace rl11 := keep hb rl11
    replace rl13 := keep hb rl13
    replace rl15 := keep hb rl15
    replace rl17 := keep hb rl17
    replace rg79 := keep hb rg79
    replace f4 := f4.below hb
    replace hC := hC.keep hb
    replace hw := Below.after hw hb
    clear hb
    refine hK_ _ _ (trivial) ?_
    simp only [Act.put, ZPa, ZPb, ZPc, ZPd, ZPe, ZPf]
    clear hK_
    refine eH_one (k := 9) (fuel := 0) (by kernel_rfl) rfl (by kernel_rfl) (fun K_ hK_ => ?_)
    refine wp_store_row 37 _ _ rfl (g79) (sg K Q) rfl rfl 37 _ rg79 (sg_infoW _ _) (z64_size.trans (sg_size _ _).symm) (sg_one _ _) ?_
    have hN_ := setRow_heap wq83 (g79) _ (sg K Q) _ _ rg79
    replace rl7 := (setRow_other wq83 (g79) (g7) (sg K Q) (by omega)).trans rl7
    replace rl11 := (setRow_other wq83 (g79) (g11) (sg K Q) (by omega)).trans rl11
    replace rl13 := (setRow_other wq83 (g79) (g13) (sg K Q) (by omega)).trans rl13
    replace rl15 := (setRow_other wq83 (g79) (g15) (sg K Q) (by omega)).trans rl15
    replace rl17 := (setRow_other wq83 (g79) (g17) (sg K Q) (by omega)).trans rl17
    replace hw := below_setRow hw (show w.heap.size ≤ g79 by omega) (sg K Q)
    replace f4 := hS.below hw
    replace hC := hC0.keep hw
    generalize (wq83.setRow (g79) (sg K Q)) = wq84 at *
    clear rg79
    have rg79 := hN_
    clear hN_
    refine hK_ _ _ (trivial) ?_
    simp only [Act.put]
    clear hK_
    refine wpAnyH_done (by kernel_rfl) ?_ _
    refine NoPanic.normal ?_
    go_wp2_with (fail)
    go_meet
    case rel => exact ⟨g79, rfl, by omega, by omega, by omega, by omega, by omega, by omega, rl7, rl11, rl13, rl15, rl17, rg79, f4, hC, hw⟩
  ·skip
   refine e_world_op (.pointer (some ⟨wd56.heap.size, 0, none⟩)) (wd56.alloc (.cells (Wi.irow .u8 (Wi.zr 64)) 37)) (by kernel_rfl) ?_
   have hb : Below wd56.heap.size wd56 (wd56.alloc (.cells (Wi.irow .u8 (Wi.zr 64)) 37)) := (Below.refl _ _).alloc (Nat.le_refl _) _
   have rg85 := hp1_0 wd56 (.cells (Wi.irow .u8 (Wi.zr 64)) 37)
   have lt_g85_0 := lt_of_row rl7
   have lt_g85_1 := lt_of_row rl11
   have lt_g85_2 := lt_of_row rl13
   have lt_g85_3 := lt_of_row rl15
   have lt_g85_4 := lt_of_row rl17
   have sz_g85 := hw.size
   replace rl7 := keep hb rl7
   replace rl11 := keep hb rl11
   replace rl13 := keep hb rl13
   replace rl15 := keep hb rl15
   replace rl17 := keep hb rl17
   replace f4 := f4.below hb
   replace hC := hC.keep hb
   replace hw := Below.after hw hb
   clear hb
   refine hK_ _ _ (trivial) ?_
   simp only [Act.put, ZPa, ZPb, ZPc, ZPd, ZPe, ZPf]
   clear hK_
   generalize (wd56.alloc (.cells (Wi.irow .u8 (Wi.zr 64)) 37)) = wq85 at *
   generalize wd56.heap.size = g85 at *
   refine eH_one (k := 0) (fuel := 5) (by kernel_rfl) rfl (by kernel_rfl) (fun K_ hK_ => ?_)
   refine e_world_op (.slice (some ⟨wq85.heap.size, 0, none⟩) 0 0) (wq85.alloc (.cells #[] 5)) (by kernel_rfl) ?_
   have hb : Below wq85.heap.size wq85 (wq85.alloc (.cells #[] 5)) := (Below.refl _ _).alloc (Nat.le_refl _) _
   have hO := Wi.own_empty wq85
   have hbs := hb.size
   have hnB := hw.size
   replace rl7 := keep hb rl7
   replace rl11 := keep hb rl11
   replace rl13 := keep hb rl13
   replace rl15 := keep hb rl15
   replace rl17 := keep hb rl17
   replace rg85 := keep hb rg85
   replace f4 := f4.below hb
   replace hC := hC.keep hb
   replace hw := Below.after hw hb
   clear hb
   refine hK_ _ _ trivial ?_
   simp only [Act.put, ZPa, ZPc, ZPd, ZPe, ZPf]
   clear hK_
   generalize (wq85.alloc (.cells #[] 5)) = wq86 at *
   generalize wq85.heap.size = gB86 at *
   refine eH_one (k := 2) (fuel := 4) (by kernel_rfl) rfl (by kernel_rfl) (fun K_ hK_ => ?_)
   refine wp_append_B _ _ rfl gB86 _ ([]) rfl hO (some ⟨g11, 0, none⟩) 32 32 (b32 R) rfl (bysK_row rl11).1 (fun e => by cases e) (by simp [b32] <;> omega) hbs (fun v87 wq87 hO_ hQ_ hs_ hT_ => ?_)
   replace hw := hQ_ _ _ hw hnB
   replace hO := hO_
   replace hbs := hs_
   clear hO_ hQ_ hs_
   replace rl7 := hT_ _ _ _ _ (by decide) rl7
   replace rl11 := hT_ _ _ _ _ (by decide) rl11
   replace rl13 := hT_ _ _ _ _ (by decide) rl13
   replace rl15 := hT_ _ _ _ _ (by decide) rl15
   replace rl17 := hT_ _ _ _ _ (by decide) rl17
   replace rg85 := hT_ _ _ _ _ (by decide) rg85
   replace f4 := hS.below hw
   replace hC := hC0.keep hw
   clear hT_
   refine hK_ _ _ trivial ?_
   simp only [Act.put, ZPa, ZPb, ZPc, ZPd, ZPe, ZPf]
   clear hK_
   refine eH_one (k := 4) (fuel := 3) (by kernel_rfl) rfl (by kernel_rfl) (fun K_ hK_ => ?_)
   refine wp_append_B _ _ rfl gB86 _ ([] ++ b32 R) rfl hO (some ⟨g7, 0, none⟩) 32 32 (b32 A) rfl (bysK_row rl7).1 (fun e => by cases e) (by simp [b32] <;> omega) hbs (fun v88 wq88 hO_ hQ_ hs_ hT_ => ?_)
   replace hw := hQ_ _ _ hw hnB
   replace hO := hO_
   replace hbs := hs_
   clear hO_ hQ_ hs_
   replace rl7 := hT_ _ _ _ _ (by decide) rl7
   replace rl11 := hT_ _ _ _ _ (by decide) rl11
   replace rl13 := hT_ _ _ _ _ (by decide) rl13
   replace rl15 := hT_ _ _ _ _ (by decide) rl15
   replace rl17 := hT_ _ _ _ _ (by decide) rl17
   replace rg85 := hT_ _ _ _ _ (by decide) rg85
   replace f4 := hS.below hw
   replace hC := hC0.keep hw
   clear hT_
   refine hK_ _ _ trivial ?_
   simp only [Act.put, ZPa, ZPb, ZPc, ZPd, ZPe, ZPf]
   clear hK_
   refine eH_one (k := 6) (fuel := 2) (by kernel_rfl) rfl (by kernel_rfl) (fun K_ hK_ => ?_)
   refine wp_append_B _ _ rfl gB86 _ ([] ++ b32 R ++ b32 A) rfl hO bo bl bc (b) rfl hC.1 hnone (by simp [b32] <;> omega) hbs (fun v89 wq89 hO_ hQ_ hs_ hT_ => ?_)
   replace hw := hQ_ _ _ hw hnB
   replace hO := hO_
   replace hbs := hs_
   clear hO_ hQ_ hs_
   replace rl7 := hT_ _ _ _ _ (by decide) rl7
   replace rl11 := hT_ _ _ _ _ (by decide) rl11
   replace rl13 := hT_ _ _ _ _ (by decide) rl13
   replace rl15 := hT_ _ _ _ _ (by decide) rl15
   replace rl17 := hT_ _ _ _ _ (by decide) rl17
   replace rg85 := hT_ _ _ _ _ (by decide) rg85
   replace f4 := hS.below hw
   replace hC := hC0.keep hw
   clear hT_
   refine hK_ _ _ trivial ?_
   simp only [Act.put, ZPa, ZPb, ZPc, ZPd, ZPe, ZPf]
   clear hK_
   refine eH_one (k := 7) (fuel := 1) (by kernel_rfl) rfl (by kernel_rfl) (fun K_ hK_ => ?_)
   refine wp_call_ex (f := 17) (by kernel_rfl) (ex1e (cW_ _ _ _ hO)) (fun v_ wq90 hX_ => ?_)
   obtain ⟨rfl, hb⟩ := hX_
   clear hO hbs
   replace rl7 := keep hb rl7
   replace rl11 := keep hb rl11
   replace rl13 := keep hb rl13
   replace rl15 := keep hb rl15
   replace rl17 := keep hb rl17
   replace rg85 := keep hb rg85
   replace f4 := f4.below hb
   replace hC := hC.keep hb
   replace hw := Below.after hw hb
   clear hb
   refine hK_ _ _ (trivial) ?_
   simp only [Act.put, ZPa, ZPb, ZPc, ZPd, ZPe, ZPf]
   clear hK_
   refine eH_one (k := 9) (fuel := 0) (by kernel_rfl) rfl (by kernel_rfl) (fun K_ hK_ => ?_)
   refine wp_store_row 37 _ _ rfl (g85) (sg K Q) rfl rfl 37 _ rg85 (sg_infoW _ _) (z64_size.trans (sg_size _ _).symm) (sg_one _ _) ?_
   have hN_ := setRow_heap wq90 (g85) _ (sg K Q) _ _ rg85
   replace rl7 := (setRow_other wq90 (g85) (g7) (sg K Q) (by omega)).trans rl7
   replace rl11 := (setRow_other wq90 (g85) (g11) (sg K Q) (by omega)).trans rl11
   replace rl13 := (setRow_other wq90 (g85) (g13) (sg K Q) (by omega)).trans rl13
   replace rl15 := (setRow_other wq90 (g85) (g15) (sg K Q) (by omega)).trans rl15
   replace rl17 := (setRow_other wq90 (g85) (g17) (sg K Q) (by omega)).trans rl17
   replace hw := below_setRow hw (show w.heap.size ≤ g85 by omega) (sg K Q)
   replace f4 := hS.below hw
   replace hC := hC0.keep hw
   generalize (wq90.setRow (g85) (sg K Q)) = wq91 at *
   clear rg85
   have rg85 := hN_
   clear hN_
   refine hK_ _ _ (trivial) ?_
   simp only [Act.put]
   clear hK_
   refine wpAnyH_done (by kernel_rfl) ?_ _
   refine NoPanic.normal ?_
   go_wp2_with (fail)
   go_meet
   case rel => exact ⟨g85, rfl, by omega, by omega, by omega, by omega, by omega, by omega, rl7, rl11, rl13, rl15, rl17, rg85, f4, hC, hw⟩
 case rest =>
  obtain ⟨gc55, rfl, ltc55_0, ltc55_1, ltc55_2, ltc55_3, ltc55_4, szc55, rl7, rl11, rl13, rl15, rl17, rc55, f4, hC, hw⟩ := hcut
  go_wp2_with (fail)
  have hb : Below wc.heap.size wc wc.drew := below_drN (Below.refl _ _) 1
  replace rl7 := keep hb rl7
  replace rl11 := keep hb rl11
  replace rl13 := keep hb rl13
  replace rl15 := keep hb rl15
  replace rl17 := keep hb rl17
  replace rc55 := keep hb rc55
  replace f4 := f4.below hb
  replace hC := hC.keep hb
  replace hw := Below.after hw hb
  clear hb
  refine wp_region_noPanic ?_
  refine wp_region_held (S := fun W_ => W_.heap[g15]? = some (.cells xn 54 (0, 0)) ∧ W_.heap[g13]? = some (.cells xf 45 (0, 0)) ∧ W_.heap[g17]? = some (.cells xa 45 (0, 0))) (by kernel_rfl) ?_
  change wpAnyH _ _ _ _ _ _ _ _ (World.drew _)
  generalize wc.drew = wd92 at *
  refine wpAnyH_take (i := 1) (v := .agg xn) rfl (by kernel_rfl) (by kernel_rfl) (by kernel_rfl) (fun _ _ _ h => h) (Or.inl ⟨by rfl, ?y93⟩) (⟨rl15, rl13, rl17⟩) ?r93
  case y93 =>
   intro w_ hS_
   simp only [List.getElem_toArray, List.getElem_cons_succ, List.getElem_cons_zero]
   exact e_load_part 54 _ (by rfl) (g15) 0 (by rfl) 54 xn (0, 0) xn _ (hS_.1) (all_rowe _) Tryd.underlying54 rfl on.infoS
  simp only [Act.put, ZPa, ZPb, ZPc, ZPd, ZPe, ZPf]
  refine wpAnyH_take (i := 3) (v := .agg xf) rfl (by kernel_rfl) (by kernel_rfl) (by kernel_rfl) (fun _ _ _ h => h) (Or.inl ⟨by rfl, ?y94⟩) (⟨rl15, rl13, rl17⟩) ?r94
  case y94 =>
   intro w_ hS_
   simp only [List.getElem_toArray, List.getElem_cons_succ, List.getElem_cons_zero]
   exact e_load_part 45 _ (by rfl) (g13) 0 (by rfl) 45 xf (0, 0) xf _ (hS_.2.1) (all_rowe _) Tryd.underlying45 rfl hf.info
  simp only [Act.put, ZPa, ZPb, ZPc, ZPd, ZPe, ZPf]
  refine wpAnyH_take (i := 4) (v := .agg xa) rfl (by kernel_rfl) (by kernel_rfl) (by kernel_rfl) (fun _ _ _ h => h) (Or.inl ⟨by rfl, ?y95⟩) (⟨rl15, rl13, rl17⟩) ?r95
  case y95 =>
   intro w_ hS_
   simp only [List.getElem_toArray, List.getElem_cons_succ, List.getElem_cons_zero]
   exact e_load_part 45 _ (by rfl) (g17) 0 (by rfl) 45 xa (0, 0) xa _ (hS_.2.2) (all_rowe _) Tryd.underlying45 rfl hxa.info
  simp only [Act.put, ZPa, ZPb, ZPc, ZPd, ZPe, ZPf]
  refine wpAnyH_take (i := 5) (v := .slice (some ⟨gc55, 0, none⟩) 64 64) rfl (by kernel_rfl) (by kernel_rfl) (by kernel_rfl) (fun _ _ _ h => h) (Or.inl ⟨by rfl, ?y96⟩) (⟨rl15, rl13, rl17⟩) ?r96
  case y96 =>
   intro w_ hS_
   go_simp
   try with_reducible rfl
  simp only [Act.put, ZPa, ZPb, ZPc, ZPd, ZPe, ZPf]
  refine eH_one (k := 0) (fuel := 9) (by kernel_rfl) rfl (by kernel_rfl) (fun K_ hK_ => ?_)
  refine wp_call_ex (f := 19) (by kernel_rfl) (ex1e (cB.at f4.1)) (fun v_ wq97 hX_ => ?_)
  obtain ⟨rfl, hb⟩ := hX_
  replace rl7 := keep hb rl7
  replace rl11 := keep hb rl11
  replace rl13 := keep hb rl13
  replace rl15 := keep hb rl15
  replace rl17 := keep hb rl17
  replace rc55 := keep hb rc55
  replace f4 := f4.below hb
  replace hC := hC.keep hb
  replace hw := Below.after hw hb
  clear hb
  refine hK_ _ _ (⟨rl15, rl13, rl17⟩) ?_
  simp only [Act.put, ZPa, ZPc, ZPd, ZPe, ZPf]
  clear hK_
  refine eH_one (k := 2) (fuel := 8) (by kernel_rfl) rfl (by kernel_rfl) (fun K_ hK_ => ?_)
  refine wp_call_ex (f := 24) (by kernel_rfl) (ex1e (cT.at f4.four)) (fun v_ wq98 hX_ => ?_)
  obtain ⟨rfl, hb⟩ := hX_
  replace rl7 := keep hb rl7
  replace rl11 := keep hb rl11
  replace rl13 := keep hb rl13
  replace rl15 := keep hb rl15
  replace rl17 := keep hb rl17
  replace rc55 := keep hb rc55
  replace f4 := f4.below hb
  replace hC := hC.keep hb
  replace hw := Below.after hw hb
  clear hb
  refine hK_ _ _ (⟨rl15, rl13, rl17⟩) ?_
  simp only [Act.put, ZPa, ZPb, ZPc, ZPd, ZPe, ZPf]
  clear hK_
  refine eH_one (k := 6) (fuel := 7) (by kernel_rfl) rfl (by kernel_rfl) (fun K_ hK_ => ?_)
  refine wp_call_ex (f := 27) (by kernel_rfl) (ex1e (cR _ _ f4.2 (bysK_sg rc55).1)) (fun v_ wq99 hX_ => ?_)
  obtain ⟨rfl, hb⟩ := hX_
  replace rl7 := keep hb rl7
  replace rl11 := keep hb rl11
  replace rl13 := keep hb rl13
  replace rl15 := keep hb rl15
  replace rl17 := keep hb rl17
  replace rc55 := keep hb rc55
  replace f4 := f4.below hb
  replace hC := hC.keep hb
  replace hw := Below.after hw hb
  clear hb
  refine hK_ _ _ (⟨rl15, rl13, rl17⟩) ?_
  simp only [Act.put, ZPa, ZPb, ZPc, ZPd, ZPe, ZPf]
  clear hK_
  refine eH_one (k := 7) (fuel := 6) (by kernel_rfl) rfl (by kernel_rfl) (fun K_ hK_ => ?_)
  refine wp_call_ex (f := 24) (by kernel_rfl) (ex1e (cT2.at f4.four)) (fun v_ wq100 hX_ => ?_)
  obtain ⟨rfl, hb⟩ := hX_
  replace rl7 := keep hb rl7
  replace rl11 := keep hb rl11
  replace rl13 := keep hb rl13
  replace rl15 := keep hb rl15
  replace rl17 := keep hb rl17
  replace rc55 := keep hb rc55
  replace f4 := f4.below hb
  replace hC := hC.keep hb
  replace hw := Below.after hw hb
  clear hb
  refine hK_ _ _ (⟨rl15, rl13, rl17⟩) ?_
  simp only [Act.put, ZPa, ZPb, ZPc, ZPd, ZPe, ZPf]
  clear hK_
  refine eH_one (k := 8) (fuel := 5) (by kernel_rfl) rfl (by kernel_rfl) (fun K_ hK_ => ?_)
  refine wp_call_ex (f := 26) (by kernel_rfl) (ex1e (cA.at f4.four)) (fun v_ wq101 hX_ => ?_)
  obtain ⟨rfl, hb⟩ := hX_
  replace rl7 := keep hb rl7
  replace rl11 := keep hb rl11
  replace rl13 := keep hb rl13
  replace rl15 := keep hb rl15
  replace rl17 := keep hb rl17
  replace rc55 := keep hb rc55
  replace f4 := f4.below hb
  replace hC := hC.keep hb
  replace hw := Below.after hw hb
  clear hb
  refine hK_ _ _ (⟨rl15, rl13, rl17⟩) ?_
  simp only [Act.put, ZPa, ZPb, ZPc, ZPd, ZPe, ZPf]
  clear hK_
  refine eH_one (k := 9) (fuel := 4) (by kernel_rfl) rfl (by kernel_rfl) (fun K_ hK_ => ?_)
  refine wp_call_ex (f := 25) (by kernel_rfl) (ex1e (cE.at _)) (fun v_ wq102 hX_ => ?_)
  obtain ⟨rfl, hb⟩ := hX_
  replace rl7 := keep hb rl7
  replace rl11 := keep hb rl11
  replace rl13 := keep hb rl13
  replace rl15 := keep hb rl15
  replace rl17 := keep hb rl17
  replace rc55 := keep hb rc55
  replace f4 := f4.below hb
  replace hC := hC.keep hb
  replace hw := Below.after hw hb
  clear hb
  refine hK_ _ _ (⟨rl15, rl13, rl17⟩) ?_
  simp only [Act.put, ZPa, ZPb, ZPc, ZPd, ZPe, ZPf]
  clear hK_
  refine wpAnyH_take (i := 10) (v := ?v103) rfl (by kernel_rfl) (by kernel_rfl) (by kernel_rfl) (fun _ _ _ h => h) (Or.inl ⟨by rfl, ?y103⟩) (⟨rl15, rl13, rl17⟩) ?r103
  case y103 =>
   intro w_ hS_
   go_simp
   try with_reducible rfl
  simp only [Act.put, ZPa, ZPb, ZPc, ZPd, ZPe, ZPf]
  refine eH_one (k := 11) (fuel := 2) (by kernel_rfl) rfl (by kernel_rfl) (fun K_ hK_ => ?_)
  refine wp_call_ex (f := 3) (by kernel_rfl) (ex1e (cV.at f4)) (fun v_ wq104 hX_ => ?_)
  obtain ⟨rfl, hb⟩ := hX_
  replace rl7 := keep hb rl7
  replace rl11 := keep hb rl11
  replace rl13 := keep hb rl13
  replace rl15 := keep hb rl15
  replace rl17 := keep hb rl17
  replace rc55 := keep hb rc55
  replace f4 := f4.below hb
  replace hC := hC.keep hb
  replace hw := Below.after hw hb
  clear hb
  refine hK_ _ _ (⟨rl15, rl13, rl17⟩) ?_
  simp only [Act.put, ZPa, ZPb, ZPc, ZPd, ZPe, ZPf]
  clear hK_
  refine wpAnyH_take (i := 12) (v := ?v105) rfl (by kernel_rfl) (by kernel_rfl) (by kernel_rfl) (fun _ _ _ h => h) (Or.inl ⟨by rfl, ?y105⟩) (⟨rl15, rl13, rl17⟩) ?r105
  case y105 =>
   intro w_ hS_
   go_simp
   try with_reducible rfl
  simp only [Act.put, ZPa, ZPb, ZPc, ZPd, ZPe, ZPf]
  refine wpAnyH_take (i := 13) (v := ?v106) rfl (by kernel_rfl) (by kernel_rfl) (by kernel_rfl) (fun _ _ _ h => h) (Or.inl ⟨by rfl, ?y106⟩) (⟨rl15, rl13, rl17⟩) ?r106
  case y106 =>
   intro w_ hS_
   go_simp
   try with_reducible rfl
  simp only [Act.put, ZPa, ZPb, ZPc, ZPd, ZPe, ZPf]
  refine wpAnyH_done (by kernel_rfl) ?_ _
  refine NoPanic.normal ?_
  go_wp2_with (fail)
  go_ret
  exact ⟨rfl, hw⟩
theorem parts_any {sd b : List Int} (w : World) {v u : Value} (hS : Sgn w) (hB : BysK w v sd) (hC : BysK w u b) (hnone : ∀ a l c, u = .slice a l c → a = none → c = 0) (hlen : b.length ≤ 140737488351232) : Calls Tryd.prog 6 #[v, u] w fun e w' => e = .returned (.bool true) ∧ Below w.heap.size w w' := by
 obtain ⟨ao, cap, rfl, _⟩ := hB.slc
 obtain ⟨bo, bc, rfl, _⟩ := hC.slc
 by_cases hl : sd.length = 32
 ·have h0 : 0 ≤ sec sd := (sec_key sd).bd.1
  have hSb := sgS_bd (sga sd) (sgr sd b) (pb (pubP sd)) b
  obtain ⟨xb, hb, cB⟩ := a_Base
  obtain ⟨xs, hs, cSc⟩ := a_Scale hb (b32 (sec sd)) (b32_bd _)
  rw [sec_val] at hs
  obtain ⟨xf, hf, cP1⟩ := a_Parse (sigR_key sd b)
  have hpe : pe (sigR sd b) = 0 := pe_pb _
  have hpp : pp (sigR sd b) = ml (sgr sd b).toNat bp := pp_pb _
  rw [hpp] at hf
  rw [hpe] at cP1
  obtain ⟨xa, hxa, cP2⟩ := a_Parse (pb_key (pubP sd))
  rw [pp_pb] at hxa
  rw [pe_pb] at cP2
  have cWh := a_Whole (sigS_key sd b)
  rw [if_neg (show ¬ L19 ≤ sigS sd b by unfold sigS; omega), if_neg (show ¬ L19 ≤ sigS sd b by unfold sigS; omega)] at cWh
  have hbz : ∀ z ∈ b, 0 ≤ z ∧ z < 256 := by obtain ⟨⟨_, _, _, _, _, h⟩, _⟩ := hC; exact h
  have eL : [] ++ b32 (sigR sd b) ++ b32 (pb (pubP sd)) ++ b = b32 (sigR sd b) ++ (b32 (pb (pubP sd)) ++ b) := by simp
  have hz : ∀ z ∈ [] ++ b32 (sigR sd b) ++ b32 (pb (pubP sd)) ++ b, 0 ≤ z ∧ z < 256 := by
   rw [eL]
   intro z h
   rcases List.mem_append.1 h with h | h
   ·exact b32_bd _ z h
   ·exact (List.mem_append.1 h).elim (b32_bd _ z) (hbz z)
  have hll : ([] ++ b32 (sigR sd b) ++ b32 (pb (pubP sd)) ++ b).length ≤ 4611686018427380000 := by simp [b32]; omega
  obtain ⟨x1, h1, cT⟩ := a_Times hb (show 0 ≤ sigS sd b ∧ sigS sd b < L19 from hSb)
  obtain ⟨x2, h2, cT2⟩ := a_Times hxa (nbr_bd ([] ++ b32 (sigR sd b) ++ b32 (pb (pubP sd)) ++ b))
  obtain ⟨x3, h3, cA⟩ := a_Add hf h2
  have cE := a_Equal h1 h3
  have hh := sig_hold (a := sga sd) (r := sgr sd b) (c := chl (sigR sd b) (pb (pubP sd)) b) (sga_bd sd).1 (nbr_bd _).1 (nbr_bd _).1 (show ml (sga sd).toNat bp = pubP sd by unfold sga pubP; exact ml_red h0)
  have key : ml (sigS sd b).toNat bp = pl (ml (sgr sd b).toNat bp) (ml (nbr ([] ++ b32 (sigR sd b) ++ b32 (pb (pubP sd)) ++ b)).toNat (pubP sd)) := by
   rw [eL]
   change _ = pl _ (ml (chl (sigR sd b) (pb (pubP sd)) b).toNat (pubP sd))
   rw [← hh, pl_back]
   rfl
  rw [(eqb_iff _ _).2 key] at cE
  rw [hl] at hB ⊢
  refine parts_walk (K1 := sK sd) (Q1 := sP sd) (ks := sec sd) (A := pb (pubP sd)) (R := sigR sd b) (S := sigS sd b) hf hxa (wdo _) (sec_key sd) w hS hB hC (fun e => hnone _ _ _ rfl e) hlen a_vec (fun W h => ?_) (a_clamp (sK_key sd)) (fun W h1 h2 => ?_) (fun W h1 h2 h3 => a_Sign_ok hl W h1 h2 h3) cB cSc (a_Bytes hs) (fun W => ?_) cP1 cWh cP2 (fun W base v hO => sum_own hO hz hll) cT (nbr_halves _) cT2 cA cE
  ·have h' := Wi.a_sum sd W _ h.1 h.2.1 (by have := h.2.2; omega)
   rw [sum_sg] at h'
   exact h'
  ·have h := a_Public W h1 h2
   unfold pbk pbe at h
   rw [if_pos hl, if_pos hl] at h
   exact h
  ·rw [kb_equal _ _ (pb_bd _).1 (pb_bd _).2 (pb_bd _).1 (pb_bd _).2]; simp
 ·exact parts_bad w hS hB hC hl a_vec
end Go.Proofs.YtajaiiidafkijaaDoor

