import Derived.Test.YtdcpcdkbhgkmlaaDoorProg
import Derived.WalkKit
import Derived.WalkSpells
import Derived.WalkLawsBesides
import Derived.Lib.QuietBelow
import Derived.BigQuiet
import Derived.Deep.Cut
import Derived.Deep.CutRange
import Derived.Test.YtdcpcdkbhgkmlaaDoorDSrc
import Derived.Test.YtdcpcdkbhgkmlaaDoorDDsj
namespace Go.Proofs.YtdcpcdkbhgkmlaaDoor
set_option maxRecDepth 100000
open Go Go.RowKit Go.Sort
attribute [local go_sem] setCell_drewN alloc_drewN
theorem bysK_l19 {W : World} {g n : Nat} {l : List Int} {t : TypeId} (r : W.heap[g]? = some (.cells (Wi.irow .u8 l) t (0, 0))) (hn : l.length = n) (hz : ∀ z ∈ l, 0 ≤ z ∧ z < 256) (hl : n ≤ 1000) : BysK W (.slice (some ⟨g, 0, none⟩) n n) l := by
 subst hn
 exact ⟨Wi.Bys.of_row r (by omega) hz _, fun a l c h => by cases h; exact Nat.le_refl _, by omega⟩
set_option maxRecDepth 100000 in
set_option maxHeartbeats 8000000 in
theorem scal_walk {a b : List Int} {x y u v s t : Array Value} {N E e1 e2 e3 e4 e5 e6 : Int} (ox : WdO x) (oy : WdO y) (ou : WdR u) (ov : WdR v) (os : WdO s) (ot : WdR t) (w : World) {ao bo : Option Addr} {la ca lb cb : Nat} (hS : Ord w) (hA0 : BysK w (.slice ao la ca) a) (hB0 : BysK w (.slice bo lb cb) b)
 (cRa : ∀ W, Ord W → Bys W (.slice ao la ca) a → Calls Tryd.prog 16 #[.slice ao la ca] W fun e w' => e = .returned (.agg x) ∧ Below W.heap.size W w') (cRb : ∀ W, Ord W → Bys W (.slice bo lb cb) b → Calls Tryd.prog 16 #[.slice bo lb cb] W fun e w' => e = .returned (.agg y) ∧ Below W.heap.size W w') (cTa : ∀ W, Bys W (.slice ao la ca) a → Calls Tryd.prog 17 #[.slice ao la ca] W fun e w' => e = .returned (.agg u) ∧ Below W.heap.size W w') (cTb : ∀ W, Bys W (.slice bo lb cb) b → Calls Tryd.prog 17 #[.slice bo lb cb] W fun e w' => e = .returned (.agg v) ∧ Below W.heap.size W w')
 (cWe : GivesO 18 #[.agg (kb N)] (.tuple #[.agg s, .int .i64 E])) (cWr : Gives 19 #[.agg (kb N)] (.tuple #[.agg t, .int .i64 E])) (c1 : Gives 20 #[.agg s] (.agg (kb e1))) (c2 : Gives 21 #[.agg t] (.agg (kb e1))) (c3 : Gives 20 #[.agg x] (.agg (kb e2))) (c4 : Gives 21 #[.agg u] (.agg (kb e2))) {s5 : Array Value} (c5 : GivesO 22 #[.agg x, .agg y] (.agg s5)) (c6 : Gives 20 #[.agg s5] (.agg (kb e3))) {s7 : Array Value} (c7 : Gives 23 #[.agg u, .agg v] (.agg s7)) (c8 : Gives 21 #[.agg s7] (.agg (kb e3))) {s9 : Array Value} (c9 : GivesO 24 #[.agg x, .agg y] (.agg s9)) (c10 : Gives 20 #[.agg s9] (.agg (kb e4))) {s11 : Array Value} (c11 : Gives 25 #[.agg u, .agg v] (.agg s11)) (c12 : Gives 21 #[.agg s11] (.agg (kb e4))) {s13 : Array Value} (c13 : GivesO 26 #[.agg x, .agg y] (.agg s13)) (c14 : Gives 20 #[.agg s13] (.agg (kb e5))) {s15 : Array Value} (c15 : Gives 27 #[.agg u, .agg v] (.agg s15)) (c16 : Gives 21 #[.agg s15] (.agg (kb e5))) {s17 : Array Value} (c17 : GivesO 28 #[.agg x] (.agg s17)) (c18 : Gives 20 #[.agg s17] (.agg (kb e6))) {s19 : Array Value} (c19 : Gives 29 #[.agg u] (.agg s19)) (c20 : Gives 21 #[.agg s19] (.agg (kb e6))) (q0 : ∀ W, (Op.equalIn 10000 23 (.agg (kb e1)) (.agg (kb e1))).run Tryd.prog W = .ok true W) (q1 : ∀ W, (Op.equalIn 10000 23 (.agg (kb e2)) (.agg (kb e2))).run Tryd.prog W = .ok true W) (q2 : ∀ W, (Op.equalIn 10000 23 (.agg (kb e3)) (.agg (kb e3))).run Tryd.prog W = .ok true W) (q3 : ∀ W, (Op.equalIn 10000 23 (.agg (kb e4)) (.agg (kb e4))).run Tryd.prog W = .ok true W) (q4 : ∀ W, (Op.equalIn 10000 23 (.agg (kb e5)) (.agg (kb e5))).run Tryd.prog W = .ok true W) (q5 : ∀ W, (Op.equalIn 10000 23 (.agg (kb e6)) (.agg (kb e6))).run Tryd.prog W = .ok true W) {o7 : Array Value} (cR7 : ∀ W z, Ord W → Bys W z [7] → Calls Tryd.prog 16 #[z] W fun e w' => e = .returned (.agg o7) ∧ Below W.heap.size W w') (cB7 : Gives 20 #[.agg o7] (.agg (kb 7))) (q7 : ∀ W, (Op.equalIn 10000 23 (.agg (kb 7)) (.agg (kb 7))).run Tryd.prog W = .ok true W) : Calls Tryd.prog 4 #[.slice ao la ca, .slice bo lb cb, .agg (kb N)] w fun e w' => e = .returned (.bool true) ∧ Below w.heap.size w w' := by
 have rp0 := hp1_0 w (.cells (kb N) 23)
 have hw : Below w.heap.size w (w.alloc (.cells (kb N) 23)) := ((Below.refl _ _).alloc (Nat.le_refl _) _)
 have f4 := hS.below (show Below w.heap.size w (w.alloc (.cells (kb N) 23)) from hw)
 have hA := hA0.keep (show Below w.heap.size w (w.alloc (.cells (kb N) 23)) from hw)
 have hB := hB0.keep (show Below w.heap.size w (w.alloc (.cells (kb N) 23)) from hw)
 go_enter Tryd.func4, Tryd.ntmps4
 iterate 6 go_step
 generalize (w.alloc (.cells (kb N) 23)) = w0 at *
 go_wp2_with (fail)
 refine (cRa _ f4 hA.1).mono ?_
 rintro e_ w1 ⟨rfl, hb⟩
 replace rp0 := keep hb rp0
 replace f4 := f4.below hb
 replace hA := hA.keep hb
 replace hB := hB.keep hb
 replace hw := Below.after hw hb
 clear hb
 go_wp2_with (fail)
 refine (cRb _ f4 hB.1).mono ?_
 rintro e_ w2 ⟨rfl, hb⟩
 replace rp0 := keep hb rp0
 replace f4 := f4.below hb
 replace hA := hA.keep hb
 replace hB := hB.keep hb
 replace hw := Below.after hw hb
 clear hb
 go_wp2_with (first | (refine wpList_store_row rfl 53 _ _ rfl (w2.heap.size) x rfl rfl 53 (wd 0) (hp2_0 w2 _ _) ox.infoS ((wd_size _).trans ox.1.symm) ox.2 ?_; rw [setRow_alloc_old _ _ _ _ (by simp), setRow_alloc_new _ _ _ _ _ _ (by simp)]) | (refine wpList_store_row rfl 53 _ _ rfl (w2.heap.size + 1) y rfl rfl 53 (wd 0) (hp2_1 w2 _ _) oy.infoS ((wd_size _).trans oy.1.symm) oy.2 ?_; rw [setRow_alloc_new _ _ _ _ _ _ (by simp)]; refine wpList_stay ?_) | fail)
 unfold WpStay
 try simp only [Act.put]
 have rl7 : ((w2.alloc (.cells x 53)).alloc (.cells y 53)).heap[w2.heap.size]? = some (.cells x 53 (0, 0)) := hp2_0 w2 _ _
 have rl8 : ((w2.alloc (.cells x 53)).alloc (.cells y 53)).heap[w2.heap.size + 1]? = some (.cells y 53 (0, 0)) := hp2_1 w2 _ _
 have hb : Below w2.heap.size w2 ((w2.alloc (.cells x 53)).alloc (.cells y 53)) := (((Below.refl _ _).alloc (Nat.le_refl _) _).alloc (by simp) _)
 generalize ((w2.alloc (.cells x 53)).alloc (.cells y 53)) = w3 at *
 have lt_g7_0 := lt_of_row rp0
 have sz_g7 := hw.size
 replace rp0 := keep hb rp0
 replace f4 := f4.below hb
 replace hA := hA.keep hb
 replace hB := hB.keep hb
 replace hw := Below.after hw hb
 clear hb
 generalize w2.heap.size = g7 at *
 clear w2
 go_wp2_with (fail)
 refine (cTa _ hA.1).mono ?_
 rintro e_ w4 ⟨rfl, hb⟩
 replace rp0 := keep hb rp0
 replace rl7 := keep hb rl7
 replace rl8 := keep hb rl8
 replace f4 := f4.below hb
 replace hA := hA.keep hb
 replace hB := hB.keep hb
 replace hw := Below.after hw hb
 clear hb
 go_wp2_with (fail)
 refine (cTb _ hB.1).mono ?_
 rintro e_ w5 ⟨rfl, hb⟩
 replace rp0 := keep hb rp0
 replace rl7 := keep hb rl7
 replace rl8 := keep hb rl8
 replace f4 := f4.below hb
 replace hA := hA.keep hb
 replace hB := hB.keep hb
 replace hw := Below.after hw hb
 clear hb
 go_wp2_with (first | (refine wpList_store_row rfl 58 _ _ rfl (w5.heap.size) u rfl rfl 58 (d16 0) (hp2_0 w5 _ _) ou.infoR ((d16_size _).trans ou.1.symm) ou.2 ?_; rw [setRow_alloc_old _ _ _ _ (by simp), setRow_alloc_new _ _ _ _ _ _ (by simp)]) | (refine wpList_store_row rfl 58 _ _ rfl (w5.heap.size + 1) v rfl rfl 58 (d16 0) (hp2_1 w5 _ _) ov.infoR ((d16_size _).trans ov.1.symm) ov.2 ?_; rw [setRow_alloc_new _ _ _ _ _ _ (by simp)]; refine wpList_stay ?_) | fail)
 unfold WpStay
 try simp only [Act.put]
 have rl9 : ((w5.alloc (.cells u 58)).alloc (.cells v 58)).heap[w5.heap.size]? = some (.cells u 58 (0, 0)) := hp2_0 w5 _ _
 have rl10 : ((w5.alloc (.cells u 58)).alloc (.cells v 58)).heap[w5.heap.size + 1]? = some (.cells v 58 (0, 0)) := hp2_1 w5 _ _
 have hb : Below w5.heap.size w5 ((w5.alloc (.cells u 58)).alloc (.cells v 58)) := (((Below.refl _ _).alloc (Nat.le_refl _) _).alloc (by simp) _)
 generalize ((w5.alloc (.cells u 58)).alloc (.cells v 58)) = w6 at *
 have lt_g9_0 := lt_of_row rp0
 have lt_g9_1 := lt_of_row rl7
 have lt_g9_2 := lt_of_row rl8
 have sz_g9 := hw.size
 replace rp0 := keep hb rp0
 replace rl7 := keep hb rl7
 replace rl8 := keep hb rl8
 replace f4 := f4.below hb
 replace hA := hA.keep hb
 replace hB := hB.keep hb
 replace hw := Below.after hw hb
 clear hb
 generalize w5.heap.size = g9 at *
 clear w5
 go_wp2_with (first | (refine wpList_load_want rfl 23 _ rfl (w.heap.size) rfl 23 (kb N) (0, 0) _ rp0 Tryd.underlying23 rfl (kb_info _) ?_) | (refine wpList_load_want rfl 53 _ rfl (g7) rfl 53 x (0, 0) _ rl7 Tryd.underlying53 rfl ox.infoS ?_) | (refine wpList_load_want rfl 53 _ rfl (g7 + 1) rfl 53 y (0, 0) _ rl8 Tryd.underlying53 rfl oy.infoS ?_) | (refine wpList_load_want rfl 58 _ rfl (g9) rfl 58 u (0, 0) _ rl9 Tryd.underlying58 rfl ou.infoR ?_) | (refine wpList_load_want rfl 58 _ rfl (g9 + 1) rfl 58 v (0, 0) _ rl10 Tryd.underlying58 rfl ov.infoR ?_) | fail)
 refine (cWe.at f4).mono ?_
 rintro e_ w7 ⟨rfl, hb⟩
 replace rp0 := keep hb rp0
 replace rl7 := keep hb rl7
 replace rl8 := keep hb rl8
 replace rl9 := keep hb rl9
 replace rl10 := keep hb rl10
 replace f4 := f4.below hb
 replace hA := hA.keep hb
 replace hB := hB.keep hb
 replace hw := Below.after hw hb
 clear hb
 go_wp2_with (first | (refine wpList_store_row rfl 53 _ _ rfl (w7.heap.size) s rfl rfl 53 (wd 0) (hp1_0 w7 _) os.infoS ((wd_size _).trans os.1.symm) os.2 ?_; rw [setRow_alloc_new _ _ _ _ _ _ (by simp)]; refine wpList_stay ?_) | fail)
 unfold WpStay
 try simp only [Act.put]
 have rl11 : (w7.alloc (.cells s 53)).heap[w7.heap.size]? = some (.cells s 53 (0, 0)) := hp1_0 w7 _
 have hb : Below w7.heap.size w7 (w7.alloc (.cells s 53)) := ((Below.refl _ _).alloc (Nat.le_refl _) _)
 generalize (w7.alloc (.cells s 53)) = w8 at *
 have lt_g11_0 := lt_of_row rp0
 have lt_g11_1 := lt_of_row rl7
 have lt_g11_2 := lt_of_row rl8
 have lt_g11_3 := lt_of_row rl9
 have lt_g11_4 := lt_of_row rl10
 have sz_g11 := hw.size
 replace rp0 := keep hb rp0
 replace rl7 := keep hb rl7
 replace rl8 := keep hb rl8
 replace rl9 := keep hb rl9
 replace rl10 := keep hb rl10
 replace f4 := f4.below hb
 replace hA := hA.keep hb
 replace hB := hB.keep hb
 replace hw := Below.after hw hb
 clear hb
 generalize w7.heap.size = g11 at *
 clear w7
 go_wp2_with (first | (refine wpList_load_want rfl 23 _ rfl (w.heap.size) rfl 23 (kb N) (0, 0) _ rp0 Tryd.underlying23 rfl (kb_info _) ?_) | (refine wpList_load_want rfl 53 _ rfl (g7) rfl 53 x (0, 0) _ rl7 Tryd.underlying53 rfl ox.infoS ?_) | (refine wpList_load_want rfl 53 _ rfl (g7 + 1) rfl 53 y (0, 0) _ rl8 Tryd.underlying53 rfl oy.infoS ?_) | (refine wpList_load_want rfl 58 _ rfl (g9) rfl 58 u (0, 0) _ rl9 Tryd.underlying58 rfl ou.infoR ?_) | (refine wpList_load_want rfl 58 _ rfl (g9 + 1) rfl 58 v (0, 0) _ rl10 Tryd.underlying58 rfl ov.infoR ?_) | (refine wpList_load_want rfl 53 _ rfl (g11) rfl 53 s (0, 0) _ rl11 Tryd.underlying53 rfl os.infoS ?_) | fail)
 refine (cWr.at _).mono ?_
 rintro e_ w9 ⟨rfl, hb⟩
 replace rp0 := keep hb rp0
 replace rl7 := keep hb rl7
 replace rl8 := keep hb rl8
 replace rl9 := keep hb rl9
 replace rl10 := keep hb rl10
 replace rl11 := keep hb rl11
 replace f4 := f4.below hb
 replace hA := hA.keep hb
 replace hB := hB.keep hb
 replace hw := Below.after hw hb
 clear hb
 go_wp2_with (first | (refine wpList_store_row rfl 58 _ _ rfl (w9.heap.size) t rfl rfl 58 (d16 0) (hp1_0 w9 _) ot.infoR ((d16_size _).trans ot.1.symm) ot.2 ?_; rw [setRow_alloc_new _ _ _ _ _ _ (by simp)]; refine wpList_stay ?_) | fail)
 unfold WpStay
 try simp only [Act.put]
 have rl13 : (w9.alloc (.cells t 58)).heap[w9.heap.size]? = some (.cells t 58 (0, 0)) := hp1_0 w9 _
 have hb : Below w9.heap.size w9 (w9.alloc (.cells t 58)) := ((Below.refl _ _).alloc (Nat.le_refl _) _)
 generalize (w9.alloc (.cells t 58)) = w10 at *
 have lt_g13_0 := lt_of_row rp0
 have lt_g13_1 := lt_of_row rl7
 have lt_g13_2 := lt_of_row rl8
 have lt_g13_3 := lt_of_row rl9
 have lt_g13_4 := lt_of_row rl10
 have lt_g13_5 := lt_of_row rl11
 have sz_g13 := hw.size
 replace rp0 := keep hb rp0
 replace rl7 := keep hb rl7
 replace rl8 := keep hb rl8
 replace rl9 := keep hb rl9
 replace rl10 := keep hb rl10
 replace rl11 := keep hb rl11
 replace f4 := f4.below hb
 replace hA := hA.keep hb
 replace hB := hB.keep hb
 replace hw := Below.after hw hb
 clear hb
 generalize w9.heap.size = g13 at *
 clear w9
 clear hA hB
 go_wp2_with (fail)
 have hb : Below w10.heap.size w10 w10.drew := below_drN (Below.refl _ _) 1
 replace rp0 := keep hb rp0
 replace rl7 := keep hb rl7
 replace rl8 := keep hb rl8
 replace rl9 := keep hb rl9
 replace rl10 := keep hb rl10
 replace rl11 := keep hb rl11
 replace rl13 := keep hb rl13
 replace f4 := f4.below hb
 replace hw := Below.after hw hb
 clear hb
 refine wp_region_noPanic ?_
 refine wp_region_held (S := fun W_ => W_.heap[g7]? = some (.cells x 53 (0, 0)) ∧ W_.heap[g7 + 1]? = some (.cells y 53 (0, 0)) ∧ W_.heap[g9]? = some (.cells u 58 (0, 0)) ∧ W_.heap[g9 + 1]? = some (.cells v 58 (0, 0)) ∧ W_.heap[g11]? = some (.cells s 53 (0, 0)) ∧ W_.heap[g13]? = some (.cells t 58 (0, 0))) (by kernel_rfl) ?_
 change wpAnyH _ _ _ _ _ _ _ _ (World.drew _)
 generalize w10.drew = wd11 at *
 refine wpAnyH_take (i := 0) (v := ?v12) rfl (by kernel_rfl) (by kernel_rfl) (by kernel_rfl) (fun _ _ _ h => h) (Or.inl ⟨by rfl, ?y12⟩) (⟨rl7, rl8, rl9, rl10, rl11, rl13⟩) ?r12
 case y12 =>
  intro w_ hS_
  go_simp
  try with_reducible rfl
 simp only [Act.put, ZPa, ZPc, ZPd, ZPe, ZPf]
 refine wpAnyH_take (i := 1) (v := ?v13) rfl (by kernel_rfl) (by kernel_rfl) (by kernel_rfl) (fun _ _ _ h => h) (Or.inl ⟨by rfl, ?y13⟩) (⟨rl7, rl8, rl9, rl10, rl11, rl13⟩) ?r13
 case y13 =>
  intro w_ hS_
  go_simp
  try with_reducible rfl
 simp only [Act.put, ZPa, ZPb, ZPc, ZPd, ZPe, ZPf]
 refine wpAnyH_take (i := 2) (v := ?v14) rfl (by kernel_rfl) (by kernel_rfl) (by kernel_rfl) (fun _ _ _ h => h) (Or.inl ⟨by rfl, ?y14⟩) (⟨rl7, rl8, rl9, rl10, rl11, rl13⟩) ?r14
 case y14 =>
  intro w_ hS_
  go_simp
  try with_reducible rfl
 simp only [Act.put, ZPa, ZPb, ZPc, ZPd, ZPe, ZPf]
 refine wpAnyH_take (i := 3) (v := ?v15) rfl (by kernel_rfl) (by kernel_rfl) (by kernel_rfl) (fun _ _ _ h => h) (Or.inl ⟨by rfl, ?y15⟩) (⟨rl7, rl8, rl9, rl10, rl11, rl13⟩) ?r15
 case y15 =>
  intro w_ hS_
  go_simp
  try with_reducible rfl
 simp only [Act.put, ZPa, ZPb, ZPc, ZPd, ZPe, ZPf]
 refine wpAnyH_take (i := 4) (v := .agg s) rfl (by kernel_rfl) (by kernel_rfl) (by kernel_rfl) (fun _ _ _ h => h) (Or.inl ⟨by rfl, ?y16⟩) (⟨rl7, rl8, rl9, rl10, rl11, rl13⟩) ?r16
 case y16 =>
  intro w_ hS_
  simp only [List.getElem_toArray, List.getElem_cons_succ, List.getElem_cons_zero]
  exact e_load_part 53 _ (by rfl) (g11) 0 (by rfl) 53 s (0, 0) s _ (hS_.2.2.2.2.1) (all_rowe _) Tryd.underlying53 rfl os.infoS
 simp only [Act.put, ZPa, ZPb, ZPc, ZPd, ZPe, ZPf]
 refine wpAnyH_take (i := 6) (v := .agg t) rfl (by kernel_rfl) (by kernel_rfl) (by kernel_rfl) (fun _ _ _ h => h) (Or.inl ⟨by rfl, ?y17⟩) (⟨rl7, rl8, rl9, rl10, rl11, rl13⟩) ?r17
 case y17 =>
  intro w_ hS_
  simp only [List.getElem_toArray, List.getElem_cons_succ, List.getElem_cons_zero]
  exact e_load_part 58 _ (by rfl) (g13) 0 (by rfl) 58 t (0, 0) t _ (hS_.2.2.2.2.2) (all_rowe _) Tryd.underlying58 rfl ot.infoR
 simp only [Act.put, ZPa, ZPb, ZPc, ZPd, ZPe, ZPf]
 refine eH_one (k := 5) (fuel := 21) (by kernel_rfl) rfl (by kernel_rfl) (fun K_ hK_ => ?_)
 refine wp_call_ex (f := 20) (by kernel_rfl) (ex1e (c1.at _)) (fun v_ wq18 hX_ => ?_)
 obtain ⟨rfl, hb⟩ := hX_
 replace rp0 := keep hb rp0
 replace rl7 := keep hb rl7
 replace rl8 := keep hb rl8
 replace rl9 := keep hb rl9
 replace rl10 := keep hb rl10
 replace rl11 := keep hb rl11
 replace rl13 := keep hb rl13
 replace f4 := f4.below hb
 replace hw := Below.after hw hb
 clear hb
 refine hK_ _ _ (⟨rl7, rl8, rl9, rl10, rl11, rl13⟩) ?_
 simp only [Act.put, ZPa, ZPb, ZPc, ZPd, ZPe, ZPf]
 clear hK_
 refine eH_one (k := 7) (fuel := 20) (by kernel_rfl) rfl (by kernel_rfl) (fun K_ hK_ => ?_)
 refine wp_call_ex (f := 21) (by kernel_rfl) (ex1e (c2.at _)) (fun v_ wq19 hX_ => ?_)
 obtain ⟨rfl, hb⟩ := hX_
 replace rp0 := keep hb rp0
 replace rl7 := keep hb rl7
 replace rl8 := keep hb rl8
 replace rl9 := keep hb rl9
 replace rl10 := keep hb rl10
 replace rl11 := keep hb rl11
 replace rl13 := keep hb rl13
 replace f4 := f4.below hb
 replace hw := Below.after hw hb
 clear hb
 refine hK_ _ _ (⟨rl7, rl8, rl9, rl10, rl11, rl13⟩) ?_
 simp only [Act.put, ZPa, ZPb, ZPc, ZPd, ZPe, ZPf]
 clear hK_
 refine wpAnyH_take (i := 8) (v := ?v20) rfl (by kernel_rfl) (by kernel_rfl) (by kernel_rfl) (fun _ _ _ h => h) (Or.inl ⟨by rfl, ?y20⟩) (⟨rl7, rl8, rl9, rl10, rl11, rl13⟩) ?r20
 case y20 =>
  intro w_ hS_
  go_simp
  try with_reducible rfl
 simp only [Act.put, ZPa, ZPb, ZPc, ZPd, ZPe, ZPf]
 refine wpAnyH_take (i := 9) (v := ?v21) rfl (by kernel_rfl) (by kernel_rfl) (by kernel_rfl) (fun _ _ _ h => h) (Or.inl ⟨by rfl, ?y21⟩) (⟨rl7, rl8, rl9, rl10, rl11, rl13⟩) ?r21
 case y21 =>
  intro w_ hS_
  go_simp
  try with_reducible rfl
 simp only [Act.put, ZPa, ZPb, ZPc, ZPd, ZPe, ZPf]
 refine wpAnyH_take (i := 10) (v := ?v22) rfl (by kernel_rfl) (by kernel_rfl) (by kernel_rfl) (fun _ _ _ h => h) (Or.inl ⟨by rfl, ?y22⟩) (⟨rl7, rl8, rl9, rl10, rl11, rl13⟩) ?r22
 case y22 =>
  intro w_ hS_
  go_simp
  try with_reducible rfl
 simp only [Act.put, ZPa, ZPb, ZPc, ZPd, ZPe, ZPf]
 refine wpAnyH_take (i := 11) (v := .agg x) rfl (by kernel_rfl) (by kernel_rfl) (by kernel_rfl) (fun _ _ _ h => h) (Or.inl ⟨by rfl, ?y23⟩) (⟨rl7, rl8, rl9, rl10, rl11, rl13⟩) ?r23
 case y23 =>
  intro w_ hS_
  simp only [List.getElem_toArray, List.getElem_cons_succ, List.getElem_cons_zero]
  exact e_load_part 53 _ (by rfl) (g7) 0 (by rfl) 53 x (0, 0) x _ (hS_.1) (all_rowe _) Tryd.underlying53 rfl ox.infoS
 simp only [Act.put, ZPa, ZPb, ZPc, ZPd, ZPe, ZPf]
 refine wpAnyH_take (i := 13) (v := .agg u) rfl (by kernel_rfl) (by kernel_rfl) (by kernel_rfl) (fun _ _ _ h => h) (Or.inl ⟨by rfl, ?y24⟩) (⟨rl7, rl8, rl9, rl10, rl11, rl13⟩) ?r24
 case y24 =>
  intro w_ hS_
  simp only [List.getElem_toArray, List.getElem_cons_succ, List.getElem_cons_zero]
  exact e_load_part 58 _ (by rfl) (g9) 0 (by rfl) 58 u (0, 0) u _ (hS_.2.2.1) (all_rowe _) Tryd.underlying58 rfl ou.infoR
 simp only [Act.put, ZPa, ZPb, ZPc, ZPd, ZPe, ZPf]
 refine eH_one (k := 12) (fuel := 14) (by kernel_rfl) rfl (by kernel_rfl) (fun K_ hK_ => ?_)
 refine wp_call_ex (f := 20) (by kernel_rfl) (ex1e (c3.at _)) (fun v_ wq25 hX_ => ?_)
 obtain ⟨rfl, hb⟩ := hX_
 replace rp0 := keep hb rp0
 replace rl7 := keep hb rl7
 replace rl8 := keep hb rl8
 replace rl9 := keep hb rl9
 replace rl10 := keep hb rl10
 replace rl11 := keep hb rl11
 replace rl13 := keep hb rl13
 replace f4 := f4.below hb
 replace hw := Below.after hw hb
 clear hb
 refine hK_ _ _ (⟨rl7, rl8, rl9, rl10, rl11, rl13⟩) ?_
 simp only [Act.put, ZPa, ZPb, ZPc, ZPd, ZPe, ZPf]
 clear hK_
 refine eH_one (k := 14) (fuel := 13) (by kernel_rfl) rfl (by kernel_rfl) (fun K_ hK_ => ?_)
 refine wp_call_ex (f := 21) (by kernel_rfl) (ex1e (c4.at _)) (fun v_ wq26 hX_ => ?_)
 obtain ⟨rfl, hb⟩ := hX_
 replace rp0 := keep hb rp0
 replace rl7 := keep hb rl7
 replace rl8 := keep hb rl8
 replace rl9 := keep hb rl9
 replace rl10 := keep hb rl10
 replace rl11 := keep hb rl11
 replace rl13 := keep hb rl13
 replace f4 := f4.below hb
 replace hw := Below.after hw hb
 clear hb
 refine hK_ _ _ (⟨rl7, rl8, rl9, rl10, rl11, rl13⟩) ?_
 simp only [Act.put, ZPa, ZPb, ZPc, ZPd, ZPe, ZPf]
 clear hK_
 refine wpAnyH_take (i := 15) (v := ?v27) rfl (by kernel_rfl) (by kernel_rfl) (by kernel_rfl) (fun _ _ _ h => h) (Or.inl ⟨by rfl, ?y27⟩) (⟨rl7, rl8, rl9, rl10, rl11, rl13⟩) ?r27
 case y27 =>
  intro w_ hS_
  go_simp
  try with_reducible rfl
 simp only [Act.put, ZPa, ZPb, ZPc, ZPd, ZPe, ZPf]
 refine wpAnyH_take (i := 16) (v := ?v28) rfl (by kernel_rfl) (by kernel_rfl) (by kernel_rfl) (fun _ _ _ h => h) (Or.inl ⟨by rfl, ?y28⟩) (⟨rl7, rl8, rl9, rl10, rl11, rl13⟩) ?r28
 case y28 =>
  intro w_ hS_
  go_simp
  try with_reducible rfl
 simp only [Act.put, ZPa, ZPb, ZPc, ZPd, ZPe, ZPf]
 refine wpAnyH_take (i := 17) (v := ?v29) rfl (by kernel_rfl) (by kernel_rfl) (by kernel_rfl) (fun _ _ _ h => h) (Or.inl ⟨by rfl, ?y29⟩) (⟨rl7, rl8, rl9, rl10, rl11, rl13⟩) ?r29
 case y29 =>
  intro w_ hS_
  go_simp
  try with_reducible rfl
 simp only [Act.put, ZPa, ZPb, ZPc, ZPd, ZPe, ZPf]
 refine wpAnyH_take (i := 18) (v := .agg x) rfl (by kernel_rfl) (by kernel_rfl) (by kernel_rfl) (fun _ _ _ h => h) (Or.inl ⟨by rfl, ?y30⟩) (⟨rl7, rl8, rl9, rl10, rl11, rl13⟩) ?r30
 case y30 =>
  intro w_ hS_
  simp only [List.getElem_toArray, List.getElem_cons_succ, List.getElem_cons_zero]
  exact e_load_part 53 _ (by rfl) (g7) 0 (by rfl) 53 x (0, 0) x _ (hS_.1) (all_rowe _) Tryd.underlying53 rfl ox.infoS
 simp only [Act.put, ZPa, ZPb, ZPc, ZPd, ZPe, ZPf]
 refine wpAnyH_take (i := 19) (v := .agg y) rfl (by kernel_rfl) (by kernel_rfl) (by kernel_rfl) (fun _ _ _ h => h) (Or.inl ⟨by rfl, ?y31⟩) (⟨rl7, rl8, rl9, rl10, rl11, rl13⟩) ?r31
 case y31 =>
  intro w_ hS_
  simp only [List.getElem_toArray, List.getElem_cons_succ, List.getElem_cons_zero]
  exact e_load_part 53 _ (by rfl) (g7 + 1) 0 (by rfl) 53 y (0, 0) y _ (hS_.2.1) (all_rowe _) Tryd.underlying53 rfl oy.infoS
 simp only [Act.put, ZPa, ZPb, ZPc, ZPd, ZPe, ZPf]
 refine wpAnyH_take (i := 22) (v := .agg u) rfl (by kernel_rfl) (by kernel_rfl) (by kernel_rfl) (fun _ _ _ h => h) (Or.inl ⟨by rfl, ?y32⟩) (⟨rl7, rl8, rl9, rl10, rl11, rl13⟩) ?r32
 case y32 =>
  intro w_ hS_
  simp only [List.getElem_toArray, List.getElem_cons_succ, List.getElem_cons_zero]
  exact e_load_part 58 _ (by rfl) (g9) 0 (by rfl) 58 u (0, 0) u _ (hS_.2.2.1) (all_rowe _) Tryd.underlying58 rfl ou.infoR
 simp only [Act.put, ZPa, ZPb, ZPc, ZPd, ZPe, ZPf]
 refine wpAnyH_take (i := 23) (v := .agg v) rfl (by kernel_rfl) (by kernel_rfl) (by kernel_rfl) (fun _ _ _ h => h) (Or.inl ⟨by rfl, ?y33⟩) (⟨rl7, rl8, rl9, rl10, rl11, rl13⟩) ?r33
 case y33 =>
  intro w_ hS_
  simp only [List.getElem_toArray, List.getElem_cons_succ, List.getElem_cons_zero]
  exact e_load_part 58 _ (by rfl) (g9 + 1) 0 (by rfl) 58 v (0, 0) v _ (hS_.2.2.2.1) (all_rowe _) Tryd.underlying58 rfl ov.infoR
 simp only [Act.put, ZPa, ZPb, ZPc, ZPd, ZPe, ZPf]
 refine eH_one (k := 20) (fuel := 5) (by kernel_rfl) rfl (by kernel_rfl) (fun K_ hK_ => ?_)
 refine wp_call_ex (f := 22) (by kernel_rfl) (ex1e (c5.at f4)) (fun v_ wq34 hX_ => ?_)
 obtain ⟨rfl, hb⟩ := hX_
 replace rp0 := keep hb rp0
 replace rl7 := keep hb rl7
 replace rl8 := keep hb rl8
 replace rl9 := keep hb rl9
 replace rl10 := keep hb rl10
 replace rl11 := keep hb rl11
 replace rl13 := keep hb rl13
 replace f4 := f4.below hb
 replace hw := Below.after hw hb
 clear hb
 refine hK_ _ _ (⟨rl7, rl8, rl9, rl10, rl11, rl13⟩) ?_
 simp only [Act.put, ZPa, ZPb, ZPc, ZPd, ZPe, ZPf]
 clear hK_
 refine eH_one (k := 21) (fuel := 4) (by kernel_rfl) rfl (by kernel_rfl) (fun K_ hK_ => ?_)
 refine wp_call_ex (f := 20) (by kernel_rfl) (ex1e (c6.at _)) (fun v_ wq35 hX_ => ?_)
 obtain ⟨rfl, hb⟩ := hX_
 replace rp0 := keep hb rp0
 replace rl7 := keep hb rl7
 replace rl8 := keep hb rl8
 replace rl9 := keep hb rl9
 replace rl10 := keep hb rl10
 replace rl11 := keep hb rl11
 replace rl13 := keep hb rl13
 replace f4 := f4.below hb
 replace hw := Below.after hw hb
 clear hb
 refine hK_ _ _ (⟨rl7, rl8, rl9, rl10, rl11, rl13⟩) ?_
 simp only [Act.put, ZPa, ZPb, ZPc, ZPd, ZPe, ZPf]
 clear hK_
 refine eH_one (k := 24) (fuel := 3) (by kernel_rfl) rfl (by kernel_rfl) (fun K_ hK_ => ?_)
 refine wp_call_ex (f := 23) (by kernel_rfl) (ex1e (c7.at _)) (fun v_ wq36 hX_ => ?_)
 obtain ⟨rfl, hb⟩ := hX_
 replace rp0 := keep hb rp0
 replace rl7 := keep hb rl7
 replace rl8 := keep hb rl8
 replace rl9 := keep hb rl9
 replace rl10 := keep hb rl10
 replace rl11 := keep hb rl11
 replace rl13 := keep hb rl13
 replace f4 := f4.below hb
 replace hw := Below.after hw hb
 clear hb
 refine hK_ _ _ (⟨rl7, rl8, rl9, rl10, rl11, rl13⟩) ?_
 simp only [Act.put, ZPa, ZPb, ZPc, ZPd, ZPe, ZPf]
 clear hK_
 refine eH_one (k := 25) (fuel := 2) (by kernel_rfl) rfl (by kernel_rfl) (fun K_ hK_ => ?_)
 refine wp_call_ex (f := 21) (by kernel_rfl) (ex1e (c8.at _)) (fun v_ wq37 hX_ => ?_)
 obtain ⟨rfl, hb⟩ := hX_
 replace rp0 := keep hb rp0
 replace rl7 := keep hb rl7
 replace rl8 := keep hb rl8
 replace rl9 := keep hb rl9
 replace rl10 := keep hb rl10
 replace rl11 := keep hb rl11
 replace rl13 := keep hb rl13
 replace f4 := f4.below hb
 replace hw := Below.after hw hb
 clear hb
 refine hK_ _ _ (⟨rl7, rl8, rl9, rl10, rl11, rl13⟩) ?_
 simp only [Act.put, ZPa, ZPb, ZPc, ZPd, ZPe, ZPf]
 clear hK_
 refine wpAnyH_take (i := 26) (v := ?v38) rfl (by kernel_rfl) (by kernel_rfl) (by kernel_rfl) (fun _ _ _ h => h) (Or.inl ⟨by rfl, ?y38⟩) (⟨rl7, rl8, rl9, rl10, rl11, rl13⟩) ?r38
 case y38 =>
  intro w_ hS_
  go_simp
  try with_reducible rfl
 simp only [Act.put, ZPa, ZPb, ZPc, ZPd, ZPe, ZPf]
 refine wpAnyH_take (i := 27) (v := ?v39) rfl (by kernel_rfl) (by kernel_rfl) (by kernel_rfl) (fun _ _ _ h => h) (Or.inl ⟨by rfl, ?y39⟩) (⟨rl7, rl8, rl9, rl10, rl11, rl13⟩) ?r39
 case y39 =>
  intro w_ hS_
  go_simp
  try with_reducible rfl
 simp only [Act.put, ZPa, ZPb, ZPc, ZPd, ZPe, ZPf]
 refine wpAnyH_done (by kernel_rfl) ?_ _
 refine NoPanic.normal ?_
 go_wp2_with (fail)
 have hb : Below wq37.heap.size wq37 wq37.drew := below_drN (Below.refl _ _) 1
 replace rp0 := keep hb rp0
 replace rl7 := keep hb rl7
 replace rl8 := keep hb rl8
 replace rl9 := keep hb rl9
 replace rl10 := keep hb rl10
 replace rl11 := keep hb rl11
 replace rl13 := keep hb rl13
 replace f4 := f4.below hb
 replace hw := Below.after hw hb
 clear hb
 refine wp_region_noPanic ?_
 refine wp_region_held (S := fun W_ => W_.heap[g7]? = some (.cells x 53 (0, 0)) ∧ W_.heap[g7 + 1]? = some (.cells y 53 (0, 0)) ∧ W_.heap[g9]? = some (.cells u 58 (0, 0)) ∧ W_.heap[g9 + 1]? = some (.cells v 58 (0, 0))) (by kernel_rfl) ?_
 change wpAnyH _ _ _ _ _ _ _ _ (World.drew _)
 generalize wq37.drew = wd40 at *
 refine wpAnyH_take (i := 0) (v := .agg x) rfl (by kernel_rfl) (by kernel_rfl) (by kernel_rfl) (fun _ _ _ h => h) (Or.inl ⟨by rfl, ?y41⟩) (⟨rl7, rl8, rl9, rl10⟩) ?r41
 case y41 =>
  intro w_ hS_
  simp only [List.getElem_toArray, List.getElem_cons_zero]
  exact e_load_part 53 _ (by rfl) (g7) 0 (by rfl) 53 x (0, 0) x _ (hS_.1) (all_rowe _) Tryd.underlying53 rfl ox.infoS
 simp only [Act.put, ZPa, ZPc, ZPd, ZPe, ZPf]
 refine wpAnyH_take (i := 1) (v := .agg y) rfl (by kernel_rfl) (by kernel_rfl) (by kernel_rfl) (fun _ _ _ h => h) (Or.inl ⟨by rfl, ?y42⟩) (⟨rl7, rl8, rl9, rl10⟩) ?r42
 case y42 =>
  intro w_ hS_
  simp only [List.getElem_toArray, List.getElem_cons_succ, List.getElem_cons_zero]
  exact e_load_part 53 _ (by rfl) (g7 + 1) 0 (by rfl) 53 y (0, 0) y _ (hS_.2.1) (all_rowe _) Tryd.underlying53 rfl oy.infoS
 simp only [Act.put, ZPa, ZPb, ZPc, ZPd, ZPe, ZPf]
 refine wpAnyH_take (i := 4) (v := .agg u) rfl (by kernel_rfl) (by kernel_rfl) (by kernel_rfl) (fun _ _ _ h => h) (Or.inl ⟨by rfl, ?y43⟩) (⟨rl7, rl8, rl9, rl10⟩) ?r43
 case y43 =>
  intro w_ hS_
  simp only [List.getElem_toArray, List.getElem_cons_succ, List.getElem_cons_zero]
  exact e_load_part 58 _ (by rfl) (g9) 0 (by rfl) 58 u (0, 0) u _ (hS_.2.2.1) (all_rowe _) Tryd.underlying58 rfl ou.infoR
 simp only [Act.put, ZPa, ZPb, ZPc, ZPd, ZPe, ZPf]
 refine wpAnyH_take (i := 5) (v := .agg v) rfl (by kernel_rfl) (by kernel_rfl) (by kernel_rfl) (fun _ _ _ h => h) (Or.inl ⟨by rfl, ?y44⟩) (⟨rl7, rl8, rl9, rl10⟩) ?r44
 case y44 =>
  intro w_ hS_
  simp only [List.getElem_toArray, List.getElem_cons_succ, List.getElem_cons_zero]
  exact e_load_part 58 _ (by rfl) (g9 + 1) 0 (by rfl) 58 v (0, 0) v _ (hS_.2.2.2) (all_rowe _) Tryd.underlying58 rfl ov.infoR
 simp only [Act.put, ZPa, ZPb, ZPc, ZPd, ZPe, ZPf]
 refine eH_one (k := 2) (fuel := 24) (by kernel_rfl) rfl (by kernel_rfl) (fun K_ hK_ => ?_)
 refine wp_call_ex (f := 24) (by kernel_rfl) (ex1e (c9.at f4)) (fun v_ wq45 hX_ => ?_)
 obtain ⟨rfl, hb⟩ := hX_
 replace rp0 := keep hb rp0
 replace rl7 := keep hb rl7
 replace rl8 := keep hb rl8
 replace rl9 := keep hb rl9
 replace rl10 := keep hb rl10
 replace rl11 := keep hb rl11
 replace rl13 := keep hb rl13
 replace f4 := f4.below hb
 replace hw := Below.after hw hb
 clear hb
 refine hK_ _ _ (⟨rl7, rl8, rl9, rl10⟩) ?_
 simp only [Act.put, ZPa, ZPb, ZPc, ZPd, ZPe, ZPf]
 clear hK_
 refine eH_one (k := 3) (fuel := 23) (by kernel_rfl) rfl (by kernel_rfl) (fun K_ hK_ => ?_)
 refine wp_call_ex (f := 20) (by kernel_rfl) (ex1e (c10.at _)) (fun v_ wq46 hX_ => ?_)
 obtain ⟨rfl, hb⟩ := hX_
 replace rp0 := keep hb rp0
 replace rl7 := keep hb rl7
 replace rl8 := keep hb rl8
 replace rl9 := keep hb rl9
 replace rl10 := keep hb rl10
 replace rl11 := keep hb rl11
 replace rl13 := keep hb rl13
 replace f4 := f4.below hb
 replace hw := Below.after hw hb
 clear hb
 refine hK_ _ _ (⟨rl7, rl8, rl9, rl10⟩) ?_
 simp only [Act.put, ZPa, ZPb, ZPc, ZPd, ZPe, ZPf]
 clear hK_
 refine eH_one (k := 6) (fuel := 22) (by kernel_rfl) rfl (by kernel_rfl) (fun K_ hK_ => ?_)
 refine wp_call_ex (f := 25) (by kernel_rfl) (ex1e (c11.at _)) (fun v_ wq47 hX_ => ?_)
 obtain ⟨rfl, hb⟩ := hX_
 replace rp0 := keep hb rp0
 replace rl7 := keep hb rl7
 replace rl8 := keep hb rl8
 replace rl9 := keep hb rl9
 replace rl10 := keep hb rl10
 replace rl11 := keep hb rl11
 replace rl13 := keep hb rl13
 replace f4 := f4.below hb
 replace hw := Below.after hw hb
 clear hb
 refine hK_ _ _ (⟨rl7, rl8, rl9, rl10⟩) ?_
 simp only [Act.put, ZPa, ZPb, ZPc, ZPd, ZPe, ZPf]
 clear hK_
 refine eH_one (k := 7) (fuel := 21) (by kernel_rfl) rfl (by kernel_rfl) (fun K_ hK_ => ?_)
 refine wp_call_ex (f := 21) (by kernel_rfl) (ex1e (c12.at _)) (fun v_ wq48 hX_ => ?_)
 obtain ⟨rfl, hb⟩ := hX_
 replace rp0 := keep hb rp0
 replace rl7 := keep hb rl7
 replace rl8 := keep hb rl8
 replace rl9 := keep hb rl9
 replace rl10 := keep hb rl10
 replace rl11 := keep hb rl11
 replace rl13 := keep hb rl13
 replace f4 := f4.below hb
 replace hw := Below.after hw hb
 clear hb
 refine hK_ _ _ (⟨rl7, rl8, rl9, rl10⟩) ?_
 simp only [Act.put, ZPa, ZPb, ZPc, ZPd, ZPe, ZPf]
 clear hK_
 refine wpAnyH_take (i := 8) (v := ?v49) rfl (by kernel_rfl) (by kernel_rfl) (by kernel_rfl) (fun _ _ _ h => h) (Or.inl ⟨by rfl, ?y49⟩) (⟨rl7, rl8, rl9, rl10⟩) ?r49
 case y49 =>
  intro w_ hS_
  go_simp
  try with_reducible rfl
 simp only [Act.put, ZPa, ZPb, ZPc, ZPd, ZPe, ZPf]
 refine wpAnyH_take (i := 9) (v := ?v50) rfl (by kernel_rfl) (by kernel_rfl) (by kernel_rfl) (fun _ _ _ h => h) (Or.inl ⟨by rfl, ?y50⟩) (⟨rl7, rl8, rl9, rl10⟩) ?r50
 case y50 =>
  intro w_ hS_
  go_simp
  try with_reducible rfl
 simp only [Act.put, ZPa, ZPb, ZPc, ZPd, ZPe, ZPf]
 refine wpAnyH_take (i := 10) (v := .agg x) rfl (by kernel_rfl) (by kernel_rfl) (by kernel_rfl) (fun _ _ _ h => h) (Or.inl ⟨by rfl, ?y51⟩) (⟨rl7, rl8, rl9, rl10⟩) ?r51
 case y51 =>
  intro w_ hS_
  simp only [List.getElem_toArray, List.getElem_cons_succ, List.getElem_cons_zero]
  exact e_load_part 53 _ (by rfl) (g7) 0 (by rfl) 53 x (0, 0) x _ (hS_.1) (all_rowe _) Tryd.underlying53 rfl ox.infoS
 simp only [Act.put, ZPa, ZPb, ZPc, ZPd, ZPe, ZPf]
 refine wpAnyH_take (i := 11) (v := .agg y) rfl (by kernel_rfl) (by kernel_rfl) (by kernel_rfl) (fun _ _ _ h => h) (Or.inl ⟨by rfl, ?y52⟩) (⟨rl7, rl8, rl9, rl10⟩) ?r52
 case y52 =>
  intro w_ hS_
  simp only [List.getElem_toArray, List.getElem_cons_succ, List.getElem_cons_zero]
  exact e_load_part 53 _ (by rfl) (g7 + 1) 0 (by rfl) 53 y (0, 0) y _ (hS_.2.1) (all_rowe _) Tryd.underlying53 rfl oy.infoS
 simp only [Act.put, ZPa, ZPb, ZPc, ZPd, ZPe, ZPf]
 refine wpAnyH_take (i := 14) (v := .agg u) rfl (by kernel_rfl) (by kernel_rfl) (by kernel_rfl) (fun _ _ _ h => h) (Or.inl ⟨by rfl, ?y53⟩) (⟨rl7, rl8, rl9, rl10⟩) ?r53
 case y53 =>
  intro w_ hS_
  simp only [List.getElem_toArray, List.getElem_cons_succ, List.getElem_cons_zero]
  exact e_load_part 58 _ (by rfl) (g9) 0 (by rfl) 58 u (0, 0) u _ (hS_.2.2.1) (all_rowe _) Tryd.underlying58 rfl ou.infoR
 simp only [Act.put, ZPa, ZPb, ZPc, ZPd, ZPe, ZPf]
 refine wpAnyH_take (i := 15) (v := .agg v) rfl (by kernel_rfl) (by kernel_rfl) (by kernel_rfl) (fun _ _ _ h => h) (Or.inl ⟨by rfl, ?y54⟩) (⟨rl7, rl8, rl9, rl10⟩) ?r54
 case y54 =>
  intro w_ hS_
  simp only [List.getElem_toArray, List.getElem_cons_succ, List.getElem_cons_zero]
  exact e_load_part 58 _ (by rfl) (g9 + 1) 0 (by rfl) 58 v (0, 0) v _ (hS_.2.2.2) (all_rowe _) Tryd.underlying58 rfl ov.infoR
 simp only [Act.put, ZPa, ZPb, ZPc, ZPd, ZPe, ZPf]
 refine eH_one (k := 12) (fuel := 14) (by kernel_rfl) rfl (by kernel_rfl) (fun K_ hK_ => ?_)
 refine wp_call_ex (f := 26) (by kernel_rfl) (ex1e (c13.at f4)) (fun v_ wq55 hX_ => ?_)
 obtain ⟨rfl, hb⟩ := hX_
 replace rp0 := keep hb rp0
 replace rl7 := keep hb rl7
 replace rl8 := keep hb rl8
 replace rl9 := keep hb rl9
 replace rl10 := keep hb rl10
 replace rl11 := keep hb rl11
 replace rl13 := keep hb rl13
 replace f4 := f4.below hb
 replace hw := Below.after hw hb
 clear hb
 refine hK_ _ _ (⟨rl7, rl8, rl9, rl10⟩) ?_
 simp only [Act.put, ZPa, ZPb, ZPc, ZPd, ZPe, ZPf]
 clear hK_
 refine eH_one (k := 13) (fuel := 13) (by kernel_rfl) rfl (by kernel_rfl) (fun K_ hK_ => ?_)
 refine wp_call_ex (f := 20) (by kernel_rfl) (ex1e (c14.at _)) (fun v_ wq56 hX_ => ?_)
 obtain ⟨rfl, hb⟩ := hX_
 replace rp0 := keep hb rp0
 replace rl7 := keep hb rl7
 replace rl8 := keep hb rl8
 replace rl9 := keep hb rl9
 replace rl10 := keep hb rl10
 replace rl11 := keep hb rl11
 replace rl13 := keep hb rl13
 replace f4 := f4.below hb
 replace hw := Below.after hw hb
 clear hb
 refine hK_ _ _ (⟨rl7, rl8, rl9, rl10⟩) ?_
 simp only [Act.put, ZPa, ZPb, ZPc, ZPd, ZPe, ZPf]
 clear hK_
 refine eH_one (k := 16) (fuel := 12) (by kernel_rfl) rfl (by kernel_rfl) (fun K_ hK_ => ?_)
 refine wp_call_ex (f := 27) (by kernel_rfl) (ex1e (c15.at _)) (fun v_ wq57 hX_ => ?_)
 obtain ⟨rfl, hb⟩ := hX_
 replace rp0 := keep hb rp0
 replace rl7 := keep hb rl7
 replace rl8 := keep hb rl8
 replace rl9 := keep hb rl9
 replace rl10 := keep hb rl10
 replace rl11 := keep hb rl11
 replace rl13 := keep hb rl13
 replace f4 := f4.below hb
 replace hw := Below.after hw hb
 clear hb
 refine hK_ _ _ (⟨rl7, rl8, rl9, rl10⟩) ?_
 simp only [Act.put, ZPa, ZPb, ZPc, ZPd, ZPe, ZPf]
 clear hK_
 refine eH_one (k := 17) (fuel := 11) (by kernel_rfl) rfl (by kernel_rfl) (fun K_ hK_ => ?_)
 refine wp_call_ex (f := 21) (by kernel_rfl) (ex1e (c16.at _)) (fun v_ wq58 hX_ => ?_)
 obtain ⟨rfl, hb⟩ := hX_
 replace rp0 := keep hb rp0
 replace rl7 := keep hb rl7
 replace rl8 := keep hb rl8
 replace rl9 := keep hb rl9
 replace rl10 := keep hb rl10
 replace rl11 := keep hb rl11
 replace rl13 := keep hb rl13
 replace f4 := f4.below hb
 replace hw := Below.after hw hb
 clear hb
 refine hK_ _ _ (⟨rl7, rl8, rl9, rl10⟩) ?_
 simp only [Act.put, ZPa, ZPb, ZPc, ZPd, ZPe, ZPf]
 clear hK_
 refine wpAnyH_take (i := 18) (v := ?v59) rfl (by kernel_rfl) (by kernel_rfl) (by kernel_rfl) (fun _ _ _ h => h) (Or.inl ⟨by rfl, ?y59⟩) (⟨rl7, rl8, rl9, rl10⟩) ?r59
 case y59 =>
  intro w_ hS_
  go_simp
  try with_reducible rfl
 simp only [Act.put, ZPa, ZPb, ZPc, ZPd, ZPe, ZPf]
 refine wpAnyH_take (i := 19) (v := ?v60) rfl (by kernel_rfl) (by kernel_rfl) (by kernel_rfl) (fun _ _ _ h => h) (Or.inl ⟨by rfl, ?y60⟩) (⟨rl7, rl8, rl9, rl10⟩) ?r60
 case y60 =>
  intro w_ hS_
  go_simp
  try with_reducible rfl
 simp only [Act.put, ZPa, ZPb, ZPc, ZPd, ZPe, ZPf]
 refine wpAnyH_take (i := 20) (v := ?v61) rfl (by kernel_rfl) (by kernel_rfl) (by kernel_rfl) (fun _ _ _ h => h) (Or.inl ⟨by rfl, ?y61⟩) (⟨rl7, rl8, rl9, rl10⟩) ?r61
 case y61 =>
  intro w_ hS_
  go_simp
  try with_reducible rfl
 simp only [Act.put, ZPa, ZPb, ZPc, ZPd, ZPe, ZPf]
 refine wpAnyH_take (i := 21) (v := .agg x) rfl (by kernel_rfl) (by kernel_rfl) (by kernel_rfl) (fun _ _ _ h => h) (Or.inl ⟨by rfl, ?y62⟩) (⟨rl7, rl8, rl9, rl10⟩) ?r62
 case y62 =>
  intro w_ hS_
  simp only [List.getElem_toArray, List.getElem_cons_succ, List.getElem_cons_zero]
  exact e_load_part 53 _ (by rfl) (g7) 0 (by rfl) 53 x (0, 0) x _ (hS_.1) (all_rowe _) Tryd.underlying53 rfl ox.infoS
 simp only [Act.put, ZPa, ZPb, ZPc, ZPd, ZPe, ZPf]
 refine wpAnyH_take (i := 24) (v := .agg u) rfl (by kernel_rfl) (by kernel_rfl) (by kernel_rfl) (fun _ _ _ h => h) (Or.inl ⟨by rfl, ?y63⟩) (⟨rl7, rl8, rl9, rl10⟩) ?r63
 case y63 =>
  intro w_ hS_
  simp only [List.getElem_toArray, List.getElem_cons_succ, List.getElem_cons_zero]
  exact e_load_part 58 _ (by rfl) (g9) 0 (by rfl) 58 u (0, 0) u _ (hS_.2.2.1) (all_rowe _) Tryd.underlying58 rfl ou.infoR
 simp only [Act.put, ZPa, ZPb, ZPc, ZPd, ZPe, ZPf]
 refine eH_one (k := 22) (fuel := 5) (by kernel_rfl) rfl (by kernel_rfl) (fun K_ hK_ => ?_)
 refine wp_call_ex (f := 28) (by kernel_rfl) (ex1e (c17.at f4)) (fun v_ wq64 hX_ => ?_)
 obtain ⟨rfl, hb⟩ := hX_
 replace rp0 := keep hb rp0
 replace rl7 := keep hb rl7
 replace rl8 := keep hb rl8
 replace rl9 := keep hb rl9
 replace rl10 := keep hb rl10
 replace rl11 := keep hb rl11
 replace rl13 := keep hb rl13
 replace f4 := f4.below hb
 replace hw := Below.after hw hb
 clear hb
 refine hK_ _ _ (⟨rl7, rl8, rl9, rl10⟩) ?_
 simp only [Act.put, ZPa, ZPb, ZPc, ZPd, ZPe, ZPf]
 clear hK_
 refine eH_one (k := 23) (fuel := 4) (by kernel_rfl) rfl (by kernel_rfl) (fun K_ hK_ => ?_)
 refine wp_call_ex (f := 20) (by kernel_rfl) (ex1e (c18.at _)) (fun v_ wq65 hX_ => ?_)
 obtain ⟨rfl, hb⟩ := hX_
 replace rp0 := keep hb rp0
 replace rl7 := keep hb rl7
 replace rl8 := keep hb rl8
 replace rl9 := keep hb rl9
 replace rl10 := keep hb rl10
 replace rl11 := keep hb rl11
 replace rl13 := keep hb rl13
 replace f4 := f4.below hb
 replace hw := Below.after hw hb
 clear hb
 refine hK_ _ _ (⟨rl7, rl8, rl9, rl10⟩) ?_
 simp only [Act.put, ZPa, ZPb, ZPc, ZPd, ZPe, ZPf]
 clear hK_
 refine eH_one (k := 25) (fuel := 3) (by kernel_rfl) rfl (by kernel_rfl) (fun K_ hK_ => ?_)
 refine wp_call_ex (f := 29) (by kernel_rfl) (ex1e (c19.at _)) (fun v_ wq66 hX_ => ?_)
 obtain ⟨rfl, hb⟩ := hX_
 replace rp0 := keep hb rp0
 replace rl7 := keep hb rl7
 replace rl8 := keep hb rl8
 replace rl9 := keep hb rl9
 replace rl10 := keep hb rl10
 replace rl11 := keep hb rl11
 replace rl13 := keep hb rl13
 replace f4 := f4.below hb
 replace hw := Below.after hw hb
 clear hb
 refine hK_ _ _ (⟨rl7, rl8, rl9, rl10⟩) ?_
 simp only [Act.put, ZPa, ZPb, ZPc, ZPd, ZPe, ZPf]
 clear hK_
 refine eH_one (k := 26) (fuel := 2) (by kernel_rfl) rfl (by kernel_rfl) (fun K_ hK_ => ?_)
 refine wp_call_ex (f := 21) (by kernel_rfl) (ex1e (c20.at _)) (fun v_ wq67 hX_ => ?_)
 obtain ⟨rfl, hb⟩ := hX_
 replace rp0 := keep hb rp0
 replace rl7 := keep hb rl7
 replace rl8 := keep hb rl8
 replace rl9 := keep hb rl9
 replace rl10 := keep hb rl10
 replace rl11 := keep hb rl11
 replace rl13 := keep hb rl13
 replace f4 := f4.below hb
 replace hw := Below.after hw hb
 clear hb
 refine hK_ _ _ (⟨rl7, rl8, rl9, rl10⟩) ?_
 simp only [Act.put, ZPa, ZPb, ZPc, ZPd, ZPe, ZPf]
 clear hK_
 refine wpAnyH_take (i := 27) (v := ?v68) rfl (by kernel_rfl) (by kernel_rfl) (by kernel_rfl) (fun _ _ _ h => h) (Or.inl ⟨by rfl, ?y68⟩) (⟨rl7, rl8, rl9, rl10⟩) ?r68
 case y68 =>
  intro w_ hS_
  go_simp
  try with_reducible rfl
 simp only [Act.put, ZPa, ZPb, ZPc, ZPd, ZPe, ZPf]
 refine wpAnyH_take (i := 28) (v := ?v69) rfl (by kernel_rfl) (by kernel_rfl) (by kernel_rfl) (fun _ _ _ h => h) (Or.inl ⟨by rfl, ?y69⟩) (⟨rl7, rl8, rl9, rl10⟩) ?r69
 case y69 =>
  intro w_ hS_
  go_simp
  try with_reducible rfl
 simp only [Act.put, ZPa, ZPb, ZPc, ZPd, ZPe, ZPf]
 refine wpAnyH_done (by kernel_rfl) ?_ _
 refine NoPanic.normal ?_
 go_wp2_with (fail)
 have rb : (wq67.alloc (.cells #[.int .u8 7] 5)).heap[wq67.heap.size]? = some (.cells (Wi.irow .u8 [7]) 5 (0, 0)) := hp1_0 wq67 _
 have hb : Below wq67.heap.size wq67 (wq67.alloc (.cells #[.int .u8 7] 5)) := (Below.refl _ _).alloc (Nat.le_refl _) _
 generalize (wq67.alloc (.cells #[.int .u8 7] 5)) = w20 at *
 replace rp0 := keep hb rp0
 replace rl7 := keep hb rl7
 replace rl8 := keep hb rl8
 replace rl9 := keep hb rl9
 replace rl10 := keep hb rl10
 replace rl11 := keep hb rl11
 replace rl13 := keep hb rl13
 replace f4 := f4.below hb
 replace hw := Below.after hw hb
 clear hb
 generalize wq67.heap.size = gb at *
 have hb1 := bysK_l19 (l := [7]) (n := 1) rb rfl (by decide) (by decide)
 clear rb
 refine (cR7 _ _ f4 hb1.1).mono ?_
 rintro e_ w21 ⟨rfl, hb⟩
 clear hb1
 replace rp0 := keep hb rp0
 replace rl7 := keep hb rl7
 replace rl8 := keep hb rl8
 replace rl9 := keep hb rl9
 replace rl10 := keep hb rl10
 replace rl11 := keep hb rl11
 replace rl13 := keep hb rl13
 replace f4 := f4.below hb
 replace hw := Below.after hw hb
 clear hb
 go_wp2_with (first | (refine wpList_load_want rfl 23 _ rfl (w.heap.size) rfl 23 (kb N) (0, 0) _ rp0 Tryd.underlying23 rfl (kb_info _) ?_) | (refine wpList_load_want rfl 53 _ rfl (g7) rfl 53 x (0, 0) _ rl7 Tryd.underlying53 rfl ox.infoS ?_) | (refine wpList_load_want rfl 53 _ rfl (g7 + 1) rfl 53 y (0, 0) _ rl8 Tryd.underlying53 rfl oy.infoS ?_) | (refine wpList_load_want rfl 58 _ rfl (g9) rfl 58 u (0, 0) _ rl9 Tryd.underlying58 rfl ou.infoR ?_) | (refine wpList_load_want rfl 58 _ rfl (g9 + 1) rfl 58 v (0, 0) _ rl10 Tryd.underlying58 rfl ov.infoR ?_) | (refine wpList_load_want rfl 53 _ rfl (g11) rfl 53 s (0, 0) _ rl11 Tryd.underlying53 rfl os.infoS ?_) | (refine wpList_load_want rfl 58 _ rfl (g13) rfl 58 t (0, 0) _ rl13 Tryd.underlying58 rfl ot.infoR ?_) | (refine wpList_build_as rfl 23 _ rfl [(0, .int .u8 7)] rfl (kb 7) (by kernel_rfl) ?_) | fail)
 refine (cB7.at _).mono ?_
 rintro e_ w22 ⟨rfl, hb⟩
 replace rp0 := keep hb rp0
 replace rl7 := keep hb rl7
 replace rl8 := keep hb rl8
 replace rl9 := keep hb rl9
 replace rl10 := keep hb rl10
 replace rl11 := keep hb rl11
 replace rl13 := keep hb rl13
 replace f4 := f4.below hb
 replace hw := Below.after hw hb
 clear hb
 go_wp2_with (first | (refine wpList_load_want rfl 23 _ rfl (w.heap.size) rfl 23 (kb N) (0, 0) _ rp0 Tryd.underlying23 rfl (kb_info _) ?_) | (refine wpList_load_want rfl 53 _ rfl (g7) rfl 53 x (0, 0) _ rl7 Tryd.underlying53 rfl ox.infoS ?_) | (refine wpList_load_want rfl 53 _ rfl (g7 + 1) rfl 53 y (0, 0) _ rl8 Tryd.underlying53 rfl oy.infoS ?_) | (refine wpList_load_want rfl 58 _ rfl (g9) rfl 58 u (0, 0) _ rl9 Tryd.underlying58 rfl ou.infoR ?_) | (refine wpList_load_want rfl 58 _ rfl (g9 + 1) rfl 58 v (0, 0) _ rl10 Tryd.underlying58 rfl ov.infoR ?_) | (refine wpList_load_want rfl 53 _ rfl (g11) rfl 53 s (0, 0) _ rl11 Tryd.underlying53 rfl os.infoS ?_) | (refine wpList_load_want rfl 58 _ rfl (g13) rfl 58 t (0, 0) _ rl13 Tryd.underlying58 rfl ot.infoR ?_) | (refine wpList_build_as rfl 23 _ rfl [(0, .int .u8 7)] rfl (kb 7) (by kernel_rfl) ?_) | fail)
 go_ret
 exact ⟨rfl, hw⟩
theorem keq0 {e : Int} (hb : 0 ≤ e ∧ e < L19) : ∀ W, (Op.equalIn 10000 23 (.agg (kb e)) (.agg (kb e))).run Tryd.prog W = .ok true W := fun W => by
 have hL := L_lt
 rw [kb_equal _ _ hb.1 (by omega) hb.1 (by omega)]
 simp
theorem wh_bd (N : Int) (h : 0 ≤ N) : 0 ≤ (if L19 ≤ N then (0 : Int) else N) ∧ (if L19 ≤ N then (0 : Int) else N) < L19 := by
 split
 ·exact ⟨by omega, by decide⟩
 ·omega
theorem scalars_any {a b : List Int} {N : Int} {k : Array Value} {v0 v1 : Value} (hk : KeyOf k N) (w : World) (hS : Ord w) (hA : BysK w v0 a) (hB : BysK w v1 b) : Calls Tryd.prog 4 #[v0, v1, .agg k] w fun e w' => e = .returned (.bool true) ∧ Below w.heap.size w w' := by
 have hK : KeyOf (kb N) N := by rw [← key_is hk]; exact hk
 rw [key_is hk]
 obtain ⟨ao, ca, rfl, _⟩ := id hA.1
 obtain ⟨bo, cb, rfl, _⟩ := id hB.1
 exact scal_walk (E := if L19 ≤ N then 191 else 0) (wdo _) (wdo _) (wdr _) (wdr _) (wdo _) (wdr _) w hS hA hB (fun W => a_Reduce a W _) (fun W => a_Reduce b W _) (fun W => r_Reduce a W _) (fun W => r_Reduce b W _) (a_Whole hK) (r_Whole hK) (a_sBytes _) (r_sBytes _) (a_sBytes _) (r_sBytes _) (a_sadd (mod_L _) (mod_L _)) (a_sBytes _) (r_sAdd (mod_L _) (mod_L _)) (r_sBytes _) (a_ssub (mod_L _) (mod_L _)) (a_sBytes _) (r_sSub (mod_L _) (mod_L _)) (r_sBytes _) (a_smul (mod_L _) (mod_L _)) (a_sBytes _) (r_sMul (mod_L _) (mod_L _)) (r_sBytes _) (a_sneg (mod_L _)) (a_sBytes _) (r_sNeg (mod_L _)) (r_sBytes _) (keq0 (wh_bd N hK.bd.1)) (keq0 (mod_L _)) (keq0 (mod_L _)) (keq0 (mod_L _)) (keq0 (mod_L _)) (keq0 (mod_L _)) (fun W z => a_Reduce [7] W z) (a_sBytes 7) (keq0 ⟨by decide, by decide⟩)
end Go.Proofs.YtdcpcdkbhgkmlaaDoor

