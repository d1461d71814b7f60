import Derived.Test.YtjeighghommldaaDoorProg
import Derived.WalkKit
import Derived.WalkSpells
import Derived.WalkLawsBesides
import Derived.Lib.QuietBelow
import Derived.BigQuiet
import Derived.Deep.Cut
import Derived.Deep.CutRange
import Derived.Test.YtjeighghommldaaDoorCSoa
namespace Go.Proofs.YtjeighghommldaaDoor
set_option maxRecDepth 100000
open Go Go.RowKit Go.Sort
attribute [local go_sem] setCell_drewN alloc_drewN
theorem z_eq : ∀ W, (Op.equalIn 10000 41 (.agg (wd 0)) (.agg (wd 0))).run Tryd.prog W = .ok true W := fun W => by kernel_rfl
theorem o_eq : ∀ W, (Op.equalIn 10000 41 (.agg (wd 1)) (.agg (wd 0))).run Tryd.prog W = .ok false W := fun W => by kernel_rfl
set_option maxRecDepth 100000 in
set_option maxHeartbeats 8000000 in
theorem iz_walk {x : Array Value} {b : Bool} (o : WdO x) (q : ∀ W, (Op.equalIn 10000 41 (.agg x) (.agg (wd 0))).run Tryd.prog W = .ok b W) : Gives 19 #[.agg x] (.bool b) := by
 intro w
 have rp0 := hp1_0 w (.cells x 41)
 have hw : Below w.heap.size w (w.alloc (.cells x 41)) := (Below.refl _ _).alloc (Nat.le_refl _) _
 go_enter Tryd.func19, Tryd.ntmps19
 iterate 6 go_step
 generalize w.alloc (.cells x 41) = w0 at *
 go_wp2_with (first | (refine wpList_load_want rfl 41 _ rfl (w.heap.size) rfl 41 x (0, 0) _ rp0 Tryd.underlying41 rfl o.infoS ?_) | (refine wpList_build_as rfl 41 _ rfl [] rfl (wd 0) (by kernel_rfl) ?_) | fail)
 go_ret
 exact ⟨rfl, hw⟩
theorem i0 : Gives 19 #[.agg (wd 0)] (.bool true) := iz_walk (wdo 0) z_eq
theorem i1 : Gives 19 #[.agg (wd 1)] (.bool false) := iz_walk (wdo 1) o_eq
theorem own_lit20 (w : World) (l : List Int) (n : Nat) (hn : l.length = n) (hl : n ≤ 140737488355000) : (w.alloc (.cells (Wi.irow .u8 l) 5)).ownsRow w.heap.size 5 1 (.slice (some ⟨w.heap.size, 0, none⟩) n n) l.length (l.map (Value.int .u8)) := by
 subst hn
 exact ⟨by simp, Or.inr ⟨w.heap.size, _, _, rfl, Nat.le_refl _, hp1_0 w _, Nat.le_refl _, by unfold maxLen; omega, by simp [Wi.irow], by simp only [Wi.irow]; exact List.take_of_length_le (by simp)⟩⟩
theorem bysK_own20 {W : World} {b n : Nat} {v : Value} {l : List Int} (h : W.ownsRow b 5 1 v n (l.map (Value.int .u8))) (_hn : l.length = n) (hl : l.length ≤ 4611686018427380000) (hz : ∀ z ∈ l, 0 ≤ z ∧ z < 256) : BysK W v l := bysK_own h hl hz
set_option maxRecDepth 100000 in
set_option maxHeartbeats 8000000 in
theorem num_walk {a b c : List Int} {x y z o xz : Array Value} {e11 e14 e16 e19 e2 e21 e23 e27 e28 e30 e33 e4 e6 e8 : Int} (ox : WdO x) (oy : WdO y) (oz : WdO z) (oo : WdO o) (w : World) {ao bo co : Option Addr} {la ca lb cb lc cc : Nat} (hS : Ord w) (hA : BysK w (.slice ao la ca) a) (hB : BysK w (.slice bo lb cb) b) (hC : BysK w (.slice co lc cc) c)
 (cRa : ∀ W, Ord W → Bys W (.slice ao la ca) a → Calls Tryd.prog 11 #[.slice ao la ca] W fun e w' => e = .returned (.agg x) ∧ Below W.heap.size W w') (cRb : ∀ W, Ord W → Bys W (.slice bo lb cb) b → Calls Tryd.prog 11 #[.slice bo lb cb] W fun e w' => e = .returned (.agg y) ∧ Below W.heap.size W w') (cRc : ∀ W, Ord W → Bys W (.slice co lc cc) c → Calls Tryd.prog 11 #[.slice co lc cc] W fun e w' => e = .returned (.agg z) ∧ Below W.heap.size W w') (cR1 : ∀ W v, Ord W → Bys W v [1] → Calls Tryd.prog 11 #[v] W fun e w' => e = .returned (.agg o) ∧ Below W.heap.size W w') (cO1 : Gives 18 #[.agg o] (.agg (kb 1))) (qo : ∀ W, (Op.equalIn 10000 23 (.agg (kb 1)) (.agg (kb 1))).run Tryd.prog W = .ok true W) (cO2 : Gives 19 #[.agg o] (.bool false)) (cRo : ∀ W v, Ord W → Bys W v (b32 L19) → Calls Tryd.prog 11 #[v] W fun e w' => e = .returned (.agg xz) ∧ Below W.heap.size W w') (cO3 : Gives 19 #[.agg xz] (.bool true))
 {s1 : Array Value} (c1 : GivesO 14 #[.agg x, .agg y] (.agg s1)) (c2 : Gives 18 #[.agg s1] (.agg (kb e2))) {s3 : Array Value} (c3 : GivesO 14 #[.agg y, .agg x] (.agg s3)) (c4 : Gives 18 #[.agg s3] (.agg (kb e4))) {s5 : Array Value} (c5 : GivesO 16 #[.agg x, .agg y] (.agg s5)) (c6 : Gives 18 #[.agg s5] (.agg (kb e6))) {s7 : Array Value} (c7 : GivesO 16 #[.agg y, .agg x] (.agg s7)) (c8 : Gives 18 #[.agg s7] (.agg (kb e8))) {s9 : Array Value} (c9 : GivesO 14 #[.agg y, .agg z] (.agg s9)) {s10 : Array Value} (c10 : GivesO 16 #[.agg x, .agg s9] (.agg s10)) (c11 : Gives 18 #[.agg s10] (.agg (kb e11))) {s12 : Array Value} (c12 : GivesO 16 #[.agg x, .agg z] (.agg s12)) {s13 : Array Value} (c13 : GivesO 14 #[.agg s5, .agg s12] (.agg s13)) (c14 : Gives 18 #[.agg s13] (.agg (kb e14))) {s15 : Array Value} (c15 : GivesO 16 #[.agg s5, .agg z] (.agg s15)) (c16 : Gives 18 #[.agg s15] (.agg (kb e16))) {s17 : Array Value} (c17 : GivesO 16 #[.agg y, .agg z] (.agg s17)) {s18 : Array Value} (c18 : GivesO 16 #[.agg x, .agg s17] (.agg s18)) (c19 : Gives 18 #[.agg s18] (.agg (kb e19))) {s20 : Array Value} (c20 : GivesO 14 #[.agg s1, .agg z] (.agg s20)) (c21 : Gives 18 #[.agg s20] (.agg (kb e21))) {s22 : Array Value} (c22 : GivesO 14 #[.agg x, .agg s9] (.agg s22)) (c23 : Gives 18 #[.agg s22] (.agg (kb e23))) {s24 : Array Value} (c24 : GivesO 20 #[.agg x, .agg x] (.agg s24)) (c25 : Gives 19 #[.agg s24] (.bool true)) {s26 : Array Value} (c26 : GivesO 16 #[.agg x, .agg o] (.agg s26)) (c27 : Gives 18 #[.agg s26] (.agg (kb e27))) (c28 : Gives 18 #[.agg x] (.agg (kb e28))) {s29 : Array Value} (c29 : GivesO 20 #[.agg x, .agg y] (.agg s29)) (c30 : Gives 18 #[.agg s29] (.agg (kb e30))) {s31 : Array Value} (c31 : GivesO 22 #[.agg y] (.agg s31)) {s32 : Array Value} (c32 : GivesO 14 #[.agg x, .agg s31] (.agg s32)) (c33 : Gives 18 #[.agg s32] (.agg (kb e33))) (q0 : ∀ W, (Op.equalIn 10000 23 (.agg (kb e2)) (.agg (kb e4))).run Tryd.prog W = .ok true W) (q1 : ∀ W, (Op.equalIn 10000 23 (.agg (kb e6)) (.agg (kb e8))).run Tryd.prog W = .ok true W) (q2 : ∀ W, (Op.equalIn 10000 23 (.agg (kb e11)) (.agg (kb e14))).run Tryd.prog W = .ok true W) (q3 : ∀ W, (Op.equalIn 10000 23 (.agg (kb e16)) (.agg (kb e19))).run Tryd.prog W = .ok true W) (q4 : ∀ W, (Op.equalIn 10000 23 (.agg (kb e21)) (.agg (kb e23))).run Tryd.prog W = .ok true W) (q5 : ∀ W, (Op.equalIn 10000 23 (.agg (kb e27)) (.agg (kb e28))).run Tryd.prog W = .ok true W) (q6 : ∀ W, (Op.equalIn 10000 23 (.agg (kb e28)) (.agg (kb e28))).run Tryd.prog W = .ok true W) (q7 : ∀ W, (Op.equalIn 10000 23 (.agg (kb e30)) (.agg (kb e33))).run Tryd.prog W = .ok true W) {sab su sm sa : Array Value} {f1 f2 : Int} {ab : List Int} (eab : Hid ([] ++ a ++ b = ab)) (cRab : ∀ W v, Ord W → Bys W v ab → Calls Tryd.prog 11 #[v] W fun e w' => e = .returned (.agg sab) ∧ Below W.heap.size W w') (cB1 : Gives 18 #[.agg sab] (.agg (kb f1))) (cRu : ∀ W v, Ord W → Bys W v (Wi.zr la ++ [1]) → Calls Tryd.prog 11 #[v] W fun e w' => e = .returned (.agg su) ∧ Below W.heap.size W w') (cM1 : GivesO 16 #[.agg y, .agg su] (.agg sm)) (cA1 : GivesO 14 #[.agg x, .agg sm] (.agg sa)) (cB2 : Gives 18 #[.agg sa] (.agg (kb f2))) (qab : ∀ W, (Op.equalIn 10000 23 (.agg (kb f1)) (.agg (kb f2))).run Tryd.prog W = .ok true W) (cWh : GivesO 21 #[.agg (kb e28)] (.tuple #[.agg x, .int .i64 0])) (hna : ao = none → ca = 0) (hnb : bo = none → cb = 0) (hla : la ≤ 140737488351232) (hlab : a.length + b.length ≤ 140737488355000) (hzab : ∀ z ∈ [] ++ a ++ b, 0 ≤ z ∧ z < 256) : Calls Tryd.prog 4 #[.slice ao la ca, .slice bo lb cb, .slice co lc cc] w fun e w' => e = .returned (.bool true) ∧ Below w.heap.size w w' := by
 have hA0 := hA
 have hB0 := hB
 have hC0 := hC
 have hw : Below w.heap.size w w := Below.refl _ _
 have f4 := hS
 go_enter Tryd.func4, Tryd.ntmps4
 go_wp2_with (fail)
 refine (cRa _ f4 hA.1).mono ?_
 rintro e_ w1 ⟨rfl, hb⟩
 replace f4 := f4.below hb
 replace hA := hA.keep hb
 replace hB := hB.keep hb
 replace hC := hC.keep hb
 replace hw := Below.after hw hb
 clear hb
 go_wp2_with (fail)
 refine (cRb _ f4 hB.1).mono ?_
 rintro e_ w2 ⟨rfl, hb⟩
 replace f4 := f4.below hb
 replace hA := hA.keep hb
 replace hB := hB.keep hb
 replace hC := hC.keep hb
 replace hw := Below.after hw hb
 clear hb
 go_wp2_with (fail)
 refine (cRc _ f4 hC.1).mono ?_
 rintro e_ w3 ⟨rfl, hb⟩
 replace f4 := f4.below hb
 replace hA := hA.keep hb
 replace hB := hB.keep hb
 replace hC := hC.keep hb
 replace hw := Below.after hw hb
 clear hb
 go_wp2_with (first | (refine wpList_store_row rfl 41 _ _ rfl (w3.heap.size) x rfl rfl 41 (wd 0) (hp3_0 w3 _ _ _) ox.infoS ((wd_size _).trans ox.1.symm) ox.2 ?_; rw [setRow_alloc_old _ _ _ _ (by simp <;> omega), setRow_alloc_old _ _ _ _ (by simp <;> omega), setRow_alloc_new _ _ _ _ _ _ (by simp)]) | (refine wpList_store_row rfl 41 _ _ rfl (w3.heap.size + 1) y rfl rfl 41 (wd 0) (hp3_1 w3 _ _ _) oy.infoS ((wd_size _).trans oy.1.symm) oy.2 ?_; rw [setRow_alloc_old _ _ _ _ (by simp <;> omega), setRow_alloc_new _ _ _ _ _ _ (by simp)]) | (refine wpList_store_row rfl 41 _ _ rfl (w3.heap.size + 1 + 1) z rfl rfl 41 (wd 0) (hp3_2 w3 _ _ _) oz.infoS ((wd_size _).trans oz.1.symm) oz.2 ?_; rw [setRow_alloc_new _ _ _ _ _ _ (by simp)]; refine wpList_stay ?_) | fail)
 unfold WpStay
 try simp only [Act.put]
 have rl7 : (((w3.alloc (.cells x 41)).alloc (.cells y 41)).alloc (.cells z 41)).heap[w3.heap.size]? = some (.cells x 41 (0, 0)) := hp3_0 w3 _ _ _
 have rl8 : (((w3.alloc (.cells x 41)).alloc (.cells y 41)).alloc (.cells z 41)).heap[w3.heap.size + 1]? = some (.cells y 41 (0, 0)) := hp3_1 w3 _ _ _
 have rl9 : (((w3.alloc (.cells x 41)).alloc (.cells y 41)).alloc (.cells z 41)).heap[w3.heap.size + 1 + 1]? = some (.cells z 41 (0, 0)) := hp3_2 w3 _ _ _
 have hb : Below w3.heap.size w3 (((w3.alloc (.cells x 41)).alloc (.cells y 41)).alloc (.cells z 41)) := ((((Below.refl _ _).alloc (Nat.le_refl _) _).alloc (by simp) _).alloc (by simp; omega) _)
 generalize (((w3.alloc (.cells x 41)).alloc (.cells y 41)).alloc (.cells z 41)) = w4 at *
 have sz_g7 := hw.size
 replace f4 := f4.below hb
 replace hA := hA.keep hb
 replace hB := hB.keep hb
 replace hC := hC.keep hb
 replace hw := Below.after hw hb
 clear hb
 generalize w3.heap.size = g7 at *
 clear w3
 clear hC
 go_wp2_with (fail)
 have rb : (w4.alloc (.cells #[.int .u8 1] 5)).heap[w4.heap.size]? = some (.cells (Wi.irow .u8 [1]) 5 (0, 0)) := hp1_0 w4 _
 have hb : Below w4.heap.size w4 (w4.alloc (.cells #[.int .u8 1] 5)) := (Below.refl _ _).alloc (Nat.le_refl _) _
 generalize (w4.alloc (.cells #[.int .u8 1] 5)) = w5 at *
 replace rl7 := keep hb rl7
 replace rl8 := keep hb rl8
 replace rl9 := keep hb rl9
 replace f4 := f4.below hb
 replace hA := hA.keep hb
 replace hB := hB.keep hb
 replace hw := Below.after hw hb
 clear hb
 generalize w4.heap.size = gb at *
 have hb1 := bysK_l (l := [1]) (n := 1) rb rfl (by decide) (by decide)
 clear rb
 refine (cR1 _ _ f4 hb1.1).mono ?_
 rintro e_ w6 ⟨rfl, hb⟩
 clear hb1
 replace rl7 := keep hb rl7
 replace rl8 := keep hb rl8
 replace rl9 := keep hb rl9
 replace f4 := f4.below hb
 replace hA := hA.keep hb
 replace hB := hB.keep hb
 replace hw := Below.after hw hb
 clear hb
 go_wp2_with (first | (refine wpList_store_row rfl 41 _ _ rfl (w6.heap.size) o rfl rfl 41 (wd 0) (hp1_0 w6 _) oo.infoS ((wd_size _).trans oo.1.symm) oo.2 ?_; rw [setRow_alloc_new _ _ _ _ _ _ (by simp)]; refine wpList_stay ?_) | fail)
 unfold WpStay
 try simp only [Act.put]
 have rl10 : (w6.alloc (.cells o 41)).heap[w6.heap.size]? = some (.cells o 41 (0, 0)) := hp1_0 w6 _
 have hb : Below w6.heap.size w6 (w6.alloc (.cells o 41)) := ((Below.refl _ _).alloc (Nat.le_refl _) _)
 generalize (w6.alloc (.cells o 41)) = w7 at *
 have lt_g10_0 := lt_of_row rl7
 have lt_g10_1 := lt_of_row rl8
 have lt_g10_2 := lt_of_row rl9
 have sz_g10 := hw.size
 replace rl7 := keep hb rl7
 replace rl8 := keep hb rl8
 replace rl9 := keep hb rl9
 replace f4 := f4.below hb
 replace hA := hA.keep hb
 replace hB := hB.keep hb
 replace hw := Below.after hw hb
 clear hb
 generalize w6.heap.size = g10 at *
 clear w6
 go_wp2_with (first | (refine wpList_load_want rfl 41 _ rfl (g7) rfl 41 x (0, 0) _ rl7 Tryd.underlying41 rfl ox.infoS ?_) | (refine wpList_load_want rfl 41 _ rfl (g7 + 1) rfl 41 y (0, 0) _ rl8 Tryd.underlying41 rfl oy.infoS ?_) | (refine wpList_load_want rfl 41 _ rfl (g7 + 1 + 1) rfl 41 z (0, 0) _ rl9 Tryd.underlying41 rfl oz.infoS ?_) | (refine wpList_load_want rfl 41 _ rfl (g10) rfl 41 o (0, 0) _ rl10 Tryd.underlying41 rfl oo.infoS ?_) | (refine wpList_build_as rfl 23 _ rfl [(0, .int .u8 1)] rfl (kb 1) (by kernel_rfl) ?_) | fail)
 refine (cO1.at _).mono ?_
 rintro e_ w8 ⟨rfl, hb⟩
 replace rl7 := keep hb rl7
 replace rl8 := keep hb rl8
 replace rl9 := keep hb rl9
 replace rl10 := keep hb rl10
 replace f4 := f4.below hb
 replace hA := hA.keep hb
 replace hB := hB.keep hb
 replace hw := Below.after hw hb
 clear hb
 go_wp2_with (first | (refine wpList_load_want rfl 41 _ rfl (g7) rfl 41 x (0, 0) _ rl7 Tryd.underlying41 rfl ox.infoS ?_) | (refine wpList_load_want rfl 41 _ rfl (g7 + 1) rfl 41 y (0, 0) _ rl8 Tryd.underlying41 rfl oy.infoS ?_) | (refine wpList_load_want rfl 41 _ rfl (g7 + 1 + 1) rfl 41 z (0, 0) _ rl9 Tryd.underlying41 rfl oz.infoS ?_) | (refine wpList_load_want rfl 41 _ rfl (g10) rfl 41 o (0, 0) _ rl10 Tryd.underlying41 rfl oo.infoS ?_) | (refine wpList_build_as rfl 23 _ rfl [(0, .int .u8 1)] rfl (kb 1) (by kernel_rfl) ?_) | fail)
 refine (cO2.at _).mono ?_
 rintro e_ w9 ⟨rfl, hb⟩
 replace rl7 := keep hb rl7
 replace rl8 := keep hb rl8
 replace rl9 := keep hb rl9
 replace rl10 := keep hb rl10
 replace f4 := f4.below hb
 replace hA := hA.keep hb
 replace hB := hB.keep hb
 replace hw := Below.after hw hb
 clear hb
 go_wp2_with (first | (refine wpList_load_want rfl 41 _ rfl (g7) rfl 41 x (0, 0) _ rl7 Tryd.underlying41 rfl ox.infoS ?_) | (refine wpList_load_want rfl 41 _ rfl (g7 + 1) rfl 41 y (0, 0) _ rl8 Tryd.underlying41 rfl oy.infoS ?_) | (refine wpList_load_want rfl 41 _ rfl (g7 + 1 + 1) rfl 41 z (0, 0) _ rl9 Tryd.underlying41 rfl oz.infoS ?_) | (refine wpList_load_want rfl 41 _ rfl (g10) rfl 41 o (0, 0) _ rl10 Tryd.underlying41 rfl oo.infoS ?_) | (refine wpList_build_as rfl 23 _ rfl [(0, .int .u8 1)] rfl (kb 1) (by kernel_rfl) ?_) | fail)
 refine (r_Order _).mono ?_
 rintro e_ w10 ⟨vo, rfl, hOr, hb⟩
 replace rl7 := keep hb rl7
 replace rl8 := keep hb rl8
 replace rl9 := keep hb rl9
 replace rl10 := keep hb rl10
 replace f4 := f4.below hb
 replace hA := hA.keep hb
 replace hB := hB.keep hb
 replace hw := Below.after hw hb
 clear hb
 go_wp2_with (first | (refine wpList_load_want rfl 41 _ rfl (g7) rfl 41 x (0, 0) _ rl7 Tryd.underlying41 rfl ox.infoS ?_) | (refine wpList_load_want rfl 41 _ rfl (g7 + 1) rfl 41 y (0, 0) _ rl8 Tryd.underlying41 rfl oy.infoS ?_) | (refine wpList_load_want rfl 41 _ rfl (g7 + 1 + 1) rfl 41 z (0, 0) _ rl9 Tryd.underlying41 rfl oz.infoS ?_) | (refine wpList_load_want rfl 41 _ rfl (g10) rfl 41 o (0, 0) _ rl10 Tryd.underlying41 rfl oo.infoS ?_) | fail)
 refine (cRo _ _ f4 hOr.1).mono ?_
 rintro e_ w11 ⟨rfl, hb⟩
 replace rl7 := keep hb rl7
 replace rl8 := keep hb rl8
 replace rl9 := keep hb rl9
 replace rl10 := keep hb rl10
 replace f4 := f4.below hb
 replace hA := hA.keep hb
 replace hB := hB.keep hb
 replace hOr := hOr.keep hb
 replace hw := Below.after hw hb
 clear hb
 clear hOr
 go_wp2_with (first | (refine wpList_load_want rfl 41 _ rfl (g7) rfl 41 x (0, 0) _ rl7 Tryd.underlying41 rfl ox.infoS ?_) | (refine wpList_load_want rfl 41 _ rfl (g7 + 1) rfl 41 y (0, 0) _ rl8 Tryd.underlying41 rfl oy.infoS ?_) | (refine wpList_load_want rfl 41 _ rfl (g7 + 1 + 1) rfl 41 z (0, 0) _ rl9 Tryd.underlying41 rfl oz.infoS ?_) | (refine wpList_load_want rfl 41 _ rfl (g10) rfl 41 o (0, 0) _ rl10 Tryd.underlying41 rfl oo.infoS ?_) | fail)
 refine (cO3.at _).mono ?_
 rintro e_ w12 ⟨rfl, hb⟩
 replace rl7 := keep hb rl7
 replace rl8 := keep hb rl8
 replace rl9 := keep hb rl9
 replace rl10 := keep hb rl10
 replace f4 := f4.below hb
 replace hA := hA.keep hb
 replace hB := hB.keep hb
 replace hw := Below.after hw hb
 clear hb
 go_wp2_with (fail)
 have hb : Below w12.heap.size w12 w12.drew := below_drN (Below.refl _ _) 1
 replace rl7 := keep hb rl7
 replace rl8 := keep hb rl8
 replace rl9 := keep hb rl9
 replace rl10 := keep hb rl10
 replace f4 := f4.below hb
 replace hA := hA.keep hb
 replace hB := hB.keep hb
 replace hw := Below.after hw hb
 clear hb
 refine wp_region_noPanic ?_
 refine wp_region_held (S := fun W_ => W_.heap[g7]? = some (.cells x 41 (0, 0)) ∧ W_.heap[g7 + 1]? = some (.cells y 41 (0, 0)) ∧ W_.heap[g7 + 1 + 1]? = some (.cells z 41 (0, 0))) (by kernel_rfl) ?_
 change wpAnyH _ _ _ _ _ _ _ _ (World.drew _)
 generalize w12.drew = wd164 at *
 refine wpAnyH_take (i := 0) (v := .agg x) rfl (by kernel_rfl) (by kernel_rfl) (by kernel_rfl) (fun _ _ _ h => h) (Or.inl ⟨by rfl, ?y165⟩) (⟨rl7, rl8, rl9⟩) ?r165
 case y165 =>
  intro w_ hS_
  simp only [List.getElem_toArray, List.getElem_cons_zero]
  exact e_load_part 41 _ (by rfl) (g7) 0 (by rfl) 41 x (0, 0) x _ (hS_.1) (all_rowe _) Tryd.underlying41 rfl ox.infoS
 simp only [Act.put, ZPa, ZPc, ZPd, ZPe, ZPf]
 refine wpAnyH_take (i := 1) (v := .agg y) rfl (by kernel_rfl) (by kernel_rfl) (by kernel_rfl) (fun _ _ _ h => h) (Or.inl ⟨by rfl, ?y166⟩) (⟨rl7, rl8, rl9⟩) ?r166
 case y166 =>
  intro w_ hS_
  simp only [List.getElem_toArray, List.getElem_cons_succ, List.getElem_cons_zero]
  exact e_load_part 41 _ (by rfl) (g7 + 1) 0 (by rfl) 41 y (0, 0) y _ (hS_.2.1) (all_rowe _) Tryd.underlying41 rfl oy.infoS
 simp only [Act.put, ZPa, ZPb, ZPc, ZPd, ZPe, ZPf]
 refine wpAnyH_take (i := 4) (v := .agg y) rfl (by kernel_rfl) (by kernel_rfl) (by kernel_rfl) (fun _ _ _ h => h) (Or.inl ⟨by rfl, ?y167⟩) (⟨rl7, rl8, rl9⟩) ?r167
 case y167 =>
  intro w_ hS_
  simp only [List.getElem_toArray, List.getElem_cons_succ, List.getElem_cons_zero]
  exact e_load_part 41 _ (by rfl) (g7 + 1) 0 (by rfl) 41 y (0, 0) y _ (hS_.2.1) (all_rowe _) Tryd.underlying41 rfl oy.infoS
 simp only [Act.put, ZPa, ZPb, ZPc, ZPd, ZPe, ZPf]
 refine wpAnyH_take (i := 5) (v := .agg x) rfl (by kernel_rfl) (by kernel_rfl) (by kernel_rfl) (fun _ _ _ h => h) (Or.inl ⟨by rfl, ?y168⟩) (⟨rl7, rl8, rl9⟩) ?r168
 case y168 =>
  intro w_ hS_
  simp only [List.getElem_toArray, List.getElem_cons_succ, List.getElem_cons_zero]
  exact e_load_part 41 _ (by rfl) (g7) 0 (by rfl) 41 x (0, 0) x _ (hS_.1) (all_rowe _) Tryd.underlying41 rfl ox.infoS
 simp only [Act.put, ZPa, ZPb, ZPc, ZPd, ZPe, ZPf]
 refine eH_one (k := 2) (fuel := 32) (by kernel_rfl) rfl (by kernel_rfl) (fun K_ hK_ => ?_)
 refine wp_call_ex (f := 14) (by kernel_rfl) (ex1e (c1.at f4)) (fun v_ wq169 hX_ => ?_)
 obtain ⟨rfl, hb⟩ := hX_
 replace rl7 := keep hb rl7
 replace rl8 := keep hb rl8
 replace rl9 := keep hb rl9
 replace rl10 := keep hb rl10
 replace f4 := f4.below hb
 replace hA := hA.keep hb
 replace hB := hB.keep hb
 replace hw := Below.after hw hb
 clear hb
 refine hK_ _ _ (⟨rl7, rl8, rl9⟩) ?_
 simp only [Act.put, ZPa, ZPb, ZPc, ZPd, ZPe, ZPf]
 clear hK_
 refine eH_one (k := 3) (fuel := 31) (by kernel_rfl) rfl (by kernel_rfl) (fun K_ hK_ => ?_)
 refine wp_call_ex (f := 18) (by kernel_rfl) (ex1e (c2.at _)) (fun v_ wq170 hX_ => ?_)
 obtain ⟨rfl, hb⟩ := hX_
 replace rl7 := keep hb rl7
 replace rl8 := keep hb rl8
 replace rl9 := keep hb rl9
 replace rl10 := keep hb rl10
 replace f4 := f4.below hb
 replace hA := hA.keep hb
 replace hB := hB.keep hb
 replace hw := Below.after hw hb
 clear hb
 refine hK_ _ _ (⟨rl7, rl8, rl9⟩) ?_
 simp only [Act.put, ZPa, ZPb, ZPc, ZPd, ZPe, ZPf]
 clear hK_
 refine eH_one (k := 6) (fuel := 30) (by kernel_rfl) rfl (by kernel_rfl) (fun K_ hK_ => ?_)
 refine wp_call_ex (f := 14) (by kernel_rfl) (ex1e (c3.at f4)) (fun v_ wq171 hX_ => ?_)
 obtain ⟨rfl, hb⟩ := hX_
 replace rl7 := keep hb rl7
 replace rl8 := keep hb rl8
 replace rl9 := keep hb rl9
 replace rl10 := keep hb rl10
 replace f4 := f4.below hb
 replace hA := hA.keep hb
 replace hB := hB.keep hb
 replace hw := Below.after hw hb
 clear hb
 refine hK_ _ _ (⟨rl7, rl8, rl9⟩) ?_
 simp only [Act.put, ZPa, ZPb, ZPc, ZPd, ZPe, ZPf]
 clear hK_
 refine eH_one (k := 7) (fuel := 29) (by kernel_rfl) rfl (by kernel_rfl) (fun K_ hK_ => ?_)
 refine wp_call_ex (f := 18) (by kernel_rfl) (ex1e (c4.at _)) (fun v_ wq172 hX_ => ?_)
 obtain ⟨rfl, hb⟩ := hX_
 replace rl7 := keep hb rl7
 replace rl8 := keep hb rl8
 replace rl9 := keep hb rl9
 replace rl10 := keep hb rl10
 replace f4 := f4.below hb
 replace hA := hA.keep hb
 replace hB := hB.keep hb
 replace hw := Below.after hw hb
 clear hb
 refine hK_ _ _ (⟨rl7, rl8, rl9⟩) ?_
 simp only [Act.put, ZPa, ZPb, ZPc, ZPd, ZPe, ZPf]
 clear hK_
 refine wpAnyH_take (i := 8) (v := ?v173) rfl (by kernel_rfl) (by kernel_rfl) (by kernel_rfl) (fun _ _ _ h => h) (Or.inl ⟨by rfl, ?y173⟩) (⟨rl7, rl8, rl9⟩) ?r173
 case y173 =>
  intro w_ hS_
  go_simp
  try with_reducible rfl
 simp only [Act.put, ZPa, ZPb, ZPc, ZPd, ZPe, ZPf]
 refine wpAnyH_take (i := 9) (v := ?v174) rfl (by kernel_rfl) (by kernel_rfl) (by kernel_rfl) (fun _ _ _ h => h) (Or.inl ⟨by rfl, ?y174⟩) (⟨rl7, rl8, rl9⟩) ?r174
 case y174 =>
  intro w_ hS_
  go_simp
  try with_reducible rfl
 simp only [Act.put, ZPa, ZPb, ZPc, ZPd, ZPe, ZPf]
 refine wpAnyH_take (i := 10) (v := .agg x) rfl (by kernel_rfl) (by kernel_rfl) (by kernel_rfl) (fun _ _ _ h => h) (Or.inl ⟨by rfl, ?y175⟩) (⟨rl7, rl8, rl9⟩) ?r175
 case y175 =>
  intro w_ hS_
  simp only [List.getElem_toArray, List.getElem_cons_succ, List.getElem_cons_zero]
  exact e_load_part 41 _ (by rfl) (g7) 0 (by rfl) 41 x (0, 0) x _ (hS_.1) (all_rowe _) Tryd.underlying41 rfl ox.infoS
 simp only [Act.put, ZPa, ZPb, ZPc, ZPd, ZPe, ZPf]
 refine wpAnyH_take (i := 11) (v := .agg y) rfl (by kernel_rfl) (by kernel_rfl) (by kernel_rfl) (fun _ _ _ h => h) (Or.inl ⟨by rfl, ?y176⟩) (⟨rl7, rl8, rl9⟩) ?r176
 case y176 =>
  intro w_ hS_
  simp only [List.getElem_toArray, List.getElem_cons_succ, List.getElem_cons_zero]
  exact e_load_part 41 _ (by rfl) (g7 + 1) 0 (by rfl) 41 y (0, 0) y _ (hS_.2.1) (all_rowe _) Tryd.underlying41 rfl oy.infoS
 simp only [Act.put, ZPa, ZPb, ZPc, ZPd, ZPe, ZPf]
 refine wpAnyH_take (i := 14) (v := .agg y) rfl (by kernel_rfl) (by kernel_rfl) (by kernel_rfl) (fun _ _ _ h => h) (Or.inl ⟨by rfl, ?y177⟩) (⟨rl7, rl8, rl9⟩) ?r177
 case y177 =>
  intro w_ hS_
  simp only [List.getElem_toArray, List.getElem_cons_succ, List.getElem_cons_zero]
  exact e_load_part 41 _ (by rfl) (g7 + 1) 0 (by rfl) 41 y (0, 0) y _ (hS_.2.1) (all_rowe _) Tryd.underlying41 rfl oy.infoS
 simp only [Act.put, ZPa, ZPb, ZPc, ZPd, ZPe, ZPf]
 refine wpAnyH_take (i := 15) (v := .agg x) rfl (by kernel_rfl) (by kernel_rfl) (by kernel_rfl) (fun _ _ _ h => h) (Or.inl ⟨by rfl, ?y178⟩) (⟨rl7, rl8, rl9⟩) ?r178
 case y178 =>
  intro w_ hS_
  simp only [List.getElem_toArray, List.getElem_cons_succ, List.getElem_cons_zero]
  exact e_load_part 41 _ (by rfl) (g7) 0 (by rfl) 41 x (0, 0) x _ (hS_.1) (all_rowe _) Tryd.underlying41 rfl ox.infoS
 simp only [Act.put, ZPa, ZPb, ZPc, ZPd, ZPe, ZPf]
 refine eH_one (k := 12) (fuel := 22) (by kernel_rfl) rfl (by kernel_rfl) (fun K_ hK_ => ?_)
 refine wp_call_ex (f := 16) (by kernel_rfl) (ex1e (c5.at f4)) (fun v_ wq179 hX_ => ?_)
 obtain ⟨rfl, hb⟩ := hX_
 replace rl7 := keep hb rl7
 replace rl8 := keep hb rl8
 replace rl9 := keep hb rl9
 replace rl10 := keep hb rl10
 replace f4 := f4.below hb
 replace hA := hA.keep hb
 replace hB := hB.keep hb
 replace hw := Below.after hw hb
 clear hb
 refine hK_ _ _ (⟨rl7, rl8, rl9⟩) ?_
 simp only [Act.put, ZPa, ZPb, ZPc, ZPd, ZPe, ZPf]
 clear hK_
 refine eH_one (k := 13) (fuel := 21) (by kernel_rfl) rfl (by kernel_rfl) (fun K_ hK_ => ?_)
 refine wp_call_ex (f := 18) (by kernel_rfl) (ex1e (c6.at _)) (fun v_ wq180 hX_ => ?_)
 obtain ⟨rfl, hb⟩ := hX_
 replace rl7 := keep hb rl7
 replace rl8 := keep hb rl8
 replace rl9 := keep hb rl9
 replace rl10 := keep hb rl10
 replace f4 := f4.below hb
 replace hA := hA.keep hb
 replace hB := hB.keep hb
 replace hw := Below.after hw hb
 clear hb
 refine hK_ _ _ (⟨rl7, rl8, rl9⟩) ?_
 simp only [Act.put, ZPa, ZPb, ZPc, ZPd, ZPe, ZPf]
 clear hK_
 refine eH_one (k := 16) (fuel := 20) (by kernel_rfl) rfl (by kernel_rfl) (fun K_ hK_ => ?_)
 refine wp_call_ex (f := 16) (by kernel_rfl) (ex1e (c7.at f4)) (fun v_ wq181 hX_ => ?_)
 obtain ⟨rfl, hb⟩ := hX_
 replace rl7 := keep hb rl7
 replace rl8 := keep hb rl8
 replace rl9 := keep hb rl9
 replace rl10 := keep hb rl10
 replace f4 := f4.below hb
 replace hA := hA.keep hb
 replace hB := hB.keep hb
 replace hw := Below.after hw hb
 clear hb
 refine hK_ _ _ (⟨rl7, rl8, rl9⟩) ?_
 simp only [Act.put, ZPa, ZPb, ZPc, ZPd, ZPe, ZPf]
 clear hK_
 refine eH_one (k := 17) (fuel := 19) (by kernel_rfl) rfl (by kernel_rfl) (fun K_ hK_ => ?_)
 refine wp_call_ex (f := 18) (by kernel_rfl) (ex1e (c8.at _)) (fun v_ wq182 hX_ => ?_)
 obtain ⟨rfl, hb⟩ := hX_
 replace rl7 := keep hb rl7
 replace rl8 := keep hb rl8
 replace rl9 := keep hb rl9
 replace rl10 := keep hb rl10
 replace f4 := f4.below hb
 replace hA := hA.keep hb
 replace hB := hB.keep hb
 replace hw := Below.after hw hb
 clear hb
 refine hK_ _ _ (⟨rl7, rl8, rl9⟩) ?_
 simp only [Act.put, ZPa, ZPb, ZPc, ZPd, ZPe, ZPf]
 clear hK_
 refine wpAnyH_take (i := 18) (v := ?v183) rfl (by kernel_rfl) (by kernel_rfl) (by kernel_rfl) (fun _ _ _ h => h) (Or.inl ⟨by rfl, ?y183⟩) (⟨rl7, rl8, rl9⟩) ?r183
 case y183 =>
  intro w_ hS_
  go_simp
  try with_reducible rfl
 simp only [Act.put, ZPa, ZPb, ZPc, ZPd, ZPe, ZPf]
 refine wpAnyH_take (i := 19) (v := ?v184) rfl (by kernel_rfl) (by kernel_rfl) (by kernel_rfl) (fun _ _ _ h => h) (Or.inl ⟨by rfl, ?y184⟩) (⟨rl7, rl8, rl9⟩) ?r184
 case y184 =>
  intro w_ hS_
  go_simp
  try with_reducible rfl
 simp only [Act.put, ZPa, ZPb, ZPc, ZPd, ZPe, ZPf]
 refine wpAnyH_take (i := 20) (v := ?v185) rfl (by kernel_rfl) (by kernel_rfl) (by kernel_rfl) (fun _ _ _ h => h) (Or.inl ⟨by rfl, ?y185⟩) (⟨rl7, rl8, rl9⟩) ?r185
 case y185 =>
  intro w_ hS_
  go_simp
  try with_reducible rfl
 simp only [Act.put, ZPa, ZPb, ZPc, ZPd, ZPe, ZPf]
 refine wpAnyH_take (i := 21) (v := .agg x) rfl (by kernel_rfl) (by kernel_rfl) (by kernel_rfl) (fun _ _ _ h => h) (Or.inl ⟨by rfl, ?y186⟩) (⟨rl7, rl8, rl9⟩) ?r186
 case y186 =>
  intro w_ hS_
  simp only [List.getElem_toArray, List.getElem_cons_succ, List.getElem_cons_zero]
  exact e_load_part 41 _ (by rfl) (g7) 0 (by rfl) 41 x (0, 0) x _ (hS_.1) (all_rowe _) Tryd.underlying41 rfl ox.infoS
 simp only [Act.put, ZPa, ZPb, ZPc, ZPd, ZPe, ZPf]
 refine wpAnyH_take (i := 22) (v := .agg y) rfl (by kernel_rfl) (by kernel_rfl) (by kernel_rfl) (fun _ _ _ h => h) (Or.inl ⟨by rfl, ?y187⟩) (⟨rl7, rl8, rl9⟩) ?r187
 case y187 =>
  intro w_ hS_
  simp only [List.getElem_toArray, List.getElem_cons_succ, List.getElem_cons_zero]
  exact e_load_part 41 _ (by rfl) (g7 + 1) 0 (by rfl) 41 y (0, 0) y _ (hS_.2.1) (all_rowe _) Tryd.underlying41 rfl oy.infoS
 simp only [Act.put, ZPa, ZPb, ZPc, ZPd, ZPe, ZPf]
 refine wpAnyH_take (i := 23) (v := .agg z) rfl (by kernel_rfl) (by kernel_rfl) (by kernel_rfl) (fun _ _ _ h => h) (Or.inl ⟨by rfl, ?y188⟩) (⟨rl7, rl8, rl9⟩) ?r188
 case y188 =>
  intro w_ hS_
  simp only [List.getElem_toArray, List.getElem_cons_succ, List.getElem_cons_zero]
  exact e_load_part 41 _ (by rfl) (g7 + 1 + 1) 0 (by rfl) 41 z (0, 0) z _ (hS_.2.2) (all_rowe _) Tryd.underlying41 rfl oz.infoS
 simp only [Act.put, ZPa, ZPb, ZPc, ZPd, ZPe, ZPf]
 refine wpAnyH_take (i := 27) (v := .agg x) rfl (by kernel_rfl) (by kernel_rfl) (by kernel_rfl) (fun _ _ _ h => h) (Or.inl ⟨by rfl, ?y189⟩) (⟨rl7, rl8, rl9⟩) ?r189
 case y189 =>
  intro w_ hS_
  simp only [List.getElem_toArray, List.getElem_cons_succ, List.getElem_cons_zero]
  exact e_load_part 41 _ (by rfl) (g7) 0 (by rfl) 41 x (0, 0) x _ (hS_.1) (all_rowe _) Tryd.underlying41 rfl ox.infoS
 simp only [Act.put, ZPa, ZPb, ZPc, ZPd, ZPe, ZPf]
 refine wpAnyH_take (i := 28) (v := .agg y) rfl (by kernel_rfl) (by kernel_rfl) (by kernel_rfl) (fun _ _ _ h => h) (Or.inl ⟨by rfl, ?y190⟩) (⟨rl7, rl8, rl9⟩) ?r190
 case y190 =>
  intro w_ hS_
  simp only [List.getElem_toArray, List.getElem_cons_succ, List.getElem_cons_zero]
  exact e_load_part 41 _ (by rfl) (g7 + 1) 0 (by rfl) 41 y (0, 0) y _ (hS_.2.1) (all_rowe _) Tryd.underlying41 rfl oy.infoS
 simp only [Act.put, ZPa, ZPb, ZPc, ZPd, ZPe, ZPf]
 refine wpAnyH_take (i := 30) (v := .agg x) rfl (by kernel_rfl) (by kernel_rfl) (by kernel_rfl) (fun _ _ _ h => h) (Or.inl ⟨by rfl, ?y191⟩) (⟨rl7, rl8, rl9⟩) ?r191
 case y191 =>
  intro w_ hS_
  simp only [List.getElem_toArray, List.getElem_cons_succ, List.getElem_cons_zero]
  exact e_load_part 41 _ (by rfl) (g7) 0 (by rfl) 41 x (0, 0) x _ (hS_.1) (all_rowe _) Tryd.underlying41 rfl ox.infoS
 simp only [Act.put, ZPa, ZPb, ZPc, ZPd, ZPe, ZPf]
 refine wpAnyH_take (i := 31) (v := .agg z) rfl (by kernel_rfl) (by kernel_rfl) (by kernel_rfl) (fun _ _ _ h => h) (Or.inl ⟨by rfl, ?y192⟩) (⟨rl7, rl8, rl9⟩) ?r192
 case y192 =>
  intro w_ hS_
  simp only [List.getElem_toArray, List.getElem_cons_succ, List.getElem_cons_zero]
  exact e_load_part 41 _ (by rfl) (g7 + 1 + 1) 0 (by rfl) 41 z (0, 0) z _ (hS_.2.2) (all_rowe _) Tryd.underlying41 rfl oz.infoS
 simp only [Act.put, ZPa, ZPb, ZPc, ZPd, ZPe, ZPf]
 refine eH_one (k := 24) (fuel := 8) (by kernel_rfl) rfl (by kernel_rfl) (fun K_ hK_ => ?_)
 refine wp_call_ex (f := 14) (by kernel_rfl) (ex1e (c9.at f4)) (fun v_ wq193 hX_ => ?_)
 obtain ⟨rfl, hb⟩ := hX_
 replace rl7 := keep hb rl7
 replace rl8 := keep hb rl8
 replace rl9 := keep hb rl9
 replace rl10 := keep hb rl10
 replace f4 := f4.below hb
 replace hA := hA.keep hb
 replace hB := hB.keep hb
 replace hw := Below.after hw hb
 clear hb
 refine hK_ _ _ (⟨rl7, rl8, rl9⟩) ?_
 simp only [Act.put, ZPa, ZPb, ZPc, ZPd, ZPe, ZPf]
 clear hK_
 refine eH_one (k := 25) (fuel := 7) (by kernel_rfl) rfl (by kernel_rfl) (fun K_ hK_ => ?_)
 refine wp_call_ex (f := 16) (by kernel_rfl) (ex1e (c10.at f4)) (fun v_ wq194 hX_ => ?_)
 obtain ⟨rfl, hb⟩ := hX_
 replace rl7 := keep hb rl7
 replace rl8 := keep hb rl8
 replace rl9 := keep hb rl9
 replace rl10 := keep hb rl10
 replace f4 := f4.below hb
 replace hA := hA.keep hb
 replace hB := hB.keep hb
 replace hw := Below.after hw hb
 clear hb
 refine hK_ _ _ (⟨rl7, rl8, rl9⟩) ?_
 simp only [Act.put, ZPa, ZPb, ZPc, ZPd, ZPe, ZPf]
 clear hK_
 refine eH_one (k := 26) (fuel := 6) (by kernel_rfl) rfl (by kernel_rfl) (fun K_ hK_ => ?_)
 refine wp_call_ex (f := 18) (by kernel_rfl) (ex1e (c11.at _)) (fun v_ wq195 hX_ => ?_)
 obtain ⟨rfl, hb⟩ := hX_
 replace rl7 := keep hb rl7
 replace rl8 := keep hb rl8
 replace rl9 := keep hb rl9
 replace rl10 := keep hb rl10
 replace f4 := f4.below hb
 replace hA := hA.keep hb
 replace hB := hB.keep hb
 replace hw := Below.after hw hb
 clear hb
 refine hK_ _ _ (⟨rl7, rl8, rl9⟩) ?_
 simp only [Act.put, ZPa, ZPb, ZPc, ZPd, ZPe, ZPf]
 clear hK_
 refine eH_one (k := 29) (fuel := 5) (by kernel_rfl) rfl (by kernel_rfl) (fun K_ hK_ => ?_)
 refine wp_call_ex (f := 16) (by kernel_rfl) (ex1e (c5.at f4)) (fun v_ wq196 hX_ => ?_)
 obtain ⟨rfl, hb⟩ := hX_
 replace rl7 := keep hb rl7
 replace rl8 := keep hb rl8
 replace rl9 := keep hb rl9
 replace rl10 := keep hb rl10
 replace f4 := f4.below hb
 replace hA := hA.keep hb
 replace hB := hB.keep hb
 replace hw := Below.after hw hb
 clear hb
 refine hK_ _ _ (⟨rl7, rl8, rl9⟩) ?_
 simp only [Act.put, ZPa, ZPb, ZPc, ZPd, ZPe, ZPf]
 clear hK_
 refine eH_one (k := 32) (fuel := 4) (by kernel_rfl) rfl (by kernel_rfl) (fun K_ hK_ => ?_)
 refine wp_call_ex (f := 16) (by kernel_rfl) (ex1e (c12.at f4)) (fun v_ wq197 hX_ => ?_)
 obtain ⟨rfl, hb⟩ := hX_
 replace rl7 := keep hb rl7
 replace rl8 := keep hb rl8
 replace rl9 := keep hb rl9
 replace rl10 := keep hb rl10
 replace f4 := f4.below hb
 replace hA := hA.keep hb
 replace hB := hB.keep hb
 replace hw := Below.after hw hb
 clear hb
 refine hK_ _ _ (⟨rl7, rl8, rl9⟩) ?_
 simp only [Act.put, ZPa, ZPb, ZPc, ZPd, ZPe, ZPf]
 clear hK_
 refine eH_one (k := 33) (fuel := 3) (by kernel_rfl) rfl (by kernel_rfl) (fun K_ hK_ => ?_)
 refine wp_call_ex (f := 14) (by kernel_rfl) (ex1e (c13.at f4)) (fun v_ wq198 hX_ => ?_)
 obtain ⟨rfl, hb⟩ := hX_
 replace rl7 := keep hb rl7
 replace rl8 := keep hb rl8
 replace rl9 := keep hb rl9
 replace rl10 := keep hb rl10
 replace f4 := f4.below hb
 replace hA := hA.keep hb
 replace hB := hB.keep hb
 replace hw := Below.after hw hb
 clear hb
 refine hK_ _ _ (⟨rl7, rl8, rl9⟩) ?_
 simp only [Act.put, ZPa, ZPb, ZPc, ZPd, ZPe, ZPf]
 clear hK_
 refine eH_one (k := 34) (fuel := 2) (by kernel_rfl) rfl (by kernel_rfl) (fun K_ hK_ => ?_)
 refine wp_call_ex (f := 18) (by kernel_rfl) (ex1e (c14.at _)) (fun v_ wq199 hX_ => ?_)
 obtain ⟨rfl, hb⟩ := hX_
 replace rl7 := keep hb rl7
 replace rl8 := keep hb rl8
 replace rl9 := keep hb rl9
 replace rl10 := keep hb rl10
 replace f4 := f4.below hb
 replace hA := hA.keep hb
 replace hB := hB.keep hb
 replace hw := Below.after hw hb
 clear hb
 refine hK_ _ _ (⟨rl7, rl8, rl9⟩) ?_
 simp only [Act.put, ZPa, ZPb, ZPc, ZPd, ZPe, ZPf]
 clear hK_
 refine wpAnyH_take (i := 35) (v := ?v200) rfl (by kernel_rfl) (by kernel_rfl) (by kernel_rfl) (fun _ _ _ h => h) (Or.inl ⟨by rfl, ?y200⟩) (⟨rl7, rl8, rl9⟩) ?r200
 case y200 =>
  intro w_ hS_
  go_simp
  try with_reducible rfl
 simp only [Act.put, ZPa, ZPb, ZPc, ZPd, ZPe, ZPf]
 refine wpAnyH_take (i := 36) (v := ?v201) rfl (by kernel_rfl) (by kernel_rfl) (by kernel_rfl) (fun _ _ _ h => h) (Or.inl ⟨by rfl, ?y201⟩) (⟨rl7, rl8, rl9⟩) ?r201
 case y201 =>
  intro w_ hS_
  go_simp
  try with_reducible rfl
 simp only [Act.put, ZPa, ZPb, ZPc, ZPd, ZPe, ZPf]
 refine wpAnyH_done (by kernel_rfl) ?_ _
 refine NoPanic.normal ?_
 go_wp2_with (fail)
 have hb : Below wq199.heap.size wq199 wq199.drew := below_drN (Below.refl _ _) 1
 replace rl7 := keep hb rl7
 replace rl8 := keep hb rl8
 replace rl9 := keep hb rl9
 replace rl10 := keep hb rl10
 replace f4 := f4.below hb
 replace hA := hA.keep hb
 replace hB := hB.keep hb
 replace hw := Below.after hw hb
 clear hb
 refine wp_region_noPanic ?_
 refine wp_region_held (S := fun W_ => W_.heap[g7]? = some (.cells x 41 (0, 0)) ∧ W_.heap[g7 + 1]? = some (.cells y 41 (0, 0)) ∧ W_.heap[g7 + 1 + 1]? = some (.cells z 41 (0, 0)) ∧ W_.heap[g10]? = some (.cells o 41 (0, 0))) (by kernel_rfl) ?_
 change wpAnyH _ _ _ _ _ _ _ _ (World.drew _)
 generalize wq199.drew = wd202 at *
 refine wpAnyH_take (i := 0) (v := .agg x) rfl (by kernel_rfl) (by kernel_rfl) (by kernel_rfl) (fun _ _ _ h => h) (Or.inl ⟨by rfl, ?y203⟩) (⟨rl7, rl8, rl9, rl10⟩) ?r203
 case y203 =>
  intro w_ hS_
  simp only [List.getElem_toArray, List.getElem_cons_zero]
  exact e_load_part 41 _ (by rfl) (g7) 0 (by rfl) 41 x (0, 0) x _ (hS_.1) (all_rowe _) Tryd.underlying41 rfl ox.infoS
 simp only [Act.put, ZPa, ZPc, ZPd, ZPe, ZPf]
 refine wpAnyH_take (i := 1) (v := .agg y) rfl (by kernel_rfl) (by kernel_rfl) (by kernel_rfl) (fun _ _ _ h => h) (Or.inl ⟨by rfl, ?y204⟩) (⟨rl7, rl8, rl9, rl10⟩) ?r204
 case y204 =>
  intro w_ hS_
  simp only [List.getElem_toArray, List.getElem_cons_succ, List.getElem_cons_zero]
  exact e_load_part 41 _ (by rfl) (g7 + 1) 0 (by rfl) 41 y (0, 0) y _ (hS_.2.1) (all_rowe _) Tryd.underlying41 rfl oy.infoS
 simp only [Act.put, ZPa, ZPb, ZPc, ZPd, ZPe, ZPf]
 refine wpAnyH_take (i := 3) (v := .agg z) rfl (by kernel_rfl) (by kernel_rfl) (by kernel_rfl) (fun _ _ _ h => h) (Or.inl ⟨by rfl, ?y205⟩) (⟨rl7, rl8, rl9, rl10⟩) ?r205
 case y205 =>
  intro w_ hS_
  simp only [List.getElem_toArray, List.getElem_cons_succ, List.getElem_cons_zero]
  exact e_load_part 41 _ (by rfl) (g7 + 1 + 1) 0 (by rfl) 41 z (0, 0) z _ (hS_.2.2.1) (all_rowe _) Tryd.underlying41 rfl oz.infoS
 simp only [Act.put, ZPa, ZPb, ZPc, ZPd, ZPe, ZPf]
 refine wpAnyH_take (i := 6) (v := .agg x) rfl (by kernel_rfl) (by kernel_rfl) (by kernel_rfl) (fun _ _ _ h => h) (Or.inl ⟨by rfl, ?y206⟩) (⟨rl7, rl8, rl9, rl10⟩) ?r206
 case y206 =>
  intro w_ hS_
  simp only [List.getElem_toArray, List.getElem_cons_succ, List.getElem_cons_zero]
  exact e_load_part 41 _ (by rfl) (g7) 0 (by rfl) 41 x (0, 0) x _ (hS_.1) (all_rowe _) Tryd.underlying41 rfl ox.infoS
 simp only [Act.put, ZPa, ZPb, ZPc, ZPd, ZPe, ZPf]
 refine wpAnyH_take (i := 7) (v := .agg y) rfl (by kernel_rfl) (by kernel_rfl) (by kernel_rfl) (fun _ _ _ h => h) (Or.inl ⟨by rfl, ?y207⟩) (⟨rl7, rl8, rl9, rl10⟩) ?r207
 case y207 =>
  intro w_ hS_
  simp only [List.getElem_toArray, List.getElem_cons_succ, List.getElem_cons_zero]
  exact e_load_part 41 _ (by rfl) (g7 + 1) 0 (by rfl) 41 y (0, 0) y _ (hS_.2.1) (all_rowe _) Tryd.underlying41 rfl oy.infoS
 simp only [Act.put, ZPa, ZPb, ZPc, ZPd, ZPe, ZPf]
 refine wpAnyH_take (i := 8) (v := .agg z) rfl (by kernel_rfl) (by kernel_rfl) (by kernel_rfl) (fun _ _ _ h => h) (Or.inl ⟨by rfl, ?y208⟩) (⟨rl7, rl8, rl9, rl10⟩) ?r208
 case y208 =>
  intro w_ hS_
  simp only [List.getElem_toArray, List.getElem_cons_succ, List.getElem_cons_zero]
  exact e_load_part 41 _ (by rfl) (g7 + 1 + 1) 0 (by rfl) 41 z (0, 0) z _ (hS_.2.2.1) (all_rowe _) Tryd.underlying41 rfl oz.infoS
 simp only [Act.put, ZPa, ZPb, ZPc, ZPd, ZPe, ZPf]
 refine eH_one (k := 2) (fuel := 37) (by kernel_rfl) rfl (by kernel_rfl) (fun K_ hK_ => ?_)
 refine wp_call_ex (f := 16) (by kernel_rfl) (ex1e (c5.at f4)) (fun v_ wq209 hX_ => ?_)
 obtain ⟨rfl, hb⟩ := hX_
 replace rl7 := keep hb rl7
 replace rl8 := keep hb rl8
 replace rl9 := keep hb rl9
 replace rl10 := keep hb rl10
 replace f4 := f4.below hb
 replace hA := hA.keep hb
 replace hB := hB.keep hb
 replace hw := Below.after hw hb
 clear hb
 refine hK_ _ _ (⟨rl7, rl8, rl9, rl10⟩) ?_
 simp only [Act.put, ZPa, ZPb, ZPc, ZPd, ZPe, ZPf]
 clear hK_
 refine eH_one (k := 4) (fuel := 36) (by kernel_rfl) rfl (by kernel_rfl) (fun K_ hK_ => ?_)
 refine wp_call_ex (f := 16) (by kernel_rfl) (ex1e (c15.at f4)) (fun v_ wq210 hX_ => ?_)
 obtain ⟨rfl, hb⟩ := hX_
 replace rl7 := keep hb rl7
 replace rl8 := keep hb rl8
 replace rl9 := keep hb rl9
 replace rl10 := keep hb rl10
 replace f4 := f4.below hb
 replace hA := hA.keep hb
 replace hB := hB.keep hb
 replace hw := Below.after hw hb
 clear hb
 refine hK_ _ _ (⟨rl7, rl8, rl9, rl10⟩) ?_
 simp only [Act.put, ZPa, ZPb, ZPc, ZPd, ZPe, ZPf]
 clear hK_
 refine eH_one (k := 5) (fuel := 35) (by kernel_rfl) rfl (by kernel_rfl) (fun K_ hK_ => ?_)
 refine wp_call_ex (f := 18) (by kernel_rfl) (ex1e (c16.at _)) (fun v_ wq211 hX_ => ?_)
 obtain ⟨rfl, hb⟩ := hX_
 replace rl7 := keep hb rl7
 replace rl8 := keep hb rl8
 replace rl9 := keep hb rl9
 replace rl10 := keep hb rl10
 replace f4 := f4.below hb
 replace hA := hA.keep hb
 replace hB := hB.keep hb
 replace hw := Below.after hw hb
 clear hb
 refine hK_ _ _ (⟨rl7, rl8, rl9, rl10⟩) ?_
 simp only [Act.put, ZPa, ZPb, ZPc, ZPd, ZPe, ZPf]
 clear hK_
 refine eH_one (k := 9) (fuel := 34) (by kernel_rfl) rfl (by kernel_rfl) (fun K_ hK_ => ?_)
 refine wp_call_ex (f := 16) (by kernel_rfl) (ex1e (c17.at f4)) (fun v_ wq212 hX_ => ?_)
 obtain ⟨rfl, hb⟩ := hX_
 replace rl7 := keep hb rl7
 replace rl8 := keep hb rl8
 replace rl9 := keep hb rl9
 replace rl10 := keep hb rl10
 replace f4 := f4.below hb
 replace hA := hA.keep hb
 replace hB := hB.keep hb
 replace hw := Below.after hw hb
 clear hb
 refine hK_ _ _ (⟨rl7, rl8, rl9, rl10⟩) ?_
 simp only [Act.put, ZPa, ZPb, ZPc, ZPd, ZPe, ZPf]
 clear hK_
 refine eH_one (k := 10) (fuel := 33) (by kernel_rfl) rfl (by kernel_rfl) (fun K_ hK_ => ?_)
 refine wp_call_ex (f := 16) (by kernel_rfl) (ex1e (c18.at f4)) (fun v_ wq213 hX_ => ?_)
 obtain ⟨rfl, hb⟩ := hX_
 replace rl7 := keep hb rl7
 replace rl8 := keep hb rl8
 replace rl9 := keep hb rl9
 replace rl10 := keep hb rl10
 replace f4 := f4.below hb
 replace hA := hA.keep hb
 replace hB := hB.keep hb
 replace hw := Below.after hw hb
 clear hb
 refine hK_ _ _ (⟨rl7, rl8, rl9, rl10⟩) ?_
 simp only [Act.put, ZPa, ZPb, ZPc, ZPd, ZPe, ZPf]
 clear hK_
 refine eH_one (k := 11) (fuel := 32) (by kernel_rfl) rfl (by kernel_rfl) (fun K_ hK_ => ?_)
 refine wp_call_ex (f := 18) (by kernel_rfl) (ex1e (c19.at _)) (fun v_ wq214 hX_ => ?_)
 obtain ⟨rfl, hb⟩ := hX_
 replace rl7 := keep hb rl7
 replace rl8 := keep hb rl8
 replace rl9 := keep hb rl9
 replace rl10 := keep hb rl10
 replace f4 := f4.below hb
 replace hA := hA.keep hb
 replace hB := hB.keep hb
 replace hw := Below.after hw hb
 clear hb
 refine hK_ _ _ (⟨rl7, rl8, rl9, rl10⟩) ?_
 simp only [Act.put, ZPa, ZPb, ZPc, ZPd, ZPe, ZPf]
 clear hK_
 refine wpAnyH_take (i := 12) (v := ?v215) rfl (by kernel_rfl) (by kernel_rfl) (by kernel_rfl) (fun _ _ _ h => h) (Or.inl ⟨by rfl, ?y215⟩) (⟨rl7, rl8, rl9, rl10⟩) ?r215
 case y215 =>
  intro w_ hS_
  go_simp
  try with_reducible rfl
 simp only [Act.put, ZPa, ZPb, ZPc, ZPd, ZPe, ZPf]
 refine wpAnyH_take (i := 13) (v := ?v216) rfl (by kernel_rfl) (by kernel_rfl) (by kernel_rfl) (fun _ _ _ h => h) (Or.inl ⟨by rfl, ?y216⟩) (⟨rl7, rl8, rl9, rl10⟩) ?r216
 case y216 =>
  intro w_ hS_
  go_simp
  try with_reducible rfl
 simp only [Act.put, ZPa, ZPb, ZPc, ZPd, ZPe, ZPf]
 refine wpAnyH_take (i := 14) (v := .agg x) rfl (by kernel_rfl) (by kernel_rfl) (by kernel_rfl) (fun _ _ _ h => h) (Or.inl ⟨by rfl, ?y217⟩) (⟨rl7, rl8, rl9, rl10⟩) ?r217
 case y217 =>
  intro w_ hS_
  simp only [List.getElem_toArray, List.getElem_cons_succ, List.getElem_cons_zero]
  exact e_load_part 41 _ (by rfl) (g7) 0 (by rfl) 41 x (0, 0) x _ (hS_.1) (all_rowe _) Tryd.underlying41 rfl ox.infoS
 simp only [Act.put, ZPa, ZPb, ZPc, ZPd, ZPe, ZPf]
 refine wpAnyH_take (i := 15) (v := .agg y) rfl (by kernel_rfl) (by kernel_rfl) (by kernel_rfl) (fun _ _ _ h => h) (Or.inl ⟨by rfl, ?y218⟩) (⟨rl7, rl8, rl9, rl10⟩) ?r218
 case y218 =>
  intro w_ hS_
  simp only [List.getElem_toArray, List.getElem_cons_succ, List.getElem_cons_zero]
  exact e_load_part 41 _ (by rfl) (g7 + 1) 0 (by rfl) 41 y (0, 0) y _ (hS_.2.1) (all_rowe _) Tryd.underlying41 rfl oy.infoS
 simp only [Act.put, ZPa, ZPb, ZPc, ZPd, ZPe, ZPf]
 refine wpAnyH_take (i := 17) (v := .agg z) rfl (by kernel_rfl) (by kernel_rfl) (by kernel_rfl) (fun _ _ _ h => h) (Or.inl ⟨by rfl, ?y219⟩) (⟨rl7, rl8, rl9, rl10⟩) ?r219
 case y219 =>
  intro w_ hS_
  simp only [List.getElem_toArray, List.getElem_cons_succ, List.getElem_cons_zero]
  exact e_load_part 41 _ (by rfl) (g7 + 1 + 1) 0 (by rfl) 41 z (0, 0) z _ (hS_.2.2.1) (all_rowe _) Tryd.underlying41 rfl oz.infoS
 simp only [Act.put, ZPa, ZPb, ZPc, ZPd, ZPe, ZPf]
 refine wpAnyH_take (i := 20) (v := .agg x) rfl (by kernel_rfl) (by kernel_rfl) (by kernel_rfl) (fun _ _ _ h => h) (Or.inl ⟨by rfl, ?y220⟩) (⟨rl7, rl8, rl9, rl10⟩) ?r220
 case y220 =>
  intro w_ hS_
  simp only [List.getElem_toArray, List.getElem_cons_succ, List.getElem_cons_zero]
  exact e_load_part 41 _ (by rfl) (g7) 0 (by rfl) 41 x (0, 0) x _ (hS_.1) (all_rowe _) Tryd.underlying41 rfl ox.infoS
 simp only [Act.put, ZPa, ZPb, ZPc, ZPd, ZPe, ZPf]
 refine wpAnyH_take (i := 21) (v := .agg y) rfl (by kernel_rfl) (by kernel_rfl) (by kernel_rfl) (fun _ _ _ h => h) (Or.inl ⟨by rfl, ?y221⟩) (⟨rl7, rl8, rl9, rl10⟩) ?r221
 case y221 =>
  intro w_ hS_
  simp only [List.getElem_toArray, List.getElem_cons_succ, List.getElem_cons_zero]
  exact e_load_part 41 _ (by rfl) (g7 + 1) 0 (by rfl) 41 y (0, 0) y _ (hS_.2.1) (all_rowe _) Tryd.underlying41 rfl oy.infoS
 simp only [Act.put, ZPa, ZPb, ZPc, ZPd, ZPe, ZPf]
 refine wpAnyH_take (i := 22) (v := .agg z) rfl (by kernel_rfl) (by kernel_rfl) (by kernel_rfl) (fun _ _ _ h => h) (Or.inl ⟨by rfl, ?y222⟩) (⟨rl7, rl8, rl9, rl10⟩) ?r222
 case y222 =>
  intro w_ hS_
  simp only [List.getElem_toArray, List.getElem_cons_succ, List.getElem_cons_zero]
  exact e_load_part 41 _ (by rfl) (g7 + 1 + 1) 0 (by rfl) 41 z (0, 0) z _ (hS_.2.2.1) (all_rowe _) Tryd.underlying41 rfl oz.infoS
 simp only [Act.put, ZPa, ZPb, ZPc, ZPd, ZPe, ZPf]
 refine eH_one (k := 16) (fuel := 23) (by kernel_rfl) rfl (by kernel_rfl) (fun K_ hK_ => ?_)
 refine wp_call_ex (f := 14) (by kernel_rfl) (ex1e (c1.at f4)) (fun v_ wq223 hX_ => ?_)
 obtain ⟨rfl, hb⟩ := hX_
 replace rl7 := keep hb rl7
 replace rl8 := keep hb rl8
 replace rl9 := keep hb rl9
 replace rl10 := keep hb rl10
 replace f4 := f4.below hb
 replace hA := hA.keep hb
 replace hB := hB.keep hb
 replace hw := Below.after hw hb
 clear hb
 refine hK_ _ _ (⟨rl7, rl8, rl9, rl10⟩) ?_
 simp only [Act.put, ZPa, ZPb, ZPc, ZPd, ZPe, ZPf]
 clear hK_
 refine eH_one (k := 18) (fuel := 22) (by kernel_rfl) rfl (by kernel_rfl) (fun K_ hK_ => ?_)
 refine wp_call_ex (f := 14) (by kernel_rfl) (ex1e (c20.at f4)) (fun v_ wq224 hX_ => ?_)
 obtain ⟨rfl, hb⟩ := hX_
 replace rl7 := keep hb rl7
 replace rl8 := keep hb rl8
 replace rl9 := keep hb rl9
 replace rl10 := keep hb rl10
 replace f4 := f4.below hb
 replace hA := hA.keep hb
 replace hB := hB.keep hb
 replace hw := Below.after hw hb
 clear hb
 refine hK_ _ _ (⟨rl7, rl8, rl9, rl10⟩) ?_
 simp only [Act.put, ZPa, ZPb, ZPc, ZPd, ZPe, ZPf]
 clear hK_
 refine eH_one (k := 19) (fuel := 21) (by kernel_rfl) rfl (by kernel_rfl) (fun K_ hK_ => ?_)
 refine wp_call_ex (f := 18) (by kernel_rfl) (ex1e (c21.at _)) (fun v_ wq225 hX_ => ?_)
 obtain ⟨rfl, hb⟩ := hX_
 replace rl7 := keep hb rl7
 replace rl8 := keep hb rl8
 replace rl9 := keep hb rl9
 replace rl10 := keep hb rl10
 replace f4 := f4.below hb
 replace hA := hA.keep hb
 replace hB := hB.keep hb
 replace hw := Below.after hw hb
 clear hb
 refine hK_ _ _ (⟨rl7, rl8, rl9, rl10⟩) ?_
 simp only [Act.put, ZPa, ZPb, ZPc, ZPd, ZPe, ZPf]
 clear hK_
 refine eH_one (k := 23) (fuel := 20) (by kernel_rfl) rfl (by kernel_rfl) (fun K_ hK_ => ?_)
 refine wp_call_ex (f := 14) (by kernel_rfl) (ex1e (c9.at f4)) (fun v_ wq226 hX_ => ?_)
 obtain ⟨rfl, hb⟩ := hX_
 replace rl7 := keep hb rl7
 replace rl8 := keep hb rl8
 replace rl9 := keep hb rl9
 replace rl10 := keep hb rl10
 replace f4 := f4.below hb
 replace hA := hA.keep hb
 replace hB := hB.keep hb
 replace hw := Below.after hw hb
 clear hb
 refine hK_ _ _ (⟨rl7, rl8, rl9, rl10⟩) ?_
 simp only [Act.put, ZPa, ZPb, ZPc, ZPd, ZPe, ZPf]
 clear hK_
 refine eH_one (k := 24) (fuel := 19) (by kernel_rfl) rfl (by kernel_rfl) (fun K_ hK_ => ?_)
 refine wp_call_ex (f := 14) (by kernel_rfl) (ex1e (c22.at f4)) (fun v_ wq227 hX_ => ?_)
 obtain ⟨rfl, hb⟩ := hX_
 replace rl7 := keep hb rl7
 replace rl8 := keep hb rl8
 replace rl9 := keep hb rl9
 replace rl10 := keep hb rl10
 replace f4 := f4.below hb
 replace hA := hA.keep hb
 replace hB := hB.keep hb
 replace hw := Below.after hw hb
 clear hb
 refine hK_ _ _ (⟨rl7, rl8, rl9, rl10⟩) ?_
 simp only [Act.put, ZPa, ZPb, ZPc, ZPd, ZPe, ZPf]
 clear hK_
 refine eH_one (k := 25) (fuel := 18) (by kernel_rfl) rfl (by kernel_rfl) (fun K_ hK_ => ?_)
 refine wp_call_ex (f := 18) (by kernel_rfl) (ex1e (c23.at _)) (fun v_ wq228 hX_ => ?_)
 obtain ⟨rfl, hb⟩ := hX_
 replace rl7 := keep hb rl7
 replace rl8 := keep hb rl8
 replace rl9 := keep hb rl9
 replace rl10 := keep hb rl10
 replace f4 := f4.below hb
 replace hA := hA.keep hb
 replace hB := hB.keep hb
 replace hw := Below.after hw hb
 clear hb
 refine hK_ _ _ (⟨rl7, rl8, rl9, rl10⟩) ?_
 simp only [Act.put, ZPa, ZPb, ZPc, ZPd, ZPe, ZPf]
 clear hK_
 refine wpAnyH_take (i := 26) (v := ?v229) rfl (by kernel_rfl) (by kernel_rfl) (by kernel_rfl) (fun _ _ _ h => h) (Or.inl ⟨by rfl, ?y229⟩) (⟨rl7, rl8, rl9, rl10⟩) ?r229
 case y229 =>
  intro w_ hS_
  go_simp
  try with_reducible rfl
 simp only [Act.put, ZPa, ZPb, ZPc, ZPd, ZPe, ZPf]
 refine wpAnyH_take (i := 27) (v := ?v230) rfl (by kernel_rfl) (by kernel_rfl) (by kernel_rfl) (fun _ _ _ h => h) (Or.inl ⟨by rfl, ?y230⟩) (⟨rl7, rl8, rl9, rl10⟩) ?r230
 case y230 =>
  intro w_ hS_
  go_simp
  try with_reducible rfl
 simp only [Act.put, ZPa, ZPb, ZPc, ZPd, ZPe, ZPf]
 refine wpAnyH_take (i := 28) (v := ?v231) rfl (by kernel_rfl) (by kernel_rfl) (by kernel_rfl) (fun _ _ _ h => h) (Or.inl ⟨by rfl, ?y231⟩) (⟨rl7, rl8, rl9, rl10⟩) ?r231
 case y231 =>
  intro w_ hS_
  go_simp
  try with_reducible rfl
 simp only [Act.put, ZPa, ZPb, ZPc, ZPd, ZPe, ZPf]
 refine wpAnyH_take (i := 29) (v := .agg x) rfl (by kernel_rfl) (by kernel_rfl) (by kernel_rfl) (fun _ _ _ h => h) (Or.inl ⟨by rfl, ?y232⟩) (⟨rl7, rl8, rl9, rl10⟩) ?r232
 case y232 =>
  intro w_ hS_
  simp only [List.getElem_toArray, List.getElem_cons_succ, List.getElem_cons_zero]
  exact e_load_part 41 _ (by rfl) (g7) 0 (by rfl) 41 x (0, 0) x _ (hS_.1) (all_rowe _) Tryd.underlying41 rfl ox.infoS
 simp only [Act.put, ZPa, ZPb, ZPc, ZPd, ZPe, ZPf]
 refine wpAnyH_take (i := 30) (v := .agg x) rfl (by kernel_rfl) (by kernel_rfl) (by kernel_rfl) (fun _ _ _ h => h) (Or.inl ⟨by rfl, ?y233⟩) (⟨rl7, rl8, rl9, rl10⟩) ?r233
 case y233 =>
  intro w_ hS_
  simp only [List.getElem_toArray, List.getElem_cons_succ, List.getElem_cons_zero]
  exact e_load_part 41 _ (by rfl) (g7) 0 (by rfl) 41 x (0, 0) x _ (hS_.1) (all_rowe _) Tryd.underlying41 rfl ox.infoS
 simp only [Act.put, ZPa, ZPb, ZPc, ZPd, ZPe, ZPf]
 refine eH_one (k := 31) (fuel := 12) (by kernel_rfl) rfl (by kernel_rfl) (fun K_ hK_ => ?_)
 refine wp_call_ex (f := 20) (by kernel_rfl) (ex1e (c24.at f4)) (fun v_ wq234 hX_ => ?_)
 obtain ⟨rfl, hb⟩ := hX_
 replace rl7 := keep hb rl7
 replace rl8 := keep hb rl8
 replace rl9 := keep hb rl9
 replace rl10 := keep hb rl10
 replace f4 := f4.below hb
 replace hA := hA.keep hb
 replace hB := hB.keep hb
 replace hw := Below.after hw hb
 clear hb
 refine hK_ _ _ (⟨rl7, rl8, rl9, rl10⟩) ?_
 simp only [Act.put, ZPa, ZPb, ZPc, ZPd, ZPe, ZPf]
 clear hK_
 refine eH_one (k := 32) (fuel := 11) (by kernel_rfl) rfl (by kernel_rfl) (fun K_ hK_ => ?_)
 refine wp_call_ex (f := 19) (by kernel_rfl) (ex1e (c25.at _)) (fun v_ wq235 hX_ => ?_)
 obtain ⟨rfl, hb⟩ := hX_
 replace rl7 := keep hb rl7
 replace rl8 := keep hb rl8
 replace rl9 := keep hb rl9
 replace rl10 := keep hb rl10
 replace f4 := f4.below hb
 replace hA := hA.keep hb
 replace hB := hB.keep hb
 replace hw := Below.after hw hb
 clear hb
 refine hK_ _ _ (⟨rl7, rl8, rl9, rl10⟩) ?_
 simp only [Act.put, ZPa, ZPb, ZPc, ZPd, ZPe, ZPf]
 clear hK_
 refine wpAnyH_take (i := 33) (v := ?v236) rfl (by kernel_rfl) (by kernel_rfl) (by kernel_rfl) (fun _ _ _ h => h) (Or.inl ⟨by rfl, ?y236⟩) (⟨rl7, rl8, rl9, rl10⟩) ?r236
 case y236 =>
  intro w_ hS_
  go_simp
  try with_reducible rfl
 simp only [Act.put, ZPa, ZPb, ZPc, ZPd, ZPe, ZPf]
 refine wpAnyH_take (i := 34) (v := ?v237) rfl (by kernel_rfl) (by kernel_rfl) (by kernel_rfl) (fun _ _ _ h => h) (Or.inl ⟨by rfl, ?y237⟩) (⟨rl7, rl8, rl9, rl10⟩) ?r237
 case y237 =>
  intro w_ hS_
  go_simp
  try with_reducible rfl
 simp only [Act.put, ZPa, ZPb, ZPc, ZPd, ZPe, ZPf]
 refine wpAnyH_take (i := 35) (v := ?v238) rfl (by kernel_rfl) (by kernel_rfl) (by kernel_rfl) (fun _ _ _ h => h) (Or.inl ⟨by rfl, ?y238⟩) (⟨rl7, rl8, rl9, rl10⟩) ?r238
 case y238 =>
  intro w_ hS_
  go_simp
  try with_reducible rfl
 simp only [Act.put, ZPa, ZPb, ZPc, ZPd, ZPe, ZPf]
 refine wpAnyH_take (i := 36) (v := .agg x) rfl (by kernel_rfl) (by kernel_rfl) (by kernel_rfl) (fun _ _ _ h => h) (Or.inl ⟨by rfl, ?y239⟩) (⟨rl7, rl8, rl9, rl10⟩) ?r239
 case y239 =>
  intro w_ hS_
  simp only [List.getElem_toArray, List.getElem_cons_succ, List.getElem_cons_zero]
  exact e_load_part 41 _ (by rfl) (g7) 0 (by rfl) 41 x (0, 0) x _ (hS_.1) (all_rowe _) Tryd.underlying41 rfl ox.infoS
 simp only [Act.put, ZPa, ZPb, ZPc, ZPd, ZPe, ZPf]
 refine wpAnyH_take (i := 37) (v := .agg o) rfl (by kernel_rfl) (by kernel_rfl) (by kernel_rfl) (fun _ _ _ h => h) (Or.inl ⟨by rfl, ?y240⟩) (⟨rl7, rl8, rl9, rl10⟩) ?r240
 case y240 =>
  intro w_ hS_
  simp only [List.getElem_toArray, List.getElem_cons_succ, List.getElem_cons_zero]
  exact e_load_part 41 _ (by rfl) (g10) 0 (by rfl) 41 o (0, 0) o _ (hS_.2.2.2) (all_rowe _) Tryd.underlying41 rfl oo.infoS
 simp only [Act.put, ZPa, ZPb, ZPc, ZPd, ZPe, ZPf]
 refine wpAnyH_take (i := 40) (v := .agg x) rfl (by kernel_rfl) (by kernel_rfl) (by kernel_rfl) (fun _ _ _ h => h) (Or.inl ⟨by rfl, ?y241⟩) (⟨rl7, rl8, rl9, rl10⟩) ?r241
 case y241 =>
  intro w_ hS_
  simp only [List.getElem_toArray, List.getElem_cons_succ, List.getElem_cons_zero]
  exact e_load_part 41 _ (by rfl) (g7) 0 (by rfl) 41 x (0, 0) x _ (hS_.1) (all_rowe _) Tryd.underlying41 rfl ox.infoS
 simp only [Act.put, ZPa, ZPb, ZPc, ZPd, ZPe, ZPf]
 refine eH_one (k := 38) (fuel := 4) (by kernel_rfl) rfl (by kernel_rfl) (fun K_ hK_ => ?_)
 refine wp_call_ex (f := 16) (by kernel_rfl) (ex1e (c26.at f4)) (fun v_ wq242 hX_ => ?_)
 obtain ⟨rfl, hb⟩ := hX_
 replace rl7 := keep hb rl7
 replace rl8 := keep hb rl8
 replace rl9 := keep hb rl9
 replace rl10 := keep hb rl10
 replace f4 := f4.below hb
 replace hA := hA.keep hb
 replace hB := hB.keep hb
 replace hw := Below.after hw hb
 clear hb
 refine hK_ _ _ (⟨rl7, rl8, rl9, rl10⟩) ?_
 simp only [Act.put, ZPa, ZPb, ZPc, ZPd, ZPe, ZPf]
 clear hK_
 refine eH_one (k := 39) (fuel := 3) (by kernel_rfl) rfl (by kernel_rfl) (fun K_ hK_ => ?_)
 refine wp_call_ex (f := 18) (by kernel_rfl) (ex1e (c27.at _)) (fun v_ wq243 hX_ => ?_)
 obtain ⟨rfl, hb⟩ := hX_
 replace rl7 := keep hb rl7
 replace rl8 := keep hb rl8
 replace rl9 := keep hb rl9
 replace rl10 := keep hb rl10
 replace f4 := f4.below hb
 replace hA := hA.keep hb
 replace hB := hB.keep hb
 replace hw := Below.after hw hb
 clear hb
 refine hK_ _ _ (⟨rl7, rl8, rl9, rl10⟩) ?_
 simp only [Act.put, ZPa, ZPb, ZPc, ZPd, ZPe, ZPf]
 clear hK_
 refine eH_one (k := 41) (fuel := 2) (by kernel_rfl) rfl (by kernel_rfl) (fun K_ hK_ => ?_)
 refine wp_call_ex (f := 18) (by kernel_rfl) (ex1e (c28.at _)) (fun v_ wq244 hX_ => ?_)
 obtain ⟨rfl, hb⟩ := hX_
 replace rl7 := keep hb rl7
 replace rl8 := keep hb rl8
 replace rl9 := keep hb rl9
 replace rl10 := keep hb rl10
 replace f4 := f4.below hb
 replace hA := hA.keep hb
 replace hB := hB.keep hb
 replace hw := Below.after hw hb
 clear hb
 refine hK_ _ _ (⟨rl7, rl8, rl9, rl10⟩) ?_
 simp only [Act.put, ZPa, ZPb, ZPc, ZPd, ZPe, ZPf]
 clear hK_
 refine wpAnyH_take (i := 42) (v := ?v245) rfl (by kernel_rfl) (by kernel_rfl) (by kernel_rfl) (fun _ _ _ h => h) (Or.inl ⟨by rfl, ?y245⟩) (⟨rl7, rl8, rl9, rl10⟩) ?r245
 case y245 =>
  intro w_ hS_
  go_simp
  try with_reducible rfl
 simp only [Act.put, ZPa, ZPb, ZPc, ZPd, ZPe, ZPf]
 refine wpAnyH_take (i := 43) (v := ?v246) rfl (by kernel_rfl) (by kernel_rfl) (by kernel_rfl) (fun _ _ _ h => h) (Or.inl ⟨by rfl, ?y246⟩) (⟨rl7, rl8, rl9, rl10⟩) ?r246
 case y246 =>
  intro w_ hS_
  go_simp
  try with_reducible rfl
 simp only [Act.put, ZPa, ZPb, ZPc, ZPd, ZPe, ZPf]
 refine wpAnyH_done (by kernel_rfl) ?_ _
 refine NoPanic.normal ?_
 obtain ⟨i0_, hi_, hz0_, hz1_, hz2_⟩ := Wi.info8
 have hmk := Wi.make_i64 la (by omega) wq244
 have hO1 := own_lit20 wq244 (Wi.zr la) la (Wi.zr_len la) (by omega)
 have hb1 : Below (wq244.alloc (.cells (Wi.irow .u8 (Wi.zr la)) 5)).heap.size (wq244.alloc (.cells (Wi.irow .u8 (Wi.zr la)) 5)) ((wq244.alloc (.cells (Wi.irow .u8 (Wi.zr la)) 5)).alloc (.cells #[.int .u8 1] 5)) := (Below.refl _ _).alloc (Nat.le_refl _) _
 replace hO1 := Wi.own_keep hO1 hb1
 have hb2 : Below wq244.heap.size wq244 ((wq244.alloc (.cells (Wi.irow .u8 (Wi.zr la)) 5)).alloc (.cells #[.int .u8 1] 5)) := ((Below.refl _ _).alloc (Nat.le_refl _) _).alloc (by simp) _
 have hn1 : ∀ ad, (some (⟨wq244.heap.size + 1, 0, none⟩ : Addr)) = some ad → ∀ (j : Nat) (u : Value), [Value.int .u8 1][j]? = some u → ((wq244.alloc (.cells (Wi.irow .u8 (Wi.zr la)) 5)).alloc (.cells #[.int .u8 1] 5)).cell? (ad.add j) = some u := fun ad e j u hu => by
  cases e
  have hj : j = 0 := by
   cases j with
   | zero => rfl
   | succ j => simp at hu
  subst hj
  simp at hu
  subst hu
  exact cell_of_row ((wq244.alloc (.cells (Wi.irow .u8 (Wi.zr la)) 5)).alloc (.cells #[.int .u8 1] 5)) (wq244.heap.size + 1) 0 _ _ _ (hp2_1 wq244 _ _)
 rw [Wi.zr_len] at hO1
 clear hb1
 go_wp2_with (at_builtin; refine Wi.wpList_append_own_any _ rfl (.tmp 119) (.tmp 120) 24 rfl wq244.heap.size 5 i0_ (.int .u8 0) Tryd.underlying24 hi_ hz0_ hz1_ hz2_ rfl _ la ((Wi.zr la).map (Value.int .u8)) rfl hO1 (some ⟨wq244.heap.size + 1, 0, none⟩) 1 1 [Value.int .u8 1] rfl (by simp) (fun h => by cases h) hn1 (by simp [Value.oneCell']) (by unfold maxLen; omega) (by omega) (by simp; omega) ?_)
 intro vu wu hOu hgr
 have hb := hb2.grown hgr hb2.size (fun k h => (hO1.lt k h).1)
 rw [show (Wi.zr la).map (Value.int .u8) ++ [Value.int .u8 1] = (Wi.zr la ++ [1]).map (Value.int .u8) by simp] at hOu
 have hU := bysK_own20 hOu (by simp [Wi.zr]) (by simp [Wi.zr]; omega) (fun z h => by
  rcases List.mem_append.1 h with h | h
  ·have := List.eq_of_mem_replicate h; omega
  ·simp at h; omega)
 clear hmk hO1 hb2 hn1 hgr hOu
 replace rl7 := keep hb rl7
 replace rl8 := keep hb rl8
 replace rl9 := keep hb rl9
 replace rl10 := keep hb rl10
 replace f4 := f4.below hb
 replace hA := hA.keep hb
 replace hB := hB.keep hb
 replace hw := Below.after hw hb
 clear hb
 go_wp2_with (fail)
 have hb : Below wu.heap.size wu wu.drew := below_drN (Below.refl _ _) 1
 replace rl7 := keep hb rl7
 replace rl8 := keep hb rl8
 replace rl9 := keep hb rl9
 replace rl10 := keep hb rl10
 replace f4 := f4.below hb
 replace hA := hA.keep hb
 replace hB := hB.keep hb
 replace hU := hU.keep hb
 replace hw := Below.after hw hb
 clear hb
 refine wp_region_noPanic ?_
 refine wp_region_held (S := fun W_ => W_.heap[g7]? = some (.cells x 41 (0, 0)) ∧ W_.heap[g7 + 1]? = some (.cells y 41 (0, 0))) (by kernel_rfl) ?_
 change wpAnyH _ _ _ _ _ _ _ _ (World.drew _)
 generalize wu.drew = wd247 at *
 refine wpAnyH_take (i := 1) (v := ?v248) rfl (by kernel_rfl) (by kernel_rfl) (by kernel_rfl) (fun _ _ _ h => h) (Or.inl ⟨by rfl, ?y248⟩) (⟨rl7, rl8⟩) ?r248
 case y248 =>
  intro w_ hS_
  go_simp
  try with_reducible rfl
 simp only [Act.put, ZPa, ZPb, ZPc, ZPd, ZPe, ZPf]
 refine wpAnyH_take (i := 3) (v := ?v249) rfl (by kernel_rfl) (by kernel_rfl) (by kernel_rfl) (fun _ _ _ h => h) (Or.inl ⟨by rfl, ?y249⟩) (⟨rl7, rl8⟩) ?r249
 case y249 =>
  intro w_ hS_
  go_simp
  try with_reducible rfl
 simp only [Act.put, ZPa, ZPb, ZPc, ZPd, ZPe, ZPf]
 refine wpAnyH_take (i := 7) (v := .agg x) rfl (by kernel_rfl) (by kernel_rfl) (by kernel_rfl) (fun _ _ _ h => h) (Or.inl ⟨by rfl, ?y250⟩) (⟨rl7, rl8⟩) ?r250
 case y250 =>
  intro w_ hS_
  simp only [List.getElem_toArray, List.getElem_cons_succ, List.getElem_cons_zero]
  exact e_load_part 41 _ (by rfl) (g7) 0 (by rfl) 41 x (0, 0) x _ (hS_.1) (all_rowe _) Tryd.underlying41 rfl ox.infoS
 simp only [Act.put, ZPa, ZPb, ZPc, ZPd, ZPe, ZPf]
 refine wpAnyH_take (i := 8) (v := .agg y) rfl (by kernel_rfl) (by kernel_rfl) (by kernel_rfl) (fun _ _ _ h => h) (Or.inl ⟨by rfl, ?y251⟩) (⟨rl7, rl8⟩) ?r251
 case y251 =>
  intro w_ hS_
  simp only [List.getElem_toArray, List.getElem_cons_succ, List.getElem_cons_zero]
  exact e_load_part 41 _ (by rfl) (g7 + 1) 0 (by rfl) 41 y (0, 0) y _ (hS_.2) (all_rowe _) Tryd.underlying41 rfl oy.infoS
 simp only [Act.put, ZPa, ZPb, ZPc, ZPd, ZPe, ZPf]
 refine wpAnyH_take (i := 9) (v := ?v252) rfl (by kernel_rfl) (by kernel_rfl) (by kernel_rfl) (fun _ _ _ h => h) (Or.inl ⟨by rfl, ?y252⟩) (⟨rl7, rl8⟩) ?r252
 case y252 =>
  intro w_ hS_
  go_simp
  try with_reducible rfl
 simp only [Act.put, ZPa, ZPb, ZPc, ZPd, ZPe, ZPf]
 have hUk : ∀ W', Below wd247.heap.size wd247 W' → BysK W' vu (Wi.zr la ++ [1]) := fun W' h => hU.keep h
 have hQb : Below wd247.heap.size wd247 wd247 := Below.refl _ _
 refine eH_one (k := 0) (fuel := 9) (by kernel_rfl) rfl (by kernel_rfl) (fun K_ hK_ => ?_)
 refine e_world_op (.slice (some ⟨wd247.heap.size, 0, none⟩) 0 0) (wd247.alloc (.cells #[] 5)) (by kernel_rfl) ?_
 have hb : Below wd247.heap.size wd247 (wd247.alloc (.cells #[] 5)) := (Below.refl _ _).alloc (Nat.le_refl _) _
 have hO := own_lit wd247 [] 0 rfl (by decide)
 have hbs := hb.size
 have hbl : wd247.heap.size < (wd247.alloc (.cells #[] 5)).heap.size := by simp
 have hnB := hw.size
 have lt_B253_0 := lt_of_row rl7
 have lt_B253_1 := lt_of_row rl8
 have lt_B253_2 := lt_of_row rl9
 have lt_B253_3 := lt_of_row rl10
 have sz_B253 := hw.size
 change (wd247.alloc (.cells #[] 5)).ownsRow _ _ _ _ _ _ at hO
 replace rl7 := keep hb rl7
 replace rl8 := keep hb rl8
 replace rl9 := keep hb rl9
 replace rl10 := keep hb rl10
 replace f4 := f4.below hb
 replace hA := hA.keep hb
 replace hB := hB.keep hb
 replace hU := hU.keep hb
 replace hQb := Below.after hQb hb
 replace hw := Below.after hw hb
 clear hb
 refine hK_ _ _ (⟨rl7, rl8⟩) ?_
 simp only [Act.put, ZPa, ZPc, ZPd, ZPe, ZPf]
 clear hK_
 generalize (wd247.alloc (.cells #[] 5)) = wq253 at *
 generalize wd247.heap.size = gB253 at *
 refine eH_one (k := 2) (fuel := 8) (by kernel_rfl) rfl (by kernel_rfl) (fun K_ hK_ => ?_)
 refine wp_append_C _ _ rfl gB253 (.slice (some ⟨gB253, 0, none⟩) 0 0) ([]) rfl hO ao la ca (a) rfl hA.1 hna (by simp <;> omega) hbs (fun v254 wq254 hO_ hQ_ hs_ hk_ hT_ => ?_)
 replace hw := hQ_ _ _ hw hnB
 replace hO := hO_
 replace hbs := hs_
 replace hQb := hQ_ _ _ hQb (Nat.le_refl _)
 clear hO_ hQ_ hs_
 clear hbl
 replace rl7 := hT_ _ _ _ _ (by decide) rl7
 replace rl8 := hT_ _ _ _ _ (by decide) rl8
 replace rl9 := hT_ _ _ _ _ (by decide) rl9
 replace rl10 := hT_ _ _ _ _ (by decide) rl10
 replace f4 := hS.below hw
 replace hA := hA0.keep hw
 replace hB := hB0.keep hw
 replace hU := hUk _ hQb
 clear hT_ hk_
 refine hK_ _ _ (⟨rl7, rl8⟩) ?_
 simp only [Act.put, ZPa, ZPb, ZPc, ZPd, ZPe, ZPf]
 clear hK_
 refine eH_one (k := 4) (fuel := 7) (by kernel_rfl) rfl (by kernel_rfl) (fun K_ hK_ => ?_)
 refine wp_append_C _ _ rfl gB253 v254 ([] ++ a) rfl hO bo lb cb (b) rfl hB.1 hnb (by simp <;> omega) hbs (fun v255 wq255 hO_ hQ_ hs_ hk_ hT_ => ?_)
 replace hw := hQ_ _ _ hw hnB
 replace hO := hO_
 replace hbs := hs_
 replace hQb := hQ_ _ _ hQb (Nat.le_refl _)
 clear hO_ hQ_ hs_
 replace rl7 := hT_ _ _ _ _ (by decide) rl7
 replace rl8 := hT_ _ _ _ _ (by decide) rl8
 replace rl9 := hT_ _ _ _ _ (by decide) rl9
 replace rl10 := hT_ _ _ _ _ (by decide) rl10
 replace f4 := hS.below hw
 replace hA := hA0.keep hw
 replace hB := hB0.keep hw
 replace hU := hUk _ hQb
 clear hT_ hk_
 refine hK_ _ _ (⟨rl7, rl8⟩) ?_
 simp only [Act.put, ZPa, ZPb, ZPc, ZPd, ZPe, ZPf]
 clear hK_
 refine eH_one (k := 5) (fuel := 6) (by kernel_rfl) rfl (by kernel_rfl) (fun K_ hK_ => ?_)
 have hbO := (bysK_own hO (by simp <;> omega) hzab).1
 rw [eab.out] at hbO
 clear hO hbs hQb hUk
 refine wp_call_ex (f := 11) (by kernel_rfl) (ex1e (cRab _ _ f4 hbO)) (fun v_ wq256 hX_ => ?_)
 obtain ⟨rfl, hb⟩ := hX_
 replace rl7 := keep hb rl7
 replace rl8 := keep hb rl8
 replace rl9 := keep hb rl9
 replace rl10 := keep hb rl10
 replace f4 := f4.below hb
 replace hA := hA.keep hb
 replace hB := hB.keep hb
 replace hU := hU.keep hb
 replace hw := Below.after hw hb
 clear hb
 refine hK_ _ _ (⟨rl7, rl8⟩) ?_
 simp only [Act.put, ZPa, ZPb, ZPc, ZPd, ZPe, ZPf]
 clear hK_
 refine eH_one (k := 6) (fuel := 5) (by kernel_rfl) rfl (by kernel_rfl) (fun K_ hK_ => ?_)
 refine wp_call_ex (f := 18) (by kernel_rfl) (ex1e (cB1.at _)) (fun v_ wq257 hX_ => ?_)
 obtain ⟨rfl, hb⟩ := hX_
 replace rl7 := keep hb rl7
 replace rl8 := keep hb rl8
 replace rl9 := keep hb rl9
 replace rl10 := keep hb rl10
 replace f4 := f4.below hb
 replace hA := hA.keep hb
 replace hB := hB.keep hb
 replace hU := hU.keep hb
 replace hw := Below.after hw hb
 clear hb
 refine hK_ _ _ (⟨rl7, rl8⟩) ?_
 simp only [Act.put, ZPa, ZPb, ZPc, ZPd, ZPe, ZPf]
 clear hK_
 refine eH_one (k := 10) (fuel := 4) (by kernel_rfl) rfl (by kernel_rfl) (fun K_ hK_ => ?_)
 refine wp_call_ex (f := 11) (by kernel_rfl) (ex1e (cRu _ _ f4 hU.1)) (fun v_ wq258 hX_ => ?_)
 obtain ⟨rfl, hb⟩ := hX_
 replace rl7 := keep hb rl7
 replace rl8 := keep hb rl8
 replace rl9 := keep hb rl9
 replace rl10 := keep hb rl10
 replace f4 := f4.below hb
 replace hA := hA.keep hb
 replace hB := hB.keep hb
 replace hU := hU.keep hb
 replace hw := Below.after hw hb
 clear hb
 refine hK_ _ _ (⟨rl7, rl8⟩) ?_
 simp only [Act.put, ZPa, ZPb, ZPc, ZPd, ZPe, ZPf]
 clear hK_
 refine eH_one (k := 11) (fuel := 3) (by kernel_rfl) rfl (by kernel_rfl) (fun K_ hK_ => ?_)
 refine wp_call_ex (f := 16) (by kernel_rfl) (ex1e (cM1.at f4)) (fun v_ wq259 hX_ => ?_)
 obtain ⟨rfl, hb⟩ := hX_
 replace rl7 := keep hb rl7
 replace rl8 := keep hb rl8
 replace rl9 := keep hb rl9
 replace rl10 := keep hb rl10
 replace f4 := f4.below hb
 replace hA := hA.keep hb
 replace hB := hB.keep hb
 replace hU := hU.keep hb
 replace hw := Below.after hw hb
 clear hb
 refine hK_ _ _ (⟨rl7, rl8⟩) ?_
 simp only [Act.put, ZPa, ZPb, ZPc, ZPd, ZPe, ZPf]
 clear hK_
 refine eH_one (k := 12) (fuel := 2) (by kernel_rfl) rfl (by kernel_rfl) (fun K_ hK_ => ?_)
 refine wp_call_ex (f := 14) (by kernel_rfl) (ex1e (cA1.at f4)) (fun v_ wq260 hX_ => ?_)
 obtain ⟨rfl, hb⟩ := hX_
 replace rl7 := keep hb rl7
 replace rl8 := keep hb rl8
 replace rl9 := keep hb rl9
 replace rl10 := keep hb rl10
 replace f4 := f4.below hb
 replace hA := hA.keep hb
 replace hB := hB.keep hb
 replace hU := hU.keep hb
 replace hw := Below.after hw hb
 clear hb
 refine hK_ _ _ (⟨rl7, rl8⟩) ?_
 simp only [Act.put, ZPa, ZPb, ZPc, ZPd, ZPe, ZPf]
 clear hK_
 refine eH_one (k := 13) (fuel := 1) (by kernel_rfl) rfl (by kernel_rfl) (fun K_ hK_ => ?_)
 refine wp_call_ex (f := 18) (by kernel_rfl) (ex1e (cB2.at _)) (fun v_ wq261 hX_ => ?_)
 obtain ⟨rfl, hb⟩ := hX_
 replace rl7 := keep hb rl7
 replace rl8 := keep hb rl8
 replace rl9 := keep hb rl9
 replace rl10 := keep hb rl10
 replace f4 := f4.below hb
 replace hA := hA.keep hb
 replace hB := hB.keep hb
 replace hU := hU.keep hb
 replace hw := Below.after hw hb
 clear hb
 refine hK_ _ _ (⟨rl7, rl8⟩) ?_
 simp only [Act.put, ZPa, ZPb, ZPc, ZPd, ZPe, ZPf]
 clear hK_
 refine wpAnyH_take (i := 14) (v := ?v262) rfl (by kernel_rfl) (by kernel_rfl) (by kernel_rfl) (fun _ _ _ h => h) (Or.inl ⟨by rfl, ?y262⟩) (⟨rl7, rl8⟩) ?r262
 case y262 =>
  intro w_ hS_
  go_simp
  try with_reducible rfl
 simp only [Act.put, ZPa, ZPb, ZPc, ZPd, ZPe, ZPf]
 refine wpAnyH_done (by kernel_rfl) ?_ _
 refine NoPanic.normal ?_
 clear hU
 go_wp2_with (first | (refine wpList_load_want rfl 41 _ rfl (g7) rfl 41 x (0, 0) _ rl7 Tryd.underlying41 rfl ox.infoS ?_) | (refine wpList_load_want rfl 41 _ rfl (g7 + 1) rfl 41 y (0, 0) _ rl8 Tryd.underlying41 rfl oy.infoS ?_) | (refine wpList_load_want rfl 41 _ rfl (g7 + 1 + 1) rfl 41 z (0, 0) _ rl9 Tryd.underlying41 rfl oz.infoS ?_) | (refine wpList_load_want rfl 41 _ rfl (g10) rfl 41 o (0, 0) _ rl10 Tryd.underlying41 rfl oo.infoS ?_) | fail)
 refine (c28.at _).mono ?_
 rintro e_ w20 ⟨rfl, hb⟩
 replace rl7 := keep hb rl7
 replace rl8 := keep hb rl8
 replace rl9 := keep hb rl9
 replace rl10 := keep hb rl10
 replace f4 := f4.below hb
 replace hA := hA.keep hb
 replace hB := hB.keep hb
 replace hw := Below.after hw hb
 clear hb
 go_wp2_with (first | (refine wpList_load_want rfl 41 _ rfl (g7) rfl 41 x (0, 0) _ rl7 Tryd.underlying41 rfl ox.infoS ?_) | (refine wpList_load_want rfl 41 _ rfl (g7 + 1) rfl 41 y (0, 0) _ rl8 Tryd.underlying41 rfl oy.infoS ?_) | (refine wpList_load_want rfl 41 _ rfl (g7 + 1 + 1) rfl 41 z (0, 0) _ rl9 Tryd.underlying41 rfl oz.infoS ?_) | (refine wpList_load_want rfl 41 _ rfl (g10) rfl 41 o (0, 0) _ rl10 Tryd.underlying41 rfl oo.infoS ?_) | fail)
 refine (cWh.at f4).mono ?_
 rintro e_ w21 ⟨rfl, hb⟩
 replace rl7 := keep hb rl7
 replace rl8 := keep hb rl8
 replace rl9 := keep hb rl9
 replace rl10 := keep hb rl10
 replace f4 := f4.below hb
 replace hA := hA.keep hb
 replace hB := hB.keep hb
 replace hw := Below.after hw hb
 clear hb
 go_wp2_with (first | (refine wpList_store_row rfl 41 _ _ rfl (w21.heap.size) x rfl rfl 41 (wd 0) (hp1_0 w21 _) ox.infoS ((wd_size _).trans ox.1.symm) ox.2 ?_; rw [setRow_alloc_new _ _ _ _ _ _ (by simp)]; refine wpList_stay ?_) | fail)
 unfold WpStay
 try simp only [Act.put]
 have rl12 : (w21.alloc (.cells x 41)).heap[w21.heap.size]? = some (.cells x 41 (0, 0)) := hp1_0 w21 _
 have hb : Below w21.heap.size w21 (w21.alloc (.cells x 41)) := ((Below.refl _ _).alloc (Nat.le_refl _) _)
 generalize (w21.alloc (.cells x 41)) = w22 at *
 have lt_g12_0 := lt_of_row rl7
 have lt_g12_1 := lt_of_row rl8
 have lt_g12_2 := lt_of_row rl9
 have lt_g12_3 := lt_of_row rl10
 have sz_g12 := hw.size
 replace rl7 := keep hb rl7
 replace rl8 := keep hb rl8
 replace rl9 := keep hb rl9
 replace rl10 := keep hb rl10
 replace f4 := f4.below hb
 replace hA := hA.keep hb
 replace hB := hB.keep hb
 replace hw := Below.after hw hb
 clear hb
 generalize w21.heap.size = g12 at *
 clear w21
 go_wp2_with (fail)
 have hb : Below w22.heap.size w22 w22.drew := below_drN (Below.refl _ _) 1
 replace rl7 := keep hb rl7
 replace rl8 := keep hb rl8
 replace rl9 := keep hb rl9
 replace rl10 := keep hb rl10
 replace rl12 := keep hb rl12
 replace f4 := f4.below hb
 replace hA := hA.keep hb
 replace hB := hB.keep hb
 replace hw := Below.after hw hb
 clear hb
 refine wp_region_noPanic ?_
 refine wp_region_held (S := fun W_ => W_.heap[g12]? = some (.cells x 41 (0, 0)) ∧ W_.heap[g7]? = some (.cells x 41 (0, 0)) ∧ W_.heap[g7 + 1]? = some (.cells y 41 (0, 0))) (by kernel_rfl) ?_
 change wpAnyH _ _ _ _ _ _ _ _ (World.drew _)
 generalize w22.drew = wd263 at *
 refine wpAnyH_take (i := 0) (v := ?v264) rfl (by kernel_rfl) (by kernel_rfl) (by kernel_rfl) (fun _ _ _ h => h) (Or.inl ⟨by rfl, ?y264⟩) (⟨rl12, rl7, rl8⟩) ?r264
 case y264 =>
  intro w_ hS_
  go_simp
  try with_reducible rfl
 simp only [Act.put, ZPa, ZPc, ZPd, ZPe, ZPf]
 refine wpAnyH_take (i := 1) (v := ?v265) rfl (by kernel_rfl) (by kernel_rfl) (by kernel_rfl) (fun _ _ _ h => h) (Or.inl ⟨by rfl, ?y265⟩) (⟨rl12, rl7, rl8⟩) ?r265
 case y265 =>
  intro w_ hS_
  go_simp
  try with_reducible rfl
 simp only [Act.put, ZPa, ZPb, ZPc, ZPd, ZPe, ZPf]
 refine wpAnyH_take (i := 2) (v := ?v266) rfl (by kernel_rfl) (by kernel_rfl) (by kernel_rfl) (fun _ _ _ h => h) (Or.inl ⟨by rfl, ?y266⟩) (⟨rl12, rl7, rl8⟩) ?r266
 case y266 =>
  intro w_ hS_
  go_simp
  try with_reducible rfl
 simp only [Act.put, ZPa, ZPb, ZPc, ZPd, ZPe, ZPf]
 refine wpAnyH_take (i := 3) (v := .agg x) rfl (by kernel_rfl) (by kernel_rfl) (by kernel_rfl) (fun _ _ _ h => h) (Or.inl ⟨by rfl, ?y267⟩) (⟨rl12, rl7, rl8⟩) ?r267
 case y267 =>
  intro w_ hS_
  simp only [List.getElem_toArray, List.getElem_cons_succ, List.getElem_cons_zero]
  exact e_load_part 41 _ (by rfl) (g12) 0 (by rfl) 41 x (0, 0) x _ (hS_.1) (all_rowe _) Tryd.underlying41 rfl ox.infoS
 simp only [Act.put, ZPa, ZPb, ZPc, ZPd, ZPe, ZPf]
 refine wpAnyH_take (i := 5) (v := .agg x) rfl (by kernel_rfl) (by kernel_rfl) (by kernel_rfl) (fun _ _ _ h => h) (Or.inl ⟨by rfl, ?y268⟩) (⟨rl12, rl7, rl8⟩) ?r268
 case y268 =>
  intro w_ hS_
  simp only [List.getElem_toArray, List.getElem_cons_succ, List.getElem_cons_zero]
  exact e_load_part 41 _ (by rfl) (g7) 0 (by rfl) 41 x (0, 0) x _ (hS_.2.1) (all_rowe _) Tryd.underlying41 rfl ox.infoS
 simp only [Act.put, ZPa, ZPb, ZPc, ZPd, ZPe, ZPf]
 refine eH_one (k := 4) (fuel := 16) (by kernel_rfl) rfl (by kernel_rfl) (fun K_ hK_ => ?_)
 refine wp_call_ex (f := 18) (by kernel_rfl) (ex1e (c28.at _)) (fun v_ wq269 hX_ => ?_)
 obtain ⟨rfl, hb⟩ := hX_
 replace rl7 := keep hb rl7
 replace rl8 := keep hb rl8
 replace rl9 := keep hb rl9
 replace rl10 := keep hb rl10
 replace rl12 := keep hb rl12
 replace f4 := f4.below hb
 replace hA := hA.keep hb
 replace hB := hB.keep hb
 replace hw := Below.after hw hb
 clear hb
 refine hK_ _ _ (⟨rl12, rl7, rl8⟩) ?_
 simp only [Act.put, ZPa, ZPb, ZPc, ZPd, ZPe, ZPf]
 clear hK_
 refine eH_one (k := 6) (fuel := 15) (by kernel_rfl) rfl (by kernel_rfl) (fun K_ hK_ => ?_)
 refine wp_call_ex (f := 18) (by kernel_rfl) (ex1e (c28.at _)) (fun v_ wq270 hX_ => ?_)
 obtain ⟨rfl, hb⟩ := hX_
 replace rl7 := keep hb rl7
 replace rl8 := keep hb rl8
 replace rl9 := keep hb rl9
 replace rl10 := keep hb rl10
 replace rl12 := keep hb rl12
 replace f4 := f4.below hb
 replace hA := hA.keep hb
 replace hB := hB.keep hb
 replace hw := Below.after hw hb
 clear hb
 refine hK_ _ _ (⟨rl12, rl7, rl8⟩) ?_
 simp only [Act.put, ZPa, ZPb, ZPc, ZPd, ZPe, ZPf]
 clear hK_
 refine wpAnyH_take (i := 7) (v := ?v271) rfl (by kernel_rfl) (by kernel_rfl) (by kernel_rfl) (fun _ _ _ h => h) (Or.inl ⟨by rfl, ?y271⟩) (⟨rl12, rl7, rl8⟩) ?r271
 case y271 =>
  intro w_ hS_
  go_simp
  try with_reducible rfl
 simp only [Act.put, ZPa, ZPb, ZPc, ZPd, ZPe, ZPf]
 refine wpAnyH_take (i := 8) (v := ?v272) rfl (by kernel_rfl) (by kernel_rfl) (by kernel_rfl) (fun _ _ _ h => h) (Or.inl ⟨by rfl, ?y272⟩) (⟨rl12, rl7, rl8⟩) ?r272
 case y272 =>
  intro w_ hS_
  go_simp
  try with_reducible rfl
 simp only [Act.put, ZPa, ZPb, ZPc, ZPd, ZPe, ZPf]
 refine wpAnyH_take (i := 9) (v := ?v273) rfl (by kernel_rfl) (by kernel_rfl) (by kernel_rfl) (fun _ _ _ h => h) (Or.inl ⟨by rfl, ?y273⟩) (⟨rl12, rl7, rl8⟩) ?r273
 case y273 =>
  intro w_ hS_
  go_simp
  try with_reducible rfl
 simp only [Act.put, ZPa, ZPb, ZPc, ZPd, ZPe, ZPf]
 refine wpAnyH_take (i := 10) (v := .agg x) rfl (by kernel_rfl) (by kernel_rfl) (by kernel_rfl) (fun _ _ _ h => h) (Or.inl ⟨by rfl, ?y274⟩) (⟨rl12, rl7, rl8⟩) ?r274
 case y274 =>
  intro w_ hS_
  simp only [List.getElem_toArray, List.getElem_cons_succ, List.getElem_cons_zero]
  exact e_load_part 41 _ (by rfl) (g7) 0 (by rfl) 41 x (0, 0) x _ (hS_.2.1) (all_rowe _) Tryd.underlying41 rfl ox.infoS
 simp only [Act.put, ZPa, ZPb, ZPc, ZPd, ZPe, ZPf]
 refine wpAnyH_take (i := 11) (v := .agg y) rfl (by kernel_rfl) (by kernel_rfl) (by kernel_rfl) (fun _ _ _ h => h) (Or.inl ⟨by rfl, ?y275⟩) (⟨rl12, rl7, rl8⟩) ?r275
 case y275 =>
  intro w_ hS_
  simp only [List.getElem_toArray, List.getElem_cons_succ, List.getElem_cons_zero]
  exact e_load_part 41 _ (by rfl) (g7 + 1) 0 (by rfl) 41 y (0, 0) y _ (hS_.2.2) (all_rowe _) Tryd.underlying41 rfl oy.infoS
 simp only [Act.put, ZPa, ZPb, ZPc, ZPd, ZPe, ZPf]
 refine wpAnyH_take (i := 14) (v := .agg x) rfl (by kernel_rfl) (by kernel_rfl) (by kernel_rfl) (fun _ _ _ h => h) (Or.inl ⟨by rfl, ?y276⟩) (⟨rl12, rl7, rl8⟩) ?r276
 case y276 =>
  intro w_ hS_
  simp only [List.getElem_toArray, List.getElem_cons_succ, List.getElem_cons_zero]
  exact e_load_part 41 _ (by rfl) (g7) 0 (by rfl) 41 x (0, 0) x _ (hS_.2.1) (all_rowe _) Tryd.underlying41 rfl ox.infoS
 simp only [Act.put, ZPa, ZPb, ZPc, ZPd, ZPe, ZPf]
 refine wpAnyH_take (i := 15) (v := .agg y) rfl (by kernel_rfl) (by kernel_rfl) (by kernel_rfl) (fun _ _ _ h => h) (Or.inl ⟨by rfl, ?y277⟩) (⟨rl12, rl7, rl8⟩) ?r277
 case y277 =>
  intro w_ hS_
  simp only [List.getElem_toArray, List.getElem_cons_succ, List.getElem_cons_zero]
  exact e_load_part 41 _ (by rfl) (g7 + 1) 0 (by rfl) 41 y (0, 0) y _ (hS_.2.2) (all_rowe _) Tryd.underlying41 rfl oy.infoS
 simp only [Act.put, ZPa, ZPb, ZPc, ZPd, ZPe, ZPf]
 refine eH_one (k := 12) (fuel := 7) (by kernel_rfl) rfl (by kernel_rfl) (fun K_ hK_ => ?_)
 refine wp_call_ex (f := 20) (by kernel_rfl) (ex1e (c29.at f4)) (fun v_ wq278 hX_ => ?_)
 obtain ⟨rfl, hb⟩ := hX_
 replace rl7 := keep hb rl7
 replace rl8 := keep hb rl8
 replace rl9 := keep hb rl9
 replace rl10 := keep hb rl10
 replace rl12 := keep hb rl12
 replace f4 := f4.below hb
 replace hA := hA.keep hb
 replace hB := hB.keep hb
 replace hw := Below.after hw hb
 clear hb
 refine hK_ _ _ (⟨rl12, rl7, rl8⟩) ?_
 simp only [Act.put, ZPa, ZPb, ZPc, ZPd, ZPe, ZPf]
 clear hK_
 refine eH_one (k := 13) (fuel := 6) (by kernel_rfl) rfl (by kernel_rfl) (fun K_ hK_ => ?_)
 refine wp_call_ex (f := 18) (by kernel_rfl) (ex1e (c30.at _)) (fun v_ wq279 hX_ => ?_)
 obtain ⟨rfl, hb⟩ := hX_
 replace rl7 := keep hb rl7
 replace rl8 := keep hb rl8
 replace rl9 := keep hb rl9
 replace rl10 := keep hb rl10
 replace rl12 := keep hb rl12
 replace f4 := f4.below hb
 replace hA := hA.keep hb
 replace hB := hB.keep hb
 replace hw := Below.after hw hb
 clear hb
 refine hK_ _ _ (⟨rl12, rl7, rl8⟩) ?_
 simp only [Act.put, ZPa, ZPb, ZPc, ZPd, ZPe, ZPf]
 clear hK_
 refine eH_one (k := 16) (fuel := 5) (by kernel_rfl) rfl (by kernel_rfl) (fun K_ hK_ => ?_)
 refine wp_call_ex (f := 22) (by kernel_rfl) (ex1e (c31.at f4)) (fun v_ wq280 hX_ => ?_)
 obtain ⟨rfl, hb⟩ := hX_
 replace rl7 := keep hb rl7
 replace rl8 := keep hb rl8
 replace rl9 := keep hb rl9
 replace rl10 := keep hb rl10
 replace rl12 := keep hb rl12
 replace f4 := f4.below hb
 replace hA := hA.keep hb
 replace hB := hB.keep hb
 replace hw := Below.after hw hb
 clear hb
 refine hK_ _ _ (⟨rl12, rl7, rl8⟩) ?_
 simp only [Act.put, ZPa, ZPb, ZPc, ZPd, ZPe, ZPf]
 clear hK_
 refine eH_one (k := 17) (fuel := 4) (by kernel_rfl) rfl (by kernel_rfl) (fun K_ hK_ => ?_)
 refine wp_call_ex (f := 14) (by kernel_rfl) (ex1e (c32.at f4)) (fun v_ wq281 hX_ => ?_)
 obtain ⟨rfl, hb⟩ := hX_
 replace rl7 := keep hb rl7
 replace rl8 := keep hb rl8
 replace rl9 := keep hb rl9
 replace rl10 := keep hb rl10
 replace rl12 := keep hb rl12
 replace f4 := f4.below hb
 replace hA := hA.keep hb
 replace hB := hB.keep hb
 replace hw := Below.after hw hb
 clear hb
 refine hK_ _ _ (⟨rl12, rl7, rl8⟩) ?_
 simp only [Act.put, ZPa, ZPb, ZPc, ZPd, ZPe, ZPf]
 clear hK_
 refine eH_one (k := 18) (fuel := 3) (by kernel_rfl) rfl (by kernel_rfl) (fun K_ hK_ => ?_)
 refine wp_call_ex (f := 18) (by kernel_rfl) (ex1e (c33.at _)) (fun v_ wq282 hX_ => ?_)
 obtain ⟨rfl, hb⟩ := hX_
 replace rl7 := keep hb rl7
 replace rl8 := keep hb rl8
 replace rl9 := keep hb rl9
 replace rl10 := keep hb rl10
 replace rl12 := keep hb rl12
 replace f4 := f4.below hb
 replace hA := hA.keep hb
 replace hB := hB.keep hb
 replace hw := Below.after hw hb
 clear hb
 refine hK_ _ _ (⟨rl12, rl7, rl8⟩) ?_
 simp only [Act.put, ZPa, ZPb, ZPc, ZPd, ZPe, ZPf]
 clear hK_
 refine wpAnyH_take (i := 19) (v := ?v283) rfl (by kernel_rfl) (by kernel_rfl) (by kernel_rfl) (fun _ _ _ h => h) (Or.inl ⟨by rfl, ?y283⟩) (⟨rl12, rl7, rl8⟩) ?r283
 case y283 =>
  intro w_ hS_
  go_simp
  try with_reducible rfl
 simp only [Act.put, ZPa, ZPb, ZPc, ZPd, ZPe, ZPf]
 refine wpAnyH_take (i := 20) (v := ?v284) rfl (by kernel_rfl) (by kernel_rfl) (by kernel_rfl) (fun _ _ _ h => h) (Or.inl ⟨by rfl, ?y284⟩) (⟨rl12, rl7, rl8⟩) ?r284
 case y284 =>
  intro w_ hS_
  go_simp
  try with_reducible rfl
 simp only [Act.put, ZPa, ZPb, ZPc, ZPd, ZPe, ZPf]
 refine wpAnyH_take (i := 21) (v := ?v285) rfl (by kernel_rfl) (by kernel_rfl) (by kernel_rfl) (fun _ _ _ h => h) (Or.inl ⟨by rfl, ?y285⟩) (⟨rl12, rl7, rl8⟩) ?r285
 case y285 =>
  intro w_ hS_
  go_simp
  try with_reducible rfl
 simp only [Act.put, ZPa, ZPb, ZPc, ZPd, ZPe, ZPf]
 refine wpAnyH_done (by kernel_rfl) ?_ _
 refine NoPanic.normal ?_
 go_wp2_with (fail)
 go_ret
 exact ⟨rfl, hw⟩
theorem mul_r20 (A B : Int) : (A * (B % L19)) % L19 = A * B % L19 := by rw [Int.mul_emod, Int.emod_emod, ← Int.mul_emod]
theorem mul_l20 (A B : Int) : ((A % L19) * B) % L19 = A * B % L19 := by rw [Int.mul_emod, Int.emod_emod, ← Int.mul_emod]
theorem keq {e f : Int} (h : e = f) (hb : 0 ≤ e ∧ e < L19) : ∀ W, (Op.equalIn 10000 23 (.agg (kb e)) (.agg (kb f))).run Tryd.prog W = .ok true W := fun W => by
 subst h
 have hL := L_lt
 rw [kb_equal _ _ hb.1 (by omega) hb.1 (by omega)]
 simp
theorem bval_app : ∀ a b : List Int, bval (a ++ b) = bval a + 256 ^ a.length * bval b
 | [], b => by simp [bval]
 | z :: a, b => by
  simp only [List.cons_append, bval, List.length_cons]
  rw [bval_app a b, Nat.pow_succ, Nat.mul_add, Nat.mul_comm (256 ^ a.length) 256, Nat.mul_assoc, Nat.add_assoc]
theorem bval_zr : ∀ n : Nat, bval (Wi.zr n) = 0
 | 0 => rfl
 | n + 1 => by
  have h : Wi.zr (n + 1) = 0 :: Wi.zr n := rfl
  rw [h]
  simp only [bval, bval_zr n]
  rfl
theorem numbers_any {a b c : List Int} (w : World) {u v t : Value} (hS : Ord w) (hA : BysK w u a) (hB : BysK w v b) (hC : BysK w t c) (hna : ∀ a l c, u = .slice a l c → a = none → c = 0) (hnb : ∀ a l c, v = .slice a l c → a = none → c = 0) (hla : a.length ≤ 140737488351232) (hlab : a.length + b.length ≤ 140737488355000) : Calls Tryd.prog 4 #[u, v, t] w fun e w' => e = .returned (.bool true) ∧ Below w.heap.size w w' := by
 obtain ⟨ao, ca, rfl, _⟩ := hA.slc
 obtain ⟨bo, cb, rfl, _⟩ := hB.slc
 obtain ⟨co, cc, rfl, _⟩ := hC.slc
 have hza : ∀ z ∈ a, 0 ≤ z ∧ z < 256 := by obtain ⟨⟨_, _, _, _, _, h⟩, _⟩ := hA; exact h
 have hzb : ∀ z ∈ b, 0 ≤ z ∧ z < 256 := by obtain ⟨⟨_, _, _, _, _, h⟩, _⟩ := hB; exact h
 have hzab : ∀ z ∈ [] ++ a ++ b, 0 ≤ z ∧ z < 256 := fun z h => (List.mem_append.1 h).elim (fun h => hza z (by simpa using h)) (hzb z)
 have hx := mod_L (bval a : Int)
 have hy := mod_L (bval b : Int)
 have hz := mod_L (bval c : Int)
 have h1 : (0 : Int) ≤ 1 ∧ 1 < L19 := by unfold L19; decide
 have hL := L_lt
 have eW : ∀ X : Int, 0 ≤ X ∧ X < L19 → (if L19 ≤ X then 0 else X) = X ∧ (if L19 ≤ X then (191 : Int) else 0) = 0 := fun X h => ⟨if_neg (by omega), if_neg (by omega)⟩
 have hab := fun W (v : Value) (h : Ord W) (hb : Bys W v (a ++ b)) => a_Reduce (a ++ b) W v h hb
 have cRa := fun W (h : Ord W) (hb : Bys W (.slice ao a.length ca) a) => a_Reduce a W _ h hb
 have cRb := fun W (h : Ord W) (hb : Bys W (.slice bo b.length cb) b) => a_Reduce b W _ h hb
 have cRc := fun W (h : Ord W) (hb : Bys W (.slice co c.length cc) c) => a_Reduce c W _ h hb
 have hU := fun W (v : Value) (h : Ord W) (hb : Bys W v (Wi.zr a.length ++ [1])) => a_Reduce (Wi.zr a.length ++ [1]) W v h hb
 have eU : (bval (Wi.zr a.length ++ [1]) : Int) = 256 ^ a.length := by
  rw [bval_app, bval_zr]
  simp [bval, Wi.zr]
 have eAB : (bval (a ++ b) : Int) = (bval a : Int) + 256 ^ a.length * (bval b : Int) := by
  rw [bval_app]
  simp
 rw [eU] at hU
 rw [eAB] at hab
 generalize (bval a : Int) = X0 at *
 generalize (bval b : Int) = Y0 at *
 generalize (bval c : Int) = Z0 at *
 generalize (256 : Int) ^ a.length = T at *
 have eX : X0 % L19 % L19 = X0 % L19 := Int.emod_emod_of_dvd _ (Int.dvd_refl _)
 have eF : (X0 + T * Y0) % L19 = (X0 % L19 + Y0 % L19 * (T % L19) % L19) % L19 := by
  rw [← Int.mul_emod, ← Int.add_emod, Int.mul_comm]
 generalize hX : X0 % L19 = X at *
 generalize hY : Y0 % L19 = Y at *
 generalize hZ : Z0 % L19 = Z at *
 have cWh := a_Whole (N := X) (kb_key _ hx.1 (by omega))
 rw [(eW X hx).1, (eW X hx).2] at cWh
 exact num_walk (wdo X) (wdo Y) (wdo Z) (wdo 1) w hS hA hB hC cRa cRb cRc (fun W v h hb => by
  have h' := a_Reduce [1] W v h hb
  rw [show ((bval [1] : Nat) : Int) % L19 = 1 from by unfold L19; decide] at h'
  exact h') (a_sBytes 1) (keq rfl h1) i1 (fun W v h hb => by
  have h' := a_Reduce (b32 L19) W v h hb
  rw [show ((bval (b32 L19) : Nat) : Int) % L19 = 0 from by rw [L_bval, ← L_ell, Int.emod_self]] at h'
  exact h') i0
  (a_sadd hx hy)
  (a_sBytes _)
  (a_sadd hy hx)
  (a_sBytes _)
  (a_smul hx hy)
  (a_sBytes _)
  (a_smul hy hx)
  (a_sBytes _)
  (a_sadd hy hz)
  (a_smul hx (mod_L _))
  (a_sBytes _)
  (a_smul hx hz)
  (a_sadd (mod_L _) (mod_L _))
  (a_sBytes _)
  (a_smul (mod_L _) hz)
  (a_sBytes _)
  (a_smul hy hz)
  (a_smul hx (mod_L _))
  (a_sBytes _)
  (a_sadd (mod_L _) hz)
  (a_sBytes _)
  (a_sadd hx (mod_L _))
  (a_sBytes _)
  (a_ssub hx hx)
  (by rw [show (X - X) % L19 = 0 from by rw [Int.sub_self]; rfl]; exact i0)
  (a_smul hx h1)
  (a_sBytes _)
  (a_sBytes _)
  (a_ssub hx hy)
  (a_sBytes _)
  (a_sneg hy)
  (a_sadd hx (mod_L _))
  (a_sBytes _)
  (keq (show ((X + Y) % L19) = ((Y + X) % L19) from by first | rfl | (unfold L19 at *; omega) | (rw [Int.mul_comm]; done) | (rw [mul_r20, Int.mul_add, Int.add_emod]; done) | (rw [mul_l20, mul_r20, Int.mul_assoc]; done) | (rw [Int.mul_one]; exact Int.emod_eq_of_lt hx.1 hx.2)) (mod_L _))
  (keq (show ((X * Y) % L19) = ((Y * X) % L19) from by first | rfl | (unfold L19 at *; omega) | (rw [Int.mul_comm]; done) | (rw [mul_r20, Int.mul_add, Int.add_emod]; done) | (rw [mul_l20, mul_r20, Int.mul_assoc]; done) | (rw [Int.mul_one]; exact Int.emod_eq_of_lt hx.1 hx.2)) (mod_L _))
  (keq (show ((X * ((Y + Z) % L19)) % L19) = ((((X * Y) % L19) + ((X * Z) % L19)) % L19) from by first | rfl | (unfold L19 at *; omega) | (rw [Int.mul_comm]; done) | (rw [mul_r20, Int.mul_add, Int.add_emod]; done) | (rw [mul_l20, mul_r20, Int.mul_assoc]; done) | (rw [Int.mul_one]; exact Int.emod_eq_of_lt hx.1 hx.2)) (mod_L _))
  (keq (show ((((X * Y) % L19) * Z) % L19) = ((X * ((Y * Z) % L19)) % L19) from by first | rfl | (unfold L19 at *; omega) | (rw [Int.mul_comm]; done) | (rw [mul_r20, Int.mul_add, Int.add_emod]; done) | (rw [mul_l20, mul_r20, Int.mul_assoc]; done) | (rw [Int.mul_one]; exact Int.emod_eq_of_lt hx.1 hx.2)) (mod_L _))
  (keq (show ((((X + Y) % L19) + Z) % L19) = ((X + ((Y + Z) % L19)) % L19) from by first | rfl | (unfold L19 at *; omega) | (rw [Int.mul_comm]; done) | (rw [mul_r20, Int.mul_add, Int.add_emod]; done) | (rw [mul_l20, mul_r20, Int.mul_assoc]; done) | (rw [Int.mul_one]; exact Int.emod_eq_of_lt hx.1 hx.2)) (mod_L _))
  (keq (show ((X * 1) % L19) = X from by first | rfl | (unfold L19 at *; omega) | (rw [Int.mul_comm]; done) | (rw [mul_r20, Int.mul_add, Int.add_emod]; done) | (rw [mul_l20, mul_r20, Int.mul_assoc]; done) | (rw [Int.mul_one]; exact Int.emod_eq_of_lt hx.1 hx.2)) (mod_L _))
  (keq (show X = X from by first | rfl | (unfold L19 at *; omega) | (rw [Int.mul_comm]; done) | (rw [mul_r20, Int.mul_add, Int.add_emod]; done) | (rw [mul_l20, mul_r20, Int.mul_assoc]; done) | (rw [Int.mul_one]; exact Int.emod_eq_of_lt hx.1 hx.2)) hx)
  (keq (show ((X - Y) % L19) = ((X + (-Y % L19)) % L19) from by first | rfl | (unfold L19 at *; omega) | (rw [Int.mul_comm]; done) | (rw [mul_r20, Int.mul_add, Int.add_emod]; done) | (rw [mul_l20, mul_r20, Int.mul_assoc]; done) | (rw [Int.mul_one]; exact Int.emod_eq_of_lt hx.1 hx.2)) (mod_L _))
  (hide (List.nil_append a ▸ rfl : [] ++ a ++ b = a ++ b)) hab (a_sBytes _) hU (a_smul hy (mod_L _)) (a_sadd hx (mod_L _)) (a_sBytes _) (keq eF (mod_L _)) cWh (fun e => hna _ _ _ rfl e) (fun e => hnb _ _ _ rfl e) hla hlab hzab
end Go.Proofs.YtjeighghommldaaDoor

