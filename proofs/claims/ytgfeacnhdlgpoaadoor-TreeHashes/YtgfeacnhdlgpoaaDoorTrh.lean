import Derived.Test.YtgfeacnhdlgpoaaDoorProg
import Derived.WalkKit
import Derived.WalkSpells
import Derived.WalkLawsBesides
import Derived.Lib.QuietBelow
import Derived.BigQuiet
import Derived.OrdersHeld
import Derived.OwnWalk
import Derived.Deep.RegionHeld3
import Derived.Deep.Cut
import Derived.Deep.CutRange
import Derived.Test.YtgfeacnhdlgpoaaDoorTrg
namespace Go.Proofs.YtgfeacnhdlgpoaaDoor
set_option maxRecDepth 100000
open Go Go.RowKit Go.Sort
attribute [local go_sem] setCell_drewN alloc_drewN
set_option maxRecDepth 100000 in
set_option maxHeartbeats 8000000 in
theorem hashes_any (b x y : List Int) (hx : x.length = 32) (hy : y.length = 32) (zx : ∀ z ∈ x, 0 ≤ z ∧ z < 256) (zy : ∀ z ∈ y, 0 ≤ z ∧ z < 256) (w : World) (v : Value) (hS : Sta w) (hK : Kon w) (hB : Bys w v b) (hn : ∀ a l c, v = .slice a l c → a = none → c = 0) (hl : b.length ≤ 140737488351232) : Calls Tryd.prog 3 #[v, .agg (irow .u8 x), .agg (irow .u8 y)] w fun e w' => e = .returned (.bool true) ∧ Below w.heap.size w w' := by
  obtain ⟨bo, bc, rfl, _, _, hz⟩ := id hB
  have rp0 := hp2_0 w (.cells (irow .u8 x) 24) (.cells (irow .u8 y) 24)
  have rp1 := hp2_1 w (.cells (irow .u8 x) 24) (.cells (irow .u8 y) 24)
  have hw : Below w.heap.size w ((w.alloc (.cells (irow .u8 x) 24)).alloc (.cells (irow .u8 y) 24)) := (((Below.refl _ _).alloc (Nat.le_refl _) _).alloc (by simp) _)
  go_enter Tryd.func3, Tryd.ntmps3
  iterate 9 go_step
  generalize ((w.alloc (.cells (irow .u8 x) 24)).alloc (.cells (irow .u8 y) 24)) = w0 at *
  go_wp2_with (fail)
  refine (l_lent21 b _ _ (hB.keep hw) (by omega) hn).mono ?_
  rintro e_ w1 ⟨_, rfl, g, rfl, hgs, rg, hb⟩
  have hs0 := hw.size
  replace rp0 := keep hb rp0
  replace rp1 := keep hb rp1
  replace hw := Below.after hw hb
  clear hb
  have e1 := eqKs (lfL b) (sumL_len _)
  have e2 := eqKs _ (Ky.nd x y).1
  go_wp2_with (fail)
  have hb : Below w1.heap.size w1 w1.drew := below_drN (Below.refl _ _) 1
  replace rp0 := keep hb rp0
  replace rp1 := keep hb rp1
  replace rg := keep hb rg
  replace hw := Below.after hw hb
  clear hb
  refine wp_region_noPanic ?_
  refine wp_region_held (S := fun W_ => W_.heap[w.heap.size]? = some (.cells (irow .u8 x) 24 (0, 0)) ∧ W_.heap[w.heap.size + 1]? = some (.cells (irow .u8 y) 24 (0, 0))) (by kernel_rfl) ?_
  change wpAnyH _ _ _ _ _ _ _ _ (World.drew _)
  generalize w1.drew = wd9 at *
  refine wpAnyH_take (i := 0) (v := ?v10) rfl (by kernel_rfl) (by kernel_rfl) (by kernel_rfl) (fun _ _ _ h => h) (Or.inl ⟨by rfl, ?y10⟩) (⟨rp0, rp1⟩) ?r10
  case y10 =>
    intro w_ hS_
    go_simp
    try with_reducible rfl
  simp only [Act.put, List.getElem_toArray, List.getElem_cons_zero, List.setIfInBounds_toArray, List.set_cons_succ, List.set_cons_zero]
  refine wpAnyH_take (i := 2) (v := ?v11) rfl (by kernel_rfl) (by kernel_rfl) (by kernel_rfl) (fun _ _ _ h => h) (Or.inl ⟨by rfl, ?y11⟩) (⟨rp0, rp1⟩) ?r11
  case y11 =>
    intro w_ hS_
    go_simp
    try with_reducible rfl
  simp only [Act.put, List.getElem_toArray, List.getElem_cons_succ, List.getElem_cons_zero, List.setIfInBounds_toArray, List.set_cons_succ, List.set_cons_zero]
  refine eH_one (k := 1) (fuel := 17) (by kernel_rfl) rfl (by kernel_rfl) (fun K_ hK_ => ?_)
  refine wp_call_ex (f := 12) (by kernel_rfl) (ex1e (a_Leaf b _ _ (hS.below hw) (hK.below hw) (Bys.of_prefix rg (by omega) hz (b.length + 80)) (by intro a l c e e0; cases e; cases e0) (by omega))) (fun v_ wq12 hX_ => ?_)
  obtain ⟨rfl, hb⟩ := hX_
  replace rp0 := keep hb rp0
  replace rp1 := keep hb rp1
  replace rg := keep hb rg
  replace hw := Below.after hw hb
  clear hb
  refine hK_ _ _ (⟨rp0, rp1⟩) ?_
  simp only [Act.put, List.getElem_toArray, List.getElem_cons_succ, List.getElem_cons_zero, List.setIfInBounds_toArray, List.set_cons_succ, List.set_cons_zero]
  clear hK_
  refine eH_one (k := 3) (fuel := 16) (by kernel_rfl) rfl (by kernel_rfl) (fun K_ hK_ => ?_)
  refine wp_call_ex (f := 13) (by kernel_rfl) (ex1e (r_Leaf b _ _ (hB.keep hw) hn (by omega))) (fun v_ wq13 hX_ => ?_)
  obtain ⟨rfl, hb⟩ := hX_
  replace rp0 := keep hb rp0
  replace rp1 := keep hb rp1
  replace rg := keep hb rg
  replace hw := Below.after hw hb
  clear hb
  refine hK_ _ _ (⟨rp0, rp1⟩) ?_
  simp only [Act.put, List.getElem_toArray, List.getElem_cons_succ, List.getElem_cons_zero, List.setIfInBounds_toArray, List.set_cons_succ, List.set_cons_zero]
  clear hK_
  refine wpAnyH_take (i := 4) (v := ?v14) rfl (by kernel_rfl) (by kernel_rfl) (by kernel_rfl) (fun _ _ _ h => h) (Or.inl ⟨by rfl, ?y14⟩) (⟨rp0, rp1⟩) ?r14
  case y14 =>
    intro w_ hS_
    go_simp
    try with_reducible rfl
  simp only [Act.put, List.getElem_toArray, List.getElem_cons_succ, List.getElem_cons_zero, List.setIfInBounds_toArray, List.set_cons_succ, List.set_cons_zero]
  refine wpAnyH_take (i := 5) (v := ?v15) rfl (by kernel_rfl) (by kernel_rfl) (by kernel_rfl) (fun _ _ _ h => h) (Or.inl ⟨by rfl, ?y15⟩) (⟨rp0, rp1⟩) ?r15
  case y15 =>
    intro w_ hS_
    go_simp
    try with_reducible rfl
  simp only [Act.put, List.getElem_toArray, List.getElem_cons_succ, List.getElem_cons_zero, List.setIfInBounds_toArray, List.set_cons_succ, List.set_cons_zero]
  refine wpAnyH_take (i := 6) (v := ?v16) rfl (by kernel_rfl) (by kernel_rfl) (by kernel_rfl) (fun _ _ _ h => h) (Or.inl ⟨by rfl, ?y16⟩) (⟨rp0, rp1⟩) ?r16
  case y16 =>
    intro w_ hS_
    go_simp
    try with_reducible rfl
  simp only [Act.put, List.getElem_toArray, List.getElem_cons_succ, List.getElem_cons_zero, List.setIfInBounds_toArray, List.set_cons_succ, List.set_cons_zero]
  refine wpAnyH_take (i := 7) (v := ?v17) rfl (by kernel_rfl) (by kernel_rfl) (by kernel_rfl) (fun _ _ _ h => h) (Or.inl ⟨by rfl, ?y17⟩) (⟨rp0, rp1⟩) ?r17
  case y17 =>
    intro w_ hS_
    go_simp
    try with_reducible rfl
  simp only [Act.put, List.getElem_toArray, List.getElem_cons_succ, List.getElem_cons_zero, List.setIfInBounds_toArray, List.set_cons_succ, List.set_cons_zero]
  refine eH_one (k := 8) (fuel := 11) (by kernel_rfl) rfl (by kernel_rfl) (fun K_ hK_ => ?_)
  refine wp_call_ex (f := 14) (by kernel_rfl) (ex1e (l_kept21 b g _ _ (hB.keep hw) (by omega) rg)) (fun v_ wq18 hX_ => ?_)
  obtain ⟨rfl, hb⟩ := hX_
  replace rp0 := keep hb rp0
  replace rp1 := keep hb rp1
  replace rg := keep hb rg
  replace hw := Below.after hw hb
  clear hb
  refine hK_ _ _ (⟨rp0, rp1⟩) ?_
  simp only [Act.put, List.getElem_toArray, List.getElem_cons_succ, List.getElem_cons_zero, List.setIfInBounds_toArray, List.set_cons_succ, List.set_cons_zero]
  clear hK_
  refine wpAnyH_take (i := 9) (v := ?v19) rfl (by kernel_rfl) (by kernel_rfl) (by kernel_rfl) (fun _ _ _ h => h) (Or.inl ⟨by rfl, ?y19⟩) (⟨rp0, rp1⟩) ?r19
  case y19 =>
    intro w_ hS_
    go_simp
    try with_reducible rfl
  simp only [Act.put, List.getElem_toArray, List.getElem_cons_succ, List.getElem_cons_zero, List.setIfInBounds_toArray, List.set_cons_succ, List.set_cons_zero]
  refine wpAnyH_take (i := 10) (v := ?v20) rfl (by kernel_rfl) (by kernel_rfl) (by kernel_rfl) (fun _ _ _ h => h) (Or.inl ⟨by rfl, ?y20⟩) (⟨rp0, rp1⟩) ?r20
  case y20 =>
    intro w_ hS_
    go_simp
    try with_reducible rfl
  simp only [Act.put, List.getElem_toArray, List.getElem_cons_succ, List.getElem_cons_zero, List.setIfInBounds_toArray, List.set_cons_succ, List.set_cons_zero]
  refine wpAnyH_take (i := 11) (v := .agg (irow .u8 x)) rfl (by kernel_rfl) (by kernel_rfl) (by kernel_rfl) (fun _ _ _ h => h) (Or.inl ⟨by rfl, ?y21⟩) (⟨rp0, rp1⟩) ?r21
  case y21 =>
    intro w_ hS_
    simp only [List.getElem_toArray, List.getElem_cons_succ, List.getElem_cons_zero]
    exact e_load_part 24 _ (by rfl) (w.heap.size) 0 (by rfl) 24 (irow .u8 x) (0, 0) (irow .u8 x) _ (hS_.1) (all_rowe _) Tryd.underlying24 rfl (infok8 _ hx)
  simp only [Act.put, List.getElem_toArray, List.getElem_cons_succ, List.getElem_cons_zero, List.setIfInBounds_toArray, List.set_cons_succ, List.set_cons_zero]
  refine wpAnyH_take (i := 12) (v := .agg (irow .u8 y)) rfl (by kernel_rfl) (by kernel_rfl) (by kernel_rfl) (fun _ _ _ h => h) (Or.inl ⟨by rfl, ?y22⟩) (⟨rp0, rp1⟩) ?r22
  case y22 =>
    intro w_ hS_
    simp only [List.getElem_toArray, List.getElem_cons_succ, List.getElem_cons_zero]
    exact e_load_part 24 _ (by rfl) (w.heap.size + 1) 0 (by rfl) 24 (irow .u8 y) (0, 0) (irow .u8 y) _ (hS_.2) (all_rowe _) Tryd.underlying24 rfl (infok8 _ hy)
  simp only [Act.put, List.getElem_toArray, List.getElem_cons_succ, List.getElem_cons_zero, List.setIfInBounds_toArray, List.set_cons_succ, List.set_cons_zero]
  refine wpAnyH_take (i := 14) (v := .agg (irow .u8 x)) rfl (by kernel_rfl) (by kernel_rfl) (by kernel_rfl) (fun _ _ _ h => h) (Or.inl ⟨by rfl, ?y23⟩) (⟨rp0, rp1⟩) ?r23
  case y23 =>
    intro w_ hS_
    simp only [List.getElem_toArray, List.getElem_cons_succ, List.getElem_cons_zero]
    exact e_load_part 24 _ (by rfl) (w.heap.size) 0 (by rfl) 24 (irow .u8 x) (0, 0) (irow .u8 x) _ (hS_.1) (all_rowe _) Tryd.underlying24 rfl (infok8 _ hx)
  simp only [Act.put, List.getElem_toArray, List.getElem_cons_succ, List.getElem_cons_zero, List.setIfInBounds_toArray, List.set_cons_succ, List.set_cons_zero]
  refine wpAnyH_take (i := 15) (v := .agg (irow .u8 y)) rfl (by kernel_rfl) (by kernel_rfl) (by kernel_rfl) (fun _ _ _ h => h) (Or.inl ⟨by rfl, ?y24⟩) (⟨rp0, rp1⟩) ?r24
  case y24 =>
    intro w_ hS_
    simp only [List.getElem_toArray, List.getElem_cons_succ, List.getElem_cons_zero]
    exact e_load_part 24 _ (by rfl) (w.heap.size + 1) 0 (by rfl) 24 (irow .u8 y) (0, 0) (irow .u8 y) _ (hS_.2) (all_rowe _) Tryd.underlying24 rfl (infok8 _ hy)
  simp only [Act.put, List.getElem_toArray, List.getElem_cons_succ, List.getElem_cons_zero, List.setIfInBounds_toArray, List.set_cons_succ, List.set_cons_zero]
  refine eH_one (k := 13) (fuel := 4) (by kernel_rfl) rfl (by kernel_rfl) (fun K_ hK_ => ?_)
  refine wp_call_ex (f := 15) (by kernel_rfl) (ex1e (a_Node x y hx hy zx zy _ (hS.below hw) (hK.below hw))) (fun v_ wq25 hX_ => ?_)
  obtain ⟨rfl, hb⟩ := hX_
  replace rp0 := keep hb rp0
  replace rp1 := keep hb rp1
  replace rg := keep hb rg
  replace hw := Below.after hw hb
  clear hb
  refine hK_ _ _ (⟨rp0, rp1⟩) ?_
  simp only [Act.put, List.getElem_toArray, List.getElem_cons_succ, List.getElem_cons_zero, List.setIfInBounds_toArray, List.set_cons_succ, List.set_cons_zero]
  clear hK_
  refine eH_one (k := 16) (fuel := 3) (by kernel_rfl) rfl (by kernel_rfl) (fun K_ hK_ => ?_)
  refine wp_call_ex (f := 16) (by kernel_rfl) (ex1e (r_Node x y hx hy zx zy _)) (fun v_ wq26 hX_ => ?_)
  obtain ⟨rfl, hb⟩ := hX_
  replace rp0 := keep hb rp0
  replace rp1 := keep hb rp1
  replace rg := keep hb rg
  replace hw := Below.after hw hb
  clear hb
  refine hK_ _ _ (⟨rp0, rp1⟩) ?_
  simp only [Act.put, List.getElem_toArray, List.getElem_cons_succ, List.getElem_cons_zero, List.setIfInBounds_toArray, List.set_cons_succ, List.set_cons_zero]
  clear hK_
  refine wpAnyH_take (i := 17) (v := ?v27) rfl (by kernel_rfl) (by kernel_rfl) (by kernel_rfl) (fun _ _ _ h => h) (Or.inl ⟨by rfl, ?y27⟩) (⟨rp0, rp1⟩) ?r27
  case y27 =>
    intro w_ hS_
    go_simp
    try with_reducible rfl
  simp only [Act.put, List.getElem_toArray, List.getElem_cons_succ, List.getElem_cons_zero, List.setIfInBounds_toArray, List.set_cons_succ, List.set_cons_zero]
  refine wpAnyH_take (i := 18) (v := ?v28) rfl (by kernel_rfl) (by kernel_rfl) (by kernel_rfl) (fun _ _ _ h => h) (Or.inl ⟨by rfl, ?y28⟩) (⟨rp0, rp1⟩) ?r28
  case y28 =>
    intro w_ hS_
    go_simp
    try with_reducible rfl
  simp only [Act.put, List.getElem_toArray, List.getElem_cons_succ, List.getElem_cons_zero, List.setIfInBounds_toArray, List.set_cons_succ, List.set_cons_zero]
  refine wpAnyH_take (i := 19) (v := ?v29) rfl (by kernel_rfl) (by kernel_rfl) (by kernel_rfl) (fun _ _ _ h => h) (Or.inl ⟨by rfl, ?y29⟩) (⟨rp0, rp1⟩) ?r29
  case y29 =>
    intro w_ hS_
    go_simp
    try with_reducible rfl
  simp only [Act.put, List.getElem_toArray, List.getElem_cons_succ, List.getElem_cons_zero, List.setIfInBounds_toArray, List.set_cons_succ, List.set_cons_zero]
  refine wpAnyH_done (by kernel_rfl) ?_ _
  refine NoPanic.normal ?_
  go_wp2_with (fail)
  go_ret
  exact ⟨rfl, hw⟩
set_option maxRecDepth 100000 in
set_option maxHeartbeats 8000000 in
theorem roots_walk {R S : List Int} (hR : R.length = 32) (hS32 : S.length = 32) (l : List (List Int)) (eR : Hid (rt sumL l = R)) (eS : Hid (sumL [] = S)) (w : World) (v : Value) (hS : Sta w) (hK : Kon w) (hL : Ksl w v l) (hb4 : l.length ≤ 4398046510990) : Calls Tryd.prog 4 #[v] w fun e w' => e = .returned (.bool true) ∧ Below w.heap.size w w' := by
  have hw : Below w.heap.size w w := Below.refl _ _
  go_enter Tryd.func4, Tryd.ntmps4
  go_wp2_with (fail)
  refine (l_loan l _ _ hL hb4).mono ?_
  rintro e_ w1 ⟨ao, cap, rfl, hO, hb⟩
  replace hL := hL.keep hb
  replace hw := Below.after hw hb
  clear hb
  have hA := hO.ksl (hL.ok.app mks_ok) (by simp [mks]; omega)
  have hc := hA.head (k := l.length) (by simp)
  rw [List.take_left] at hc
  have e1 := eqKs R hR
  have e2 := eqKs S hS32
  clear hA
  go_wp2_with (fail)
  refine (a_Root _ l _ _ rfl (hS.below hw) (hK.below hw) hc).mono ?_
  rintro e_ w2 ⟨rfl, hb⟩
  replace hO := hO.keep hb
  replace hL := hL.keep hb
  replace hc := hc.keep hb
  replace hw := Below.after hw hb
  clear hb
  rw [eR.out]
  go_wp2_with (fail)
  refine (r_Root _ l _ _ rfl hL).mono ?_
  rintro e_ w3 ⟨rfl, hb⟩
  replace hO := hO.keep hb
  replace hL := hL.keep hb
  replace hc := hc.keep hb
  replace hw := Below.after hw hb
  clear hb
  rw [eR.out]
  go_wp2_with (fail)
  refine (l_whole l _ _ _ _ _ hO hL hb4).mono ?_
  rintro e_ w4 ⟨rfl, hb⟩
  replace hO := hO.keep hb
  replace hL := hL.keep hb
  replace hc := hc.keep hb
  replace hw := Below.after hw hb
  clear hb
  go_wp2_with (fail)
  refine (a_root0 hS32 eS _ none 0 (hS.below hw) (hK.below hw)).mono ?_
  rintro e_ w5 ⟨rfl, hb⟩
  replace hO := hO.keep hb
  replace hL := hL.keep hb
  replace hc := hc.keep hb
  replace hw := Below.after hw hb
  clear hb
  go_wp2_with (fail)
  refine (a_sum [] _ _ (hS.below hw) (hK.below hw) ⟨none, 0, rfl, by simp, fun j hj => by simp at hj, fun z hz => by cases hz⟩ (fun a l c e => by cases e; exact Nat.le_refl _) (by simp)).mono ?_
  rintro e_ w6 ⟨rfl, hb⟩
  replace hO := hO.keep hb
  replace hL := hL.keep hb
  replace hc := hc.keep hb
  replace hw := Below.after hw hb
  clear hb
  rw [eS.out]
  go_wp2_with (fail)
  go_ret
  exact ⟨rfl, hw⟩
theorem roots_any (l : List (List Int)) (w : World) (v : Value) (hS : Sta w) (hK : Kon w) (hL : Ksl w v l) (hb4 : l.length ≤ 4398046510990) : Calls Tryd.prog 4 #[v] w fun e w' => e = .returned (.bool true) ∧ Below w.heap.size w w' := roots_walk (Ky.rt hL.ok).1 (sumL_len _) l (hide rfl) (hide rfl) w v hS hK hL hb4
end Go.Proofs.YtgfeacnhdlgpoaaDoor
