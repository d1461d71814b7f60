import Derived.Test.YtgfeacnhdlgpoaaDoorProg
import Derived.WalkKit
import Derived.WalkSpells
import Derived.WalkLawsBesides
import Derived.Lib.QuietBelow
import Derived.BigQuiet
import Derived.OrdersHeld
import Derived.OwnWalk
import Derived.Deep.RegionHeld3
import Derived.Deep.Cut
import Derived.Deep.CutRange
import Derived.Test.YtgfeacnhdlgpoaaDoorTrt
namespace Go.Proofs.YtgfeacnhdlgpoaaDoor
set_option maxRecDepth 100000
open Go Go.RowKit Go.Sort
attribute [local go_sem] setCell_drewN alloc_drewN
set_option maxRecDepth 100000 in
set_option maxHeartbeats 8000000 in
theorem r_made1 {x : List Int} (hX : x.length = 32) (w : World) (i v : Value) : Calls Tryd.prog 36 #[.int .i64 1, i, .agg (irow .u8 x), v] w fun e w' => ∃ v, e = .returned v ∧ ∃ vt, v = .tuple #[.agg (irow .u8 x), vt] ∧ OwnT w' w.heap.size vt [] ∧ Below w.heap.size w w' := by
  have rp0 := hp2_0 w (.cells (irow .u8 x) 24) (.cells (irow .u8 (zr 32)) 24)
  have rp1 := hp2_1 w (.cells (irow .u8 x) 24) (.cells (irow .u8 (zr 32)) 24)
  have hw : Below w.heap.size w ((w.alloc (.cells (irow .u8 x) 24)).alloc (.cells (irow .u8 (zr 32)) 24)) := (((Below.refl _ _).alloc (Nat.le_refl _) _).alloc (by simp) _)
  go_enter Tryd.func36, Tryd.ntmps36
  iterate 9 go_step
  try rw [zk32]
  generalize ((w.alloc (.cells (irow .u8 x) 24)).alloc (.cells (irow .u8 (zr 32)) 24)) = w0 at *
  go_wp2_with (first | (refine wpList_load_want rfl 24 _ rfl (w.heap.size) rfl 24 (irow .u8 x) (0, 0) _ rp0 Tryd.underlying24 rfl (infok8 _ hX) ?_) | (refine wpList_load_want rfl 24 _ rfl (w.heap.size + 1) rfl 24 (irow .u8 (zr 32)) (0, 0) _ rp1 Tryd.underlying24 rfl (infok8 _ (zr_len 32)) ?_) | (refine wpList_store_row rfl 24 _ _ rfl (w.heap.size + 1) (irow .u8 x) rfl rfl 24 _ rp1 (infok8 _ hX) (((irow_size _ _).trans (zr_len 32)).trans ((irow_size _ _).trans hX).symm) (irow_one8 _) ?_) | fail)
  exact bodyPost_ret (v := .tuple #[.agg (irow .u8 x), .slice none 0 0]) (results_row_slot Tryd.results36 _ _ (w.heap.size + 1) _ (irow .u8 x) _ _ _ rfl (setRow_heap _ _ _ _ _ _ rp1) rfl Tryd.underlying24 rfl (infok8 _ hX)) rfl ⟨_, rfl, _, rfl, OwnT.nil _ _, below_setRow hw (by omega) _⟩
set_option maxRecDepth 100000 in
set_option maxHeartbeats 8000000 in
theorem r_madelo {x A E R X : List Int} {T : List (List Int)} (hX : x.length = 32) (hA : A.length = 32) (hE : E.length = 32) (hR : R.length = 32) (hTl : T.length ≤ 900000) (w : World) (n k i m : Nat) (hn : 2 ≤ n) (_hm : n ≤ 4398046511000) (_hk : k < n) (hi : i < k) (_hin : i < n) (hml : m ≤ 4398046511000) (pg po pc : Nat) (pcs : Array Value) (pt : TypeId) (pf : Nat × Nat) (hpg : w.heap[pg]? = some (.cells pcs pt pf)) (hmc : m + 1 ≤ pc) (hx : pcs.extract (po + m * 32) (po + m * 32 + (irow .u8 E).size) = irow .u8 E) (cC : Gives 45 #[.int .i64 (n : Int)] (.int .i64 (k : Int))) (cP : (∀ W, Below w.heap.size w W → Calls Tryd.prog 36 #[.int .i64 (k : Int), .int .i64 (i : Int), .agg (irow .u8 x), .slice (some ⟨pg, po, none⟩) m pc] W fun e w' => ∃ v, e = .returned v ∧ ∃ vt, v = .tuple #[.agg (irow .u8 A), vt] ∧ OwnT w' W.heap.size vt T ∧ Below W.heap.size W w')) (cN : (∀ W, Below w.heap.size w W → Calls Tryd.prog 16 #[.agg (irow .u8 A), .agg (irow .u8 E)] W fun e w' => e = .returned (.agg (irow .u8 R)) ∧ Below W.heap.size W w')) (cX : (∀ W, Below w.heap.size w W → Calls Tryd.prog 43 #[.agg (irow .u8 A), .agg (irow .u8 E)] W fun e w' => ∃ v, e = .returned v ∧ OwnI w' w.heap.size v X ∧ Below W.heap.size W w')) : Calls Tryd.prog 36 #[.int .i64 (n : Int), .int .i64 (i : Int), .agg (irow .u8 x), .slice (some ⟨pg, po, none⟩) (m + 1) pc] w fun e w' => ∃ v, e = .returned v ∧ ∃ vt, v = .tuple #[.agg (irow .u8 R), vt] ∧ OwnT w' w.heap.size vt (T ++ [X]) ∧ Below w.heap.size w w' := by
  have d1 : decide ((n : Int) = 1) = false := by simp; omega
  have d2 : decide ((i : Int) < (k : Int)) = true := by simp; omega
  have jm : (m : Int) < (m : Int) + 1 := by omega
  have qm : IntKind.i64.wrap (m : Int) = (m : Int) := by rw [IntKind.wrap_i64]; omega
  have rp0 := hp2_0 w (.cells (irow .u8 x) 24) (.cells (irow .u8 (zr 32)) 24)
  have rp1 := hp2_1 w (.cells (irow .u8 x) 24) (.cells (irow .u8 (zr 32)) 24)
  have hw : Below w.heap.size w ((w.alloc (.cells (irow .u8 x) 24)).alloc (.cells (irow .u8 (zr 32)) 24)) := (((Below.refl _ _).alloc (Nat.le_refl _) _).alloc (by simp) _)
  go_enter Tryd.func36, Tryd.ntmps36
  iterate 9 go_step
  try rw [zk32]
  generalize ((w.alloc (.cells (irow .u8 x) 24)).alloc (.cells (irow .u8 (zr 32)) 24)) = w0 at *
  have rq := keep hw hpg
  have lpg := lt_of_row hpg
  go_wp2_with (fail)
  refine (cC.at _).mono ?_
  rintro e_ w1 ⟨rfl, hb⟩
  replace rp0 := keep hb rp0
  replace rp1 := keep hb rp1
  replace rq := keep hb rq
  replace hw := Below.after hw hb
  clear hb
  clear cC
  go_wp2_with (first | (refine wpList_store_row rfl 24 _ _ rfl (w1.heap.size) (irow .u8 E) rfl rfl 24 (irow .u8 (zr 32)) (hp1_0 w1 _) (infok8 _ hE) (((irow_size _ _).trans (zr_len 32)).trans ((irow_size _ _).trans hE).symm) (irow_one8 _) ?_; rw [setRow_alloc_new _ _ _ _ _ _ (by simp)]; refine wpList_stay ?_) | (refine wpList_load_part rfl 24 _ rfl pg (po + m * 32) rfl pt pcs pf (irow .u8 E) _ rq hx Tryd.underlying24 rfl (infok8 _ hE) ?_) | fail)
  unfold WpStay
  try simp only [Act.put]
  have rl11 : (w1.alloc (.cells (irow .u8 E) 24)).heap[w1.heap.size]? = some (.cells (irow .u8 E) 24 (0, 0)) := hp1_0 w1 _
  have hb : Below w1.heap.size w1 (w1.alloc (.cells (irow .u8 E) 24)) := ((Below.refl _ _).alloc (Nat.le_refl _) _)
  generalize (w1.alloc (.cells (irow .u8 E) 24)) = w2 at *
  have lt_g11_0 := lt_of_row rp0
  have lt_g11_1 := lt_of_row rp1
  have sz_g11 := hw.size
  replace rp0 := keep hb rp0
  replace rp1 := keep hb rp1
  replace rq := keep hb rq
  replace hw := Below.after hw hb
  clear hb
  generalize w1.heap.size = g11 at *
  clear w1
  go_wp2_with (fail)
  have hb : Below w2.heap.size w2 w2.drew := below_drN (Below.refl _ _) 1
  replace rp0 := keep hb rp0
  replace rp1 := keep hb rp1
  replace rl11 := keep hb rl11
  replace rq := keep hb rq
  replace hw := Below.after hw hb
  clear hb
  refine wp_region_noPanic ?_
  refine wp_region_held (S := fun W_ => W_.heap[w.heap.size]? = some (.cells (irow .u8 x) 24 (0, 0))) (by kernel_rfl) ?_
  change wpAnyH _ _ _ _ _ _ _ _ (World.drew _)
  generalize w2.drew = wd95 at *
  refine wpAnyH_take (i := 0) (v := ?v96) rfl (by kernel_rfl) (by kernel_rfl) (by kernel_rfl) (fun _ _ _ h => h) (Or.inl ⟨by rfl, ?y96⟩) (rp0) ?r96
  case y96 =>
    intro w_ hS_
    go_simp
    try with_reducible rfl
  simp only [Act.put, List.getElem_toArray, List.getElem_cons_zero, List.setIfInBounds_toArray, List.set_cons_succ, List.set_cons_zero]
  refine wpAnyH_take (i := 1) (v := ?v97) rfl (by kernel_rfl) (by kernel_rfl) (by kernel_rfl) (fun _ _ _ h => h) (Or.inl ⟨by rfl, ?y97⟩) (rp0) ?r97
  case y97 =>
    intro w_ hS_
    go_simp
    try with_reducible rfl
  simp only [Act.put, List.getElem_toArray, List.getElem_cons_succ, List.getElem_cons_zero, List.setIfInBounds_toArray, List.set_cons_succ, List.set_cons_zero]
  refine wpAnyH_take (i := 2) (v := .agg (irow .u8 x)) rfl (by kernel_rfl) (by kernel_rfl) (by kernel_rfl) (fun _ _ _ h => h) (Or.inl ⟨by rfl, ?y98⟩) (rp0) ?r98
  case y98 =>
    intro w_ hS_
    simp only [List.getElem_toArray, List.getElem_cons_succ, List.getElem_cons_zero]
    exact e_load_part 24 _ (by rfl) (w.heap.size) 0 (by rfl) 24 (irow .u8 x) (0, 0) (irow .u8 x) _ (hS_) (all_rowe _) Tryd.underlying24 rfl (infok8 _ hX)
  simp only [Act.put, List.getElem_toArray, List.getElem_cons_succ, List.getElem_cons_zero, List.setIfInBounds_toArray, List.set_cons_succ, List.set_cons_zero]
  refine wpAnyH_take (i := 3) (v := ?v99) rfl (by kernel_rfl) (by kernel_rfl) (by kernel_rfl) (fun _ _ _ h => h) (Or.inl ⟨by rfl, ?y99⟩) (rp0) ?r99
  case y99 =>
    intro w_ hS_
    go_simp
    try with_reducible rfl
  simp only [Act.put, List.getElem_toArray, List.getElem_cons_succ, List.getElem_cons_zero, List.setIfInBounds_toArray, List.set_cons_succ, List.set_cons_zero]
  refine wpAnyH_take (i := 4) (v := ?v100) rfl (by kernel_rfl) (by kernel_rfl) (by kernel_rfl) (fun _ _ _ h => h) (Or.inl ⟨by rfl, ?y100⟩) (rp0) ?r100
  case y100 =>
    intro w_ hS_
    go_simp
    try with_reducible rfl
  simp only [Act.put, List.getElem_toArray, List.getElem_cons_succ, List.getElem_cons_zero, List.setIfInBounds_toArray, List.set_cons_succ, List.set_cons_zero]
  refine wpAnyH_take (i := 5) (v := ?v101) rfl (by kernel_rfl) (by kernel_rfl) (by kernel_rfl) (fun _ _ _ h => h) (Or.inl ⟨by rfl, ?y101⟩) (rp0) ?r101
  case y101 =>
    intro w_ hS_
    go_simp
    try with_reducible rfl
  simp only [Act.put, List.getElem_toArray, List.getElem_cons_succ, List.getElem_cons_zero, List.setIfInBounds_toArray, List.set_cons_succ, List.set_cons_zero]
  refine wpAnyH_take (i := 6) (v := ?v102) rfl (by kernel_rfl) (by kernel_rfl) (by kernel_rfl) (fun _ _ _ h => h) (Or.inl ⟨by rfl, ?y102⟩) (rp0) ?r102
  case y102 =>
    intro w_ hS_
    go_simp
    try with_reducible rfl
  simp only [Act.put, List.getElem_toArray, List.getElem_cons_succ, List.getElem_cons_zero, List.setIfInBounds_toArray, List.set_cons_succ, List.set_cons_zero]
  refine wpAnyH_take (i := 7) (v := .slice (some ⟨pg, po, none⟩) m pc) rfl (by kernel_rfl) (by kernel_rfl) (by kernel_rfl) (fun _ _ _ h => h) (Or.inl ⟨by rfl, ?y103⟩) (rp0) ?r103
  case y103 =>
    intro w_ hS_
    simp only [List.getElem_toArray, List.getElem_cons_succ, List.getElem_cons_zero]
    exact e_slice _ _ _ _ rfl _ (slk_head _ _ _ m (by omega) (by intro e; cases e) _)
  simp only [Act.put, List.getElem_toArray, List.getElem_cons_succ, List.getElem_cons_zero, List.setIfInBounds_toArray, List.set_cons_succ, List.set_cons_zero]
  refine eH_two (j := 8) (k := 12) (fuel := 6) (by kernel_rfl) rfl rfl (by kernel_rfl) (by kernel_rfl) (fun K_ hK_ => ?_) (fun K_ hK_ => ?_)
  · skip
    have hsr := hw.size
    refine wp_call_ex (f := 36) (by kernel_rfl) (cP _ hw) (fun v_ wq104 hX_ => ?_)
    obtain ⟨vt, rfl, hT, hb⟩ := hX_
    replace rp0 := keep hb rp0
    replace rp1 := keep hb rp1
    replace rl11 := keep hb rl11
    replace rq := keep hb rq
    replace hw := Below.after hw hb
    clear hb
    refine hK_ _ _ (rp0) ?_
    simp only [Act.put, List.getElem_toArray, List.getElem_cons_succ, List.getElem_cons_zero, List.setIfInBounds_toArray, List.set_cons_succ, List.set_cons_zero]
    clear hK_
    replace hT := hT.down hsr
    refine wpAnyH_take (i := 9) (v := ?v105) rfl (by kernel_rfl) (by kernel_rfl) (by kernel_rfl) (fun _ _ _ h => h) (Or.inl ⟨by rfl, ?y105⟩) (rp0) ?r105
    case y105 =>
      intro w_ hS_
      go_simp
      try with_reducible rfl
    simp only [Act.put, List.getElem_toArray, List.getElem_cons_succ, List.getElem_cons_zero, List.setIfInBounds_toArray, List.set_cons_succ, List.set_cons_zero]
    refine wpAnyH_take (i := 10) (v := ?v106) rfl (by kernel_rfl) (by kernel_rfl) (by kernel_rfl) (fun _ _ _ h => h) (Or.inl ⟨by rfl, ?y106⟩) (rp0) ?r106
    case y106 =>
      intro w_ hS_
      go_simp
      try with_reducible rfl
    simp only [Act.put, List.getElem_toArray, List.getElem_cons_succ, List.getElem_cons_zero, List.setIfInBounds_toArray, List.set_cons_succ, List.set_cons_zero]
    refine wpAnyH_take (i := 11) (v := ?v107) rfl (by kernel_rfl) (by kernel_rfl) (by kernel_rfl) (fun _ _ _ h => h) (Or.inl ⟨by rfl, ?y107⟩) (rp0) ?r107
    case y107 =>
      intro w_ hS_
      go_simp
      try with_reducible rfl
    simp only [Act.put, List.getElem_toArray, List.getElem_cons_succ, List.getElem_cons_zero, List.setIfInBounds_toArray, List.set_cons_succ, List.set_cons_zero]
    refine eH_one (k := 12) (fuel := 2) (by kernel_rfl) rfl (by kernel_rfl) (fun K_ hK_ => ?_)
    refine e_world_op (.pointer (some ⟨wq104.heap.size, 0, none⟩)) (wq104.alloc (.cells (irow .u8 (zr 32)) 24)) (by kernel_rfl) ?_
    have hb : Below wq104.heap.size wq104 (wq104.alloc (.cells (irow .u8 (zr 32)) 24)) := (Below.refl _ _).alloc (Nat.le_refl _) _
    have rg108 := hp1_0 wq104 (.cells (irow .u8 (zr 32)) 24)
    have lt_g108_0 := lt_of_row rp0
    have lt_g108_1 := lt_of_row rp1
    have lt_g108_2 := lt_of_row rl11
    have sz_g108 := hw.size
    replace rp0 := keep hb rp0
    replace rp1 := keep hb rp1
    replace rl11 := keep hb rl11
    replace rq := keep hb rq
    replace hT := hT.keep hb
    replace hw := Below.after hw hb
    clear hb
    refine hK_ _ _ (rp0) ?_
    simp only [Act.put, List.getElem_toArray, List.getElem_cons_succ, List.getElem_cons_zero, List.setIfInBounds_toArray, List.set_cons_succ, List.set_cons_zero]
    clear hK_
    generalize (wq104.alloc (.cells (irow .u8 (zr 32)) 24)) = wq108 at *
    generalize wq104.heap.size = g108 at *
    refine eH_one (k := 13) (fuel := 1) (by kernel_rfl) rfl (by kernel_rfl) (fun K_ hK_ => ?_)
    refine wp_store_row 24 _ _ rfl (g108) (irow .u8 A) rfl rfl 24 _ rg108 (infok8 _ hA) (((irow_size _ _).trans (zr_len 32)).trans ((irow_size _ _).trans hA).symm) (irow_one8 _) ?_
    have hN_ := setRow_heap wq108 (g108) _ (irow .u8 A) _ _ rg108
    replace rp0 := (setRow_other wq108 (g108) (w.heap.size) (irow .u8 A) (by omega)).trans rp0
    replace rp1 := (setRow_other wq108 (g108) (w.heap.size + 1) (irow .u8 A) (by omega)).trans rp1
    replace rl11 := (setRow_other wq108 (g108) (g11) (irow .u8 A) (by omega)).trans rl11
    replace hw := below_setRow hw (show w.heap.size ≤ g108 by omega) (irow .u8 A)
    replace rq := (setRow_other wq108 (g108) pg (irow .u8 A) (by omega)).trans rq
    replace hT := hT.set (irow .u8 A) rg108 (by decide) (by decide)
    generalize (wq108.setRow (g108) (irow .u8 A)) = wq109 at *
    clear rg108
    have rg108 := hN_
    clear hN_
    refine hK_ _ _ (rp0) ?_
    simp only [Act.put]
    clear hK_
    refine wpAnyH_take (i := 14) (v := ?v110) rfl (by kernel_rfl) (by kernel_rfl) (by kernel_rfl) (fun _ _ _ h => h) (Or.inl ⟨by rfl, ?y110⟩) (rp0) ?r110
    case y110 =>
      intro w_ hS_
      go_simp
      try with_reducible rfl
    simp only [Act.put, List.getElem_toArray, List.getElem_cons_succ, List.getElem_cons_zero, List.setIfInBounds_toArray, List.set_cons_succ, List.set_cons_zero]
    refine wpAnyH_done (by kernel_rfl) ?_ _
    refine NoPanic.normal ?_
    go_wp2_with (fail)
    have hb : Below wq109.heap.size wq109 wq109.drew := below_drN (Below.refl _ _) 1
    replace rp0 := keep hb rp0
    replace rp1 := keep hb rp1
    replace rl11 := keep hb rl11
    replace rg108 := keep hb rg108
    replace rq := keep hb rq
    replace hT := hT.keep hb
    replace hw := Below.after hw hb
    clear hb
    refine wp_region_noPanic ?_
    refine wp_region_held (S := fun W_ => W_.heap[g108]? = some (.cells (irow .u8 A) 24 (0, 0)) ∧ W_.heap[g11]? = some (.cells (irow .u8 E) 24 (0, 0))) (by kernel_rfl) ?_
    change wpAnyH _ _ _ _ _ _ _ _ (World.drew _)
    generalize wq109.drew = wd111 at *
    refine wpAnyH_take (i := 0) (v := .agg (irow .u8 A)) rfl (by kernel_rfl) (by kernel_rfl) (by kernel_rfl) (fun _ _ _ h => h) (Or.inl ⟨by rfl, ?y112⟩) (⟨rg108, rl11⟩) ?r112
    case y112 =>
      intro w_ hS_
      simp only [List.getElem_toArray, List.getElem_cons_zero]
      exact e_load_part 24 _ (by rfl) (g108) 0 (by rfl) 24 (irow .u8 A) (0, 0) (irow .u8 A) _ (hS_.1) (all_rowe _) Tryd.underlying24 rfl (infok8 _ hA)
    simp only [Act.put, List.getElem_toArray, List.getElem_cons_zero, List.setIfInBounds_toArray, List.set_cons_succ, List.set_cons_zero]
    refine wpAnyH_take (i := 1) (v := .agg (irow .u8 E)) rfl (by kernel_rfl) (by kernel_rfl) (by kernel_rfl) (fun _ _ _ h => h) (Or.inl ⟨by rfl, ?y113⟩) (⟨rg108, rl11⟩) ?r113
    case y113 =>
      intro w_ hS_
      simp only [List.getElem_toArray, List.getElem_cons_succ, List.getElem_cons_zero]
      exact e_load_part 24 _ (by rfl) (g11) 0 (by rfl) 24 (irow .u8 E) (0, 0) (irow .u8 E) _ (hS_.2) (all_rowe _) Tryd.underlying24 rfl (infok8 _ hE)
    simp only [Act.put, List.getElem_toArray, List.getElem_cons_succ, List.getElem_cons_zero, List.setIfInBounds_toArray, List.set_cons_succ, List.set_cons_zero]
    refine wpAnyH_take (i := 3) (v := ?v114) rfl (by kernel_rfl) (by kernel_rfl) (by kernel_rfl) (fun _ _ _ h => h) (Or.inl ⟨by rfl, ?y114⟩) (⟨rg108, rl11⟩) ?r114
    case y114 =>
      intro w_ hS_
      go_simp
      try with_reducible rfl
    simp only [Act.put, List.getElem_toArray, List.getElem_cons_succ, List.getElem_cons_zero, List.setIfInBounds_toArray, List.set_cons_succ, List.set_cons_zero]
    refine wpAnyH_take (i := 4) (v := .agg (irow .u8 A)) rfl (by kernel_rfl) (by kernel_rfl) (by kernel_rfl) (fun _ _ _ h => h) (Or.inl ⟨by rfl, ?y115⟩) (⟨rg108, rl11⟩) ?r115
    case y115 =>
      intro w_ hS_
      simp only [List.getElem_toArray, List.getElem_cons_succ, List.getElem_cons_zero]
      exact e_load_part 24 _ (by rfl) (g108) 0 (by rfl) 24 (irow .u8 A) (0, 0) (irow .u8 A) _ (hS_.1) (all_rowe _) Tryd.underlying24 rfl (infok8 _ hA)
    simp only [Act.put, List.getElem_toArray, List.getElem_cons_succ, List.getElem_cons_zero, List.setIfInBounds_toArray, List.set_cons_succ, List.set_cons_zero]
    refine wpAnyH_take (i := 5) (v := .agg (irow .u8 E)) rfl (by kernel_rfl) (by kernel_rfl) (by kernel_rfl) (fun _ _ _ h => h) (Or.inl ⟨by rfl, ?y116⟩) (⟨rg108, rl11⟩) ?r116
    case y116 =>
      intro w_ hS_
      simp only [List.getElem_toArray, List.getElem_cons_succ, List.getElem_cons_zero]
      exact e_load_part 24 _ (by rfl) (g11) 0 (by rfl) 24 (irow .u8 E) (0, 0) (irow .u8 E) _ (hS_.2) (all_rowe _) Tryd.underlying24 rfl (infok8 _ hE)
    simp only [Act.put, List.getElem_toArray, List.getElem_cons_succ, List.getElem_cons_zero, List.setIfInBounds_toArray, List.set_cons_succ, List.set_cons_zero]
    refine eH_one (k := 2) (fuel := 5) (by kernel_rfl) rfl (by kernel_rfl) (fun K_ hK_ => ?_)
    refine wp_call_ex (f := 16) (by kernel_rfl) (ex1e (cN _ hw)) (fun v_ wq117 hX_ => ?_)
    obtain ⟨rfl, hb⟩ := hX_
    replace rp0 := keep hb rp0
    replace rp1 := keep hb rp1
    replace rl11 := keep hb rl11
    replace rg108 := keep hb rg108
    replace rq := keep hb rq
    replace hT := hT.keep hb
    replace hw := Below.after hw hb
    clear hb
    refine hK_ _ _ (⟨rg108, rl11⟩) ?_
    simp only [Act.put, List.getElem_toArray, List.getElem_cons_succ, List.getElem_cons_zero, List.setIfInBounds_toArray, List.set_cons_succ, List.set_cons_zero]
    clear hK_
    refine eH_one (k := 6) (fuel := 4) (by kernel_rfl) rfl (by kernel_rfl) (fun K_ hK_ => ?_)
    refine wp_call_ex (f := 43) (by kernel_rfl) (cX _ hw) (fun v_ wq118 hX_ => ?_)
    obtain ⟨hX_t, hb⟩ := hX_
    replace rp0 := keep hb rp0
    replace rp1 := keep hb rp1
    replace rl11 := keep hb rl11
    replace rg108 := keep hb rg108
    replace rq := keep hb rq
    replace hT := hT.keep hb
    replace hw := Below.after hw hb
    clear hb
    refine hK_ _ _ (⟨rg108, rl11⟩) ?_
    simp only [Act.put, List.getElem_toArray, List.getElem_cons_succ, List.getElem_cons_zero, List.setIfInBounds_toArray, List.set_cons_succ, List.set_cons_zero]
    clear hK_
    refine eH_one (k := 7) (fuel := 3) (by kernel_rfl) rfl (by kernel_rfl) (fun K_ hK_ => ?_)
    refine e_world_op (.slice (some ⟨wq118.heap.size, 0, none⟩) 1 1) (wq118.alloc (.cells #[v_] 22)) (e_bslT _ rfl v_ rfl hX_t _) ?_
    have hb : Below wq118.heap.size wq118 (wq118.alloc (.cells #[v_] 22)) := (Below.refl _ _).alloc (Nat.le_refl _) _
    have rg119 := hp1_0 wq118 (.cells #[v_] 22)
    have lt_g119_0 := lt_of_row rp0
    have lt_g119_1 := lt_of_row rp1
    have lt_g119_2 := lt_of_row rl11
    have lt_g119_3 := lt_of_row rg108
    have sz_g119 := hw.size
    replace rp0 := keep hb rp0
    replace rp1 := keep hb rp1
    replace rl11 := keep hb rl11
    replace rg108 := keep hb rg108
    replace rq := keep hb rq
    replace hT := hT.keep hb
    replace hX_t := hX_t.keep hb
    replace hw := Below.after hw hb
    clear hb
    refine hK_ _ _ (⟨rg108, rl11⟩) ?_
    simp only [Act.put, List.getElem_toArray, List.getElem_cons_succ, List.getElem_cons_zero, List.setIfInBounds_toArray, List.set_cons_succ, List.set_cons_zero]
    clear hK_
    generalize (wq118.alloc (.cells #[v_] 22)) = wq119 at *
    generalize wq118.heap.size = g119 at *
    refine eH_one (k := 8) (fuel := 2) (by kernel_rfl) rfl (by kernel_rfl) (fun K_ hK_ => ?_)
    refine wp_append_T _ _ rfl w.heap.size _ T rfl hT _ [X] rfl (OwnT.single (by omega) rg119 hX_t) (by simp only [List.length_singleton]; omega) hw.size (fun va_ wa120 hA_ hG_ => ?_)
    replace rp0 := (hG_.block _ (lt_of_row rp0) (own_neT hT rp0 (by decide))).trans rp0
    replace rp1 := (hG_.block _ (lt_of_row rp1) (own_neT hT rp1 (by decide))).trans rp1
    replace rl11 := (hG_.block _ (lt_of_row rl11) (own_neT hT rl11 (by decide))).trans rl11
    replace rg108 := (hG_.block _ (lt_of_row rg108) (own_neT hT rg108 (by decide))).trans rg108
    replace rq := (hG_.block pg (Nat.lt_of_lt_of_le lpg hw.size) (fun e => by have := (hT.lt pg e.symm).1; omega)).trans rq
    replace hw := hw.grown hG_ hw.size (fun k e => (hT.lt k e).1)
    clear hT hX_t rg119
    have hT := hA_
    clear hA_ hG_
    refine hK_ _ _ (⟨rg108, rl11⟩) ?_
    simp only [Act.put, List.getElem_toArray, List.getElem_cons_succ, List.getElem_cons_zero, List.setIfInBounds_toArray, List.set_cons_succ, List.set_cons_zero]
    clear hK_
    refine eH_one (k := 9) (fuel := 1) (by kernel_rfl) rfl (by kernel_rfl) (fun K_ hK_ => ?_)
    refine wp_store_row 24 _ _ rfl (w.heap.size + 1) (irow .u8 R) rfl rfl 24 _ rp1 (infok8 _ hR) (((irow_size _ _).trans (zr_len 32)).trans ((irow_size _ _).trans hR).symm) (irow_one8 _) ?_
    have hN_ := setRow_heap wa120 (w.heap.size + 1) _ (irow .u8 R) _ _ rp1
    replace rp0 := (setRow_other wa120 (w.heap.size + 1) (w.heap.size) (irow .u8 R) (by omega)).trans rp0
    replace rl11 := (setRow_other wa120 (w.heap.size + 1) (g11) (irow .u8 R) (by omega)).trans rl11
    replace rg108 := (setRow_other wa120 (w.heap.size + 1) (g108) (irow .u8 R) (by omega)).trans rg108
    replace hw := below_setRow hw (show w.heap.size ≤ w.heap.size + 1 by omega) (irow .u8 R)
    replace rq := (setRow_other wa120 (w.heap.size + 1) pg (irow .u8 R) (by omega)).trans rq
    replace hT := hT.set (irow .u8 R) rp1 (by decide) (by decide)
    generalize (wa120.setRow (w.heap.size + 1) (irow .u8 R)) = wq121 at *
    clear rp1
    have rp1 := hN_
    clear hN_
    refine hK_ _ _ (⟨rg108, rl11⟩) ?_
    simp only [Act.put]
    clear hK_
    refine wpAnyH_take (i := 10) (v := ?v122) rfl (by kernel_rfl) (by kernel_rfl) (by kernel_rfl) (fun _ _ _ h => h) (Or.inl ⟨by rfl, ?y122⟩) (⟨rg108, rl11⟩) ?r122
    case y122 =>
      intro w_ hS_
      go_simp
      try with_reducible rfl
    simp only [Act.put, List.getElem_toArray, List.getElem_cons_succ, List.getElem_cons_zero, List.setIfInBounds_toArray, List.set_cons_succ, List.set_cons_zero]
    refine wpAnyH_done (by kernel_rfl) ?_ _
    refine NoPanic.normal ?_
    go_wp2_with (fail)
    exact bodyPost_ret (v := .tuple #[.agg (irow .u8 R), _]) (results_row_slot Tryd.results36 _ _ (w.heap.size + 1) _ (irow .u8 R) _ _ _ rfl rp1 rfl Tryd.underlying24 rfl (infok8 _ hR)) rfl ⟨_, rfl, _, rfl, hT, hw⟩
  · skip
    refine e_world_op (.pointer (some ⟨wd95.heap.size, 0, none⟩)) (wd95.alloc (.cells (irow .u8 (zr 32)) 24)) (by kernel_rfl) ?_
    have hb : Below wd95.heap.size wd95 (wd95.alloc (.cells (irow .u8 (zr 32)) 24)) := (Below.refl _ _).alloc (Nat.le_refl _) _
    have rg123 := hp1_0 wd95 (.cells (irow .u8 (zr 32)) 24)
    have lt_g123_0 := lt_of_row rp0
    have lt_g123_1 := lt_of_row rp1
    have lt_g123_2 := lt_of_row rl11
    have sz_g123 := hw.size
    replace rp0 := keep hb rp0
    replace rp1 := keep hb rp1
    replace rl11 := keep hb rl11
    replace rq := keep hb rq
    replace hw := Below.after hw hb
    clear hb
    refine hK_ _ _ (rp0) ?_
    simp only [Act.put, List.getElem_toArray, List.getElem_cons_succ, List.getElem_cons_zero, List.setIfInBounds_toArray, List.set_cons_succ, List.set_cons_zero]
    clear hK_
    generalize (wd95.alloc (.cells (irow .u8 (zr 32)) 24)) = wq123 at *
    generalize wd95.heap.size = g123 at *
    refine eH_one (k := 8) (fuel := 5) (by kernel_rfl) rfl (by kernel_rfl) (fun K_ hK_ => ?_)
    have hsr := hw.size
    refine wp_call_ex (f := 36) (by kernel_rfl) (cP _ hw) (fun v_ wq124 hX_ => ?_)
    obtain ⟨vt, rfl, hT, hb⟩ := hX_
    replace rp0 := keep hb rp0
    replace rp1 := keep hb rp1
    replace rl11 := keep hb rl11
    replace rg123 := keep hb rg123
    replace rq := keep hb rq
    replace hw := Below.after hw hb
    clear hb
    refine hK_ _ _ (rp0) ?_
    simp only [Act.put, List.getElem_toArray, List.getElem_cons_succ, List.getElem_cons_zero, List.setIfInBounds_toArray, List.set_cons_succ, List.set_cons_zero]
    clear hK_
    replace hT := hT.down hsr
    refine wpAnyH_take (i := 9) (v := ?v125) rfl (by kernel_rfl) (by kernel_rfl) (by kernel_rfl) (fun _ _ _ h => h) (Or.inl ⟨by rfl, ?y125⟩) (rp0) ?r125
    case y125 =>
      intro w_ hS_
      go_simp
      try with_reducible rfl
    simp only [Act.put, List.getElem_toArray, List.getElem_cons_succ, List.getElem_cons_zero, List.setIfInBounds_toArray, List.set_cons_succ, List.set_cons_zero]
    refine wpAnyH_take (i := 10) (v := ?v126) rfl (by kernel_rfl) (by kernel_rfl) (by kernel_rfl) (fun _ _ _ h => h) (Or.inl ⟨by rfl, ?y126⟩) (rp0) ?r126
    case y126 =>
      intro w_ hS_
      go_simp
      try with_reducible rfl
    simp only [Act.put, List.getElem_toArray, List.getElem_cons_succ, List.getElem_cons_zero, List.setIfInBounds_toArray, List.set_cons_succ, List.set_cons_zero]
    refine wpAnyH_take (i := 11) (v := ?v127) rfl (by kernel_rfl) (by kernel_rfl) (by kernel_rfl) (fun _ _ _ h => h) (Or.inl ⟨by rfl, ?y127⟩) (rp0) ?r127
    case y127 =>
      intro w_ hS_
      go_simp
      try with_reducible rfl
    simp only [Act.put, List.getElem_toArray, List.getElem_cons_succ, List.getElem_cons_zero, List.setIfInBounds_toArray, List.set_cons_succ, List.set_cons_zero]
    refine eH_one (k := 13) (fuel := 1) (by kernel_rfl) rfl (by kernel_rfl) (fun K_ hK_ => ?_)
    refine wp_store_row 24 _ _ rfl (g123) (irow .u8 A) rfl rfl 24 _ rg123 (infok8 _ hA) (((irow_size _ _).trans (zr_len 32)).trans ((irow_size _ _).trans hA).symm) (irow_one8 _) ?_
    have hN_ := setRow_heap wq124 (g123) _ (irow .u8 A) _ _ rg123
    replace rp0 := (setRow_other wq124 (g123) (w.heap.size) (irow .u8 A) (by omega)).trans rp0
    replace rp1 := (setRow_other wq124 (g123) (w.heap.size + 1) (irow .u8 A) (by omega)).trans rp1
    replace rl11 := (setRow_other wq124 (g123) (g11) (irow .u8 A) (by omega)).trans rl11
    replace hw := below_setRow hw (show w.heap.size ≤ g123 by omega) (irow .u8 A)
    replace rq := (setRow_other wq124 (g123) pg (irow .u8 A) (by omega)).trans rq
    replace hT := hT.set (irow .u8 A) rg123 (by decide) (by decide)
    generalize (wq124.setRow (g123) (irow .u8 A)) = wq128 at *
    clear rg123
    have rg123 := hN_
    clear hN_
    refine hK_ _ _ (rp0) ?_
    simp only [Act.put]
    clear hK_
    refine wpAnyH_take (i := 14) (v := ?v129) rfl (by kernel_rfl) (by kernel_rfl) (by kernel_rfl) (fun _ _ _ h => h) (Or.inl ⟨by rfl, ?y129⟩) (rp0) ?r129
    case y129 =>
      intro w_ hS_
      go_simp
      try with_reducible rfl
    simp only [Act.put, List.getElem_toArray, List.getElem_cons_succ, List.getElem_cons_zero, List.setIfInBounds_toArray, List.set_cons_succ, List.set_cons_zero]
    refine wpAnyH_done (by kernel_rfl) ?_ _
    refine NoPanic.normal ?_
    go_wp2_with (fail)
    have hb : Below wq128.heap.size wq128 wq128.drew := below_drN (Below.refl _ _) 1
    replace rp0 := keep hb rp0
    replace rp1 := keep hb rp1
    replace rl11 := keep hb rl11
    replace rg123 := keep hb rg123
    replace rq := keep hb rq
    replace hT := hT.keep hb
    replace hw := Below.after hw hb
    clear hb
    refine wp_region_noPanic ?_
    refine wp_region_held (S := fun W_ => W_.heap[g123]? = some (.cells (irow .u8 A) 24 (0, 0)) ∧ W_.heap[g11]? = some (.cells (irow .u8 E) 24 (0, 0))) (by kernel_rfl) ?_
    change wpAnyH _ _ _ _ _ _ _ _ (World.drew _)
    generalize wq128.drew = wd130 at *
    refine wpAnyH_take (i := 0) (v := .agg (irow .u8 A)) rfl (by kernel_rfl) (by kernel_rfl) (by kernel_rfl) (fun _ _ _ h => h) (Or.inl ⟨by rfl, ?y131⟩) (⟨rg123, rl11⟩) ?r131
    case y131 =>
      intro w_ hS_
      simp only [List.getElem_toArray, List.getElem_cons_zero]
      exact e_load_part 24 _ (by rfl) (g123) 0 (by rfl) 24 (irow .u8 A) (0, 0) (irow .u8 A) _ (hS_.1) (all_rowe _) Tryd.underlying24 rfl (infok8 _ hA)
    simp only [Act.put, List.getElem_toArray, List.getElem_cons_zero, List.setIfInBounds_toArray, List.set_cons_succ, List.set_cons_zero]
    refine wpAnyH_take (i := 1) (v := .agg (irow .u8 E)) rfl (by kernel_rfl) (by kernel_rfl) (by kernel_rfl) (fun _ _ _ h => h) (Or.inl ⟨by rfl, ?y132⟩) (⟨rg123, rl11⟩) ?r132
    case y132 =>
      intro w_ hS_
      simp only [List.getElem_toArray, List.getElem_cons_succ, List.getElem_cons_zero]
      exact e_load_part 24 _ (by rfl) (g11) 0 (by rfl) 24 (irow .u8 E) (0, 0) (irow .u8 E) _ (hS_.2) (all_rowe _) Tryd.underlying24 rfl (infok8 _ hE)
    simp only [Act.put, List.getElem_toArray, List.getElem_cons_succ, List.getElem_cons_zero, List.setIfInBounds_toArray, List.set_cons_succ, List.set_cons_zero]
    refine wpAnyH_take (i := 3) (v := ?v133) rfl (by kernel_rfl) (by kernel_rfl) (by kernel_rfl) (fun _ _ _ h => h) (Or.inl ⟨by rfl, ?y133⟩) (⟨rg123, rl11⟩) ?r133
    case y133 =>
      intro w_ hS_
      go_simp
      try with_reducible rfl
    simp only [Act.put, List.getElem_toArray, List.getElem_cons_succ, List.getElem_cons_zero, List.setIfInBounds_toArray, List.set_cons_succ, List.set_cons_zero]
    refine wpAnyH_take (i := 4) (v := .agg (irow .u8 A)) rfl (by kernel_rfl) (by kernel_rfl) (by kernel_rfl) (fun _ _ _ h => h) (Or.inl ⟨by rfl, ?y134⟩) (⟨rg123, rl11⟩) ?r134
    case y134 =>
      intro w_ hS_
      simp only [List.getElem_toArray, List.getElem_cons_succ, List.getElem_cons_zero]
      exact e_load_part 24 _ (by rfl) (g123) 0 (by rfl) 24 (irow .u8 A) (0, 0) (irow .u8 A) _ (hS_.1) (all_rowe _) Tryd.underlying24 rfl (infok8 _ hA)
    simp only [Act.put, List.getElem_toArray, List.getElem_cons_succ, List.getElem_cons_zero, List.setIfInBounds_toArray, List.set_cons_succ, List.set_cons_zero]
    refine wpAnyH_take (i := 5) (v := .agg (irow .u8 E)) rfl (by kernel_rfl) (by kernel_rfl) (by kernel_rfl) (fun _ _ _ h => h) (Or.inl ⟨by rfl, ?y135⟩) (⟨rg123, rl11⟩) ?r135
    case y135 =>
      intro w_ hS_
      simp only [List.getElem_toArray, List.getElem_cons_succ, List.getElem_cons_zero]
      exact e_load_part 24 _ (by rfl) (g11) 0 (by rfl) 24 (irow .u8 E) (0, 0) (irow .u8 E) _ (hS_.2) (all_rowe _) Tryd.underlying24 rfl (infok8 _ hE)
    simp only [Act.put, List.getElem_toArray, List.getElem_cons_succ, List.getElem_cons_zero, List.setIfInBounds_toArray, List.set_cons_succ, List.set_cons_zero]
    refine eH_one (k := 2) (fuel := 5) (by kernel_rfl) rfl (by kernel_rfl) (fun K_ hK_ => ?_)
    refine wp_call_ex (f := 16) (by kernel_rfl) (ex1e (cN _ hw)) (fun v_ wq136 hX_ => ?_)
    obtain ⟨rfl, hb⟩ := hX_
    replace rp0 := keep hb rp0
    replace rp1 := keep hb rp1
    replace rl11 := keep hb rl11
    replace rg123 := keep hb rg123
    replace rq := keep hb rq
    replace hT := hT.keep hb
    replace hw := Below.after hw hb
    clear hb
    refine hK_ _ _ (⟨rg123, rl11⟩) ?_
    simp only [Act.put, List.getElem_toArray, List.getElem_cons_succ, List.getElem_cons_zero, List.setIfInBounds_toArray, List.set_cons_succ, List.set_cons_zero]
    clear hK_
    refine eH_one (k := 6) (fuel := 4) (by kernel_rfl) rfl (by kernel_rfl) (fun K_ hK_ => ?_)
    refine wp_call_ex (f := 43) (by kernel_rfl) (cX _ hw) (fun v_ wq137 hX_ => ?_)
    obtain ⟨hX_t, hb⟩ := hX_
    replace rp0 := keep hb rp0
    replace rp1 := keep hb rp1
    replace rl11 := keep hb rl11
    replace rg123 := keep hb rg123
    replace rq := keep hb rq
    replace hT := hT.keep hb
    replace hw := Below.after hw hb
    clear hb
    refine hK_ _ _ (⟨rg123, rl11⟩) ?_
    simp only [Act.put, List.getElem_toArray, List.getElem_cons_succ, List.getElem_cons_zero, List.setIfInBounds_toArray, List.set_cons_succ, List.set_cons_zero]
    clear hK_
    refine eH_one (k := 7) (fuel := 3) (by kernel_rfl) rfl (by kernel_rfl) (fun K_ hK_ => ?_)
    refine e_world_op (.slice (some ⟨wq137.heap.size, 0, none⟩) 1 1) (wq137.alloc (.cells #[v_] 22)) (e_bslT _ rfl v_ rfl hX_t _) ?_
    have hb : Below wq137.heap.size wq137 (wq137.alloc (.cells #[v_] 22)) := (Below.refl _ _).alloc (Nat.le_refl _) _
    have rg138 := hp1_0 wq137 (.cells #[v_] 22)
    have lt_g138_0 := lt_of_row rp0
    have lt_g138_1 := lt_of_row rp1
    have lt_g138_2 := lt_of_row rl11
    have lt_g138_3 := lt_of_row rg123
    have sz_g138 := hw.size
    replace rp0 := keep hb rp0
    replace rp1 := keep hb rp1
    replace rl11 := keep hb rl11
    replace rg123 := keep hb rg123
    replace rq := keep hb rq
    replace hT := hT.keep hb
    replace hX_t := hX_t.keep hb
    replace hw := Below.after hw hb
    clear hb
    refine hK_ _ _ (⟨rg123, rl11⟩) ?_
    simp only [Act.put, List.getElem_toArray, List.getElem_cons_succ, List.getElem_cons_zero, List.setIfInBounds_toArray, List.set_cons_succ, List.set_cons_zero]
    clear hK_
    generalize (wq137.alloc (.cells #[v_] 22)) = wq138 at *
    generalize wq137.heap.size = g138 at *
    refine eH_one (k := 8) (fuel := 2) (by kernel_rfl) rfl (by kernel_rfl) (fun K_ hK_ => ?_)
    refine wp_append_T _ _ rfl w.heap.size _ T rfl hT _ [X] rfl (OwnT.single (by omega) rg138 hX_t) (by simp only [List.length_singleton]; omega) hw.size (fun va_ wa139 hA_ hG_ => ?_)
    replace rp0 := (hG_.block _ (lt_of_row rp0) (own_neT hT rp0 (by decide))).trans rp0
    replace rp1 := (hG_.block _ (lt_of_row rp1) (own_neT hT rp1 (by decide))).trans rp1
    replace rl11 := (hG_.block _ (lt_of_row rl11) (own_neT hT rl11 (by decide))).trans rl11
    replace rg123 := (hG_.block _ (lt_of_row rg123) (own_neT hT rg123 (by decide))).trans rg123
    replace rq := (hG_.block pg (Nat.lt_of_lt_of_le lpg hw.size) (fun e => by have := (hT.lt pg e.symm).1; omega)).trans rq
    replace hw := hw.grown hG_ hw.size (fun k e => (hT.lt k e).1)
    clear hT hX_t rg138
    have hT := hA_
    clear hA_ hG_
    refine hK_ _ _ (⟨rg123, rl11⟩) ?_
    simp only [Act.put, List.getElem_toArray, List.getElem_cons_succ, List.getElem_cons_zero, List.setIfInBounds_toArray, List.set_cons_succ, List.set_cons_zero]
    clear hK_
    refine eH_one (k := 9) (fuel := 1) (by kernel_rfl) rfl (by kernel_rfl) (fun K_ hK_ => ?_)
    refine wp_store_row 24 _ _ rfl (w.heap.size + 1) (irow .u8 R) rfl rfl 24 _ rp1 (infok8 _ hR) (((irow_size _ _).trans (zr_len 32)).trans ((irow_size _ _).trans hR).symm) (irow_one8 _) ?_
    have hN_ := setRow_heap wa139 (w.heap.size + 1) _ (irow .u8 R) _ _ rp1
    replace rp0 := (setRow_other wa139 (w.heap.size + 1) (w.heap.size) (irow .u8 R) (by omega)).trans rp0
    replace rl11 := (setRow_other wa139 (w.heap.size + 1) (g11) (irow .u8 R) (by omega)).trans rl11
    replace rg123 := (setRow_other wa139 (w.heap.size + 1) (g123) (irow .u8 R) (by omega)).trans rg123
    replace hw := below_setRow hw (show w.heap.size ≤ w.heap.size + 1 by omega) (irow .u8 R)
    replace rq := (setRow_other wa139 (w.heap.size + 1) pg (irow .u8 R) (by omega)).trans rq
    replace hT := hT.set (irow .u8 R) rp1 (by decide) (by decide)
    generalize (wa139.setRow (w.heap.size + 1) (irow .u8 R)) = wq140 at *
    clear rp1
    have rp1 := hN_
    clear hN_
    refine hK_ _ _ (⟨rg123, rl11⟩) ?_
    simp only [Act.put]
    clear hK_
    refine wpAnyH_take (i := 10) (v := ?v141) rfl (by kernel_rfl) (by kernel_rfl) (by kernel_rfl) (fun _ _ _ h => h) (Or.inl ⟨by rfl, ?y141⟩) (⟨rg123, rl11⟩) ?r141
    case y141 =>
      intro w_ hS_
      go_simp
      try with_reducible rfl
    simp only [Act.put, List.getElem_toArray, List.getElem_cons_succ, List.getElem_cons_zero, List.setIfInBounds_toArray, List.set_cons_succ, List.set_cons_zero]
    refine wpAnyH_done (by kernel_rfl) ?_ _
    refine NoPanic.normal ?_
    go_wp2_with (fail)
    exact bodyPost_ret (v := .tuple #[.agg (irow .u8 R), _]) (results_row_slot Tryd.results36 _ _ (w.heap.size + 1) _ (irow .u8 R) _ _ _ rfl rp1 rfl Tryd.underlying24 rfl (infok8 _ hR)) rfl ⟨_, rfl, _, rfl, hT, hw⟩
set_option maxRecDepth 100000 in
set_option maxHeartbeats 8000000 in
theorem r_madehi {x A E R X : List Int} {T : List (List Int)} (hX : x.length = 32) (hA : A.length = 32) (hE : E.length = 32) (hR : R.length = 32) (hTl : T.length ≤ 900000) (w : World) (n k i m : Nat) (hn : 2 ≤ n) (_hm : n ≤ 4398046511000) (_hk : k < n) (hi : ¬ i < k) (_hin : i < n) (hml : m ≤ 4398046511000) (pg po pc : Nat) (pcs : Array Value) (pt : TypeId) (pf : Nat × Nat) (hpg : w.heap[pg]? = some (.cells pcs pt pf)) (hmc : m + 1 ≤ pc) (hx : pcs.extract (po + m * 32) (po + m * 32 + (irow .u8 E).size) = irow .u8 E) (cC : Gives 45 #[.int .i64 (n : Int)] (.int .i64 (k : Int))) (cP : (∀ W, Below w.heap.size w W → Calls Tryd.prog 36 #[.int .i64 ((n : Int) - (k : Int)), .int .i64 ((i : Int) - (k : Int)), .agg (irow .u8 x), .slice (some ⟨pg, po, none⟩) m pc] W fun e w' => ∃ v, e = .returned v ∧ ∃ vt, v = .tuple #[.agg (irow .u8 A), vt] ∧ OwnT w' W.heap.size vt T ∧ Below W.heap.size W w')) (cN : (∀ W, Below w.heap.size w W → Calls Tryd.prog 16 #[.agg (irow .u8 E), .agg (irow .u8 A)] W fun e w' => e = .returned (.agg (irow .u8 R)) ∧ Below W.heap.size W w')) (cX : (∀ W, Below w.heap.size w W → Calls Tryd.prog 43 #[.agg (irow .u8 E), .agg (irow .u8 A)] W fun e w' => ∃ v, e = .returned v ∧ OwnI w' w.heap.size v X ∧ Below W.heap.size W w')) : Calls Tryd.prog 36 #[.int .i64 (n : Int), .int .i64 (i : Int), .agg (irow .u8 x), .slice (some ⟨pg, po, none⟩) (m + 1) pc] w fun e w' => ∃ v, e = .returned v ∧ ∃ vt, v = .tuple #[.agg (irow .u8 R), vt] ∧ OwnT w' w.heap.size vt (T ++ [X]) ∧ Below w.heap.size w w' := by
  have d1 : decide ((n : Int) = 1) = false := by simp; omega
  have d2 : decide ((i : Int) < (k : Int)) = false := by simp; omega
  have jm : (m : Int) < (m : Int) + 1 := by omega
  have qm : IntKind.i64.wrap (m : Int) = (m : Int) := by rw [IntKind.wrap_i64]; omega
  have q1 : IntKind.i64.wrap ((n : Int) - (k : Int)) = (n : Int) - (k : Int) := by rw [IntKind.wrap_i64]; omega
  have q2 : IntKind.i64.wrap ((i : Int) - (k : Int)) = (i : Int) - (k : Int) := by rw [IntKind.wrap_i64]; omega
  have rp0 := hp2_0 w (.cells (irow .u8 x) 24) (.cells (irow .u8 (zr 32)) 24)
  have rp1 := hp2_1 w (.cells (irow .u8 x) 24) (.cells (irow .u8 (zr 32)) 24)
  have hw : Below w.heap.size w ((w.alloc (.cells (irow .u8 x) 24)).alloc (.cells (irow .u8 (zr 32)) 24)) := (((Below.refl _ _).alloc (Nat.le_refl _) _).alloc (by simp) _)
  go_enter Tryd.func36, Tryd.ntmps36
  iterate 9 go_step
  try rw [zk32]
  generalize ((w.alloc (.cells (irow .u8 x) 24)).alloc (.cells (irow .u8 (zr 32)) 24)) = w0 at *
  have rq := keep hw hpg
  have lpg := lt_of_row hpg
  go_wp2_with (fail)
  refine (cC.at _).mono ?_
  rintro e_ w1 ⟨rfl, hb⟩
  replace rp0 := keep hb rp0
  replace rp1 := keep hb rp1
  replace rq := keep hb rq
  replace hw := Below.after hw hb
  clear hb
  clear cC
  go_wp2_with (first | (refine wpList_store_row rfl 24 _ _ rfl (w1.heap.size) (irow .u8 E) rfl rfl 24 (irow .u8 (zr 32)) (hp1_0 w1 _) (infok8 _ hE) (((irow_size _ _).trans (zr_len 32)).trans ((irow_size _ _).trans hE).symm) (irow_one8 _) ?_; rw [setRow_alloc_new _ _ _ _ _ _ (by simp)]; refine wpList_stay ?_) | (refine wpList_load_part rfl 24 _ rfl pg (po + m * 32) rfl pt pcs pf (irow .u8 E) _ rq hx Tryd.underlying24 rfl (infok8 _ hE) ?_) | fail)
  unfold WpStay
  try simp only [Act.put]
  have rl11 : (w1.alloc (.cells (irow .u8 E) 24)).heap[w1.heap.size]? = some (.cells (irow .u8 E) 24 (0, 0)) := hp1_0 w1 _
  have hb : Below w1.heap.size w1 (w1.alloc (.cells (irow .u8 E) 24)) := ((Below.refl _ _).alloc (Nat.le_refl _) _)
  generalize (w1.alloc (.cells (irow .u8 E) 24)) = w2 at *
  have lt_g11_0 := lt_of_row rp0
  have lt_g11_1 := lt_of_row rp1
  have sz_g11 := hw.size
  replace rp0 := keep hb rp0
  replace rp1 := keep hb rp1
  replace rq := keep hb rq
  replace hw := Below.after hw hb
  clear hb
  generalize w1.heap.size = g11 at *
  clear w1
  go_wp2_with (fail)
  have hb : Below w2.heap.size w2 w2.drew := below_drN (Below.refl _ _) 1
  replace rp0 := keep hb rp0
  replace rp1 := keep hb rp1
  replace rl11 := keep hb rl11
  replace rq := keep hb rq
  replace hw := Below.after hw hb
  clear hb
  refine wp_region_noPanic ?_
  refine wp_region_held (S := fun W_ => W_.heap[w.heap.size]? = some (.cells (irow .u8 x) 24 (0, 0))) (by kernel_rfl) ?_
  change wpAnyH _ _ _ _ _ _ _ _ (World.drew _)
  generalize w2.drew = wd142 at *
  refine wpAnyH_take (i := 0) (v := ?v143) rfl (by kernel_rfl) (by kernel_rfl) (by kernel_rfl) (fun _ _ _ h => h) (Or.inl ⟨by rfl, ?y143⟩) (rp0) ?r143
  case y143 =>
    intro w_ hS_
    go_simp
    try with_reducible rfl
  simp only [Act.put, List.getElem_toArray, List.getElem_cons_zero, List.setIfInBounds_toArray, List.set_cons_succ, List.set_cons_zero]
  refine wpAnyH_take (i := 1) (v := ?v144) rfl (by kernel_rfl) (by kernel_rfl) (by kernel_rfl) (fun _ _ _ h => h) (Or.inl ⟨by rfl, ?y144⟩) (rp0) ?r144
  case y144 =>
    intro w_ hS_
    go_simp
    try with_reducible rfl
  simp only [Act.put, List.getElem_toArray, List.getElem_cons_succ, List.getElem_cons_zero, List.setIfInBounds_toArray, List.set_cons_succ, List.set_cons_zero]
  refine wpAnyH_take (i := 2) (v := .int .i64 ((n : Int) - (k : Int))) rfl (by kernel_rfl) (by kernel_rfl) (by kernel_rfl) (fun _ _ _ h => h) (Or.inl ⟨by rfl, ?y145⟩) (rp0) ?r145
  case y145 =>
    intro w_ hS_
    first | (go_simp; done) | (go_simp; exact q1)
  simp only [Act.put, List.getElem_toArray, List.getElem_cons_succ, List.getElem_cons_zero, List.setIfInBounds_toArray, List.set_cons_succ, List.set_cons_zero]
  refine wpAnyH_take (i := 3) (v := ?v146) rfl (by kernel_rfl) (by kernel_rfl) (by kernel_rfl) (fun _ _ _ h => h) (Or.inl ⟨by rfl, ?y146⟩) (rp0) ?r146
  case y146 =>
    intro w_ hS_
    go_simp
    try with_reducible rfl
  simp only [Act.put, List.getElem_toArray, List.getElem_cons_succ, List.getElem_cons_zero, List.setIfInBounds_toArray, List.set_cons_succ, List.set_cons_zero]
  refine wpAnyH_take (i := 4) (v := ?v147) rfl (by kernel_rfl) (by kernel_rfl) (by kernel_rfl) (fun _ _ _ h => h) (Or.inl ⟨by rfl, ?y147⟩) (rp0) ?r147
  case y147 =>
    intro w_ hS_
    go_simp
    try with_reducible rfl
  simp only [Act.put, List.getElem_toArray, List.getElem_cons_succ, List.getElem_cons_zero, List.setIfInBounds_toArray, List.set_cons_succ, List.set_cons_zero]
  refine wpAnyH_take (i := 5) (v := .int .i64 ((i : Int) - (k : Int))) rfl (by kernel_rfl) (by kernel_rfl) (by kernel_rfl) (fun _ _ _ h => h) (Or.inl ⟨by rfl, ?y148⟩) (rp0) ?r148
  case y148 =>
    intro w_ hS_
    first | (go_simp; done) | (go_simp; exact q2)
  simp only [Act.put, List.getElem_toArray, List.getElem_cons_succ, List.getElem_cons_zero, List.setIfInBounds_toArray, List.set_cons_succ, List.set_cons_zero]
  refine wpAnyH_take (i := 6) (v := .agg (irow .u8 x)) rfl (by kernel_rfl) (by kernel_rfl) (by kernel_rfl) (fun _ _ _ h => h) (Or.inl ⟨by rfl, ?y149⟩) (rp0) ?r149
  case y149 =>
    intro w_ hS_
    simp only [List.getElem_toArray, List.getElem_cons_succ, List.getElem_cons_zero]
    exact e_load_part 24 _ (by rfl) (w.heap.size) 0 (by rfl) 24 (irow .u8 x) (0, 0) (irow .u8 x) _ (hS_) (all_rowe _) Tryd.underlying24 rfl (infok8 _ hX)
  simp only [Act.put, List.getElem_toArray, List.getElem_cons_succ, List.getElem_cons_zero, List.setIfInBounds_toArray, List.set_cons_succ, List.set_cons_zero]
  refine wpAnyH_take (i := 7) (v := ?v150) rfl (by kernel_rfl) (by kernel_rfl) (by kernel_rfl) (fun _ _ _ h => h) (Or.inl ⟨by rfl, ?y150⟩) (rp0) ?r150
  case y150 =>
    intro w_ hS_
    go_simp
    try with_reducible rfl
  simp only [Act.put, List.getElem_toArray, List.getElem_cons_succ, List.getElem_cons_zero, List.setIfInBounds_toArray, List.set_cons_succ, List.set_cons_zero]
  refine wpAnyH_take (i := 8) (v := ?v151) rfl (by kernel_rfl) (by kernel_rfl) (by kernel_rfl) (fun _ _ _ h => h) (Or.inl ⟨by rfl, ?y151⟩) (rp0) ?r151
  case y151 =>
    intro w_ hS_
    go_simp
    try with_reducible rfl
  simp only [Act.put, List.getElem_toArray, List.getElem_cons_succ, List.getElem_cons_zero, List.setIfInBounds_toArray, List.set_cons_succ, List.set_cons_zero]
  refine wpAnyH_take (i := 9) (v := ?v152) rfl (by kernel_rfl) (by kernel_rfl) (by kernel_rfl) (fun _ _ _ h => h) (Or.inl ⟨by rfl, ?y152⟩) (rp0) ?r152
  case y152 =>
    intro w_ hS_
    go_simp
    try with_reducible rfl
  simp only [Act.put, List.getElem_toArray, List.getElem_cons_succ, List.getElem_cons_zero, List.setIfInBounds_toArray, List.set_cons_succ, List.set_cons_zero]
  refine wpAnyH_take (i := 10) (v := ?v153) rfl (by kernel_rfl) (by kernel_rfl) (by kernel_rfl) (fun _ _ _ h => h) (Or.inl ⟨by rfl, ?y153⟩) (rp0) ?r153
  case y153 =>
    intro w_ hS_
    go_simp
    try with_reducible rfl
  simp only [Act.put, List.getElem_toArray, List.getElem_cons_succ, List.getElem_cons_zero, List.setIfInBounds_toArray, List.set_cons_succ, List.set_cons_zero]
  refine wpAnyH_take (i := 11) (v := .slice (some ⟨pg, po, none⟩) m pc) rfl (by kernel_rfl) (by kernel_rfl) (by kernel_rfl) (fun _ _ _ h => h) (Or.inl ⟨by rfl, ?y154⟩) (rp0) ?r154
  case y154 =>
    intro w_ hS_
    simp only [List.getElem_toArray, List.getElem_cons_succ, List.getElem_cons_zero]
    exact e_slice _ _ _ _ rfl _ (slk_head _ _ _ m (by omega) (by intro e; cases e) _)
  simp only [Act.put, List.getElem_toArray, List.getElem_cons_succ, List.getElem_cons_zero, List.setIfInBounds_toArray, List.set_cons_succ, List.set_cons_zero]
  refine eH_two (j := 12) (k := 16) (fuel := 6) (by kernel_rfl) rfl rfl (by kernel_rfl) (by kernel_rfl) (fun K_ hK_ => ?_) (fun K_ hK_ => ?_)
  · skip
    have hsr := hw.size
    refine wp_call_ex (f := 36) (by kernel_rfl) (cP _ hw) (fun v_ wq155 hX_ => ?_)
    obtain ⟨vt, rfl, hT, hb⟩ := hX_
    replace rp0 := keep hb rp0
    replace rp1 := keep hb rp1
    replace rl11 := keep hb rl11
    replace rq := keep hb rq
    replace hw := Below.after hw hb
    clear hb
    refine hK_ _ _ (rp0) ?_
    simp only [Act.put, List.getElem_toArray, List.getElem_cons_succ, List.getElem_cons_zero, List.setIfInBounds_toArray, List.set_cons_succ, List.set_cons_zero]
    clear hK_
    replace hT := hT.down hsr
    refine wpAnyH_take (i := 13) (v := ?v156) rfl (by kernel_rfl) (by kernel_rfl) (by kernel_rfl) (fun _ _ _ h => h) (Or.inl ⟨by rfl, ?y156⟩) (rp0) ?r156
    case y156 =>
      intro w_ hS_
      go_simp
      try with_reducible rfl
    simp only [Act.put, List.getElem_toArray, List.getElem_cons_succ, List.getElem_cons_zero, List.setIfInBounds_toArray, List.set_cons_succ, List.set_cons_zero]
    refine wpAnyH_take (i := 14) (v := ?v157) rfl (by kernel_rfl) (by kernel_rfl) (by kernel_rfl) (fun _ _ _ h => h) (Or.inl ⟨by rfl, ?y157⟩) (rp0) ?r157
    case y157 =>
      intro w_ hS_
      go_simp
      try with_reducible rfl
    simp only [Act.put, List.getElem_toArray, List.getElem_cons_succ, List.getElem_cons_zero, List.setIfInBounds_toArray, List.set_cons_succ, List.set_cons_zero]
    refine wpAnyH_take (i := 15) (v := ?v158) rfl (by kernel_rfl) (by kernel_rfl) (by kernel_rfl) (fun _ _ _ h => h) (Or.inl ⟨by rfl, ?y158⟩) (rp0) ?r158
    case y158 =>
      intro w_ hS_
      go_simp
      try with_reducible rfl
    simp only [Act.put, List.getElem_toArray, List.getElem_cons_succ, List.getElem_cons_zero, List.setIfInBounds_toArray, List.set_cons_succ, List.set_cons_zero]
    refine eH_one (k := 16) (fuel := 2) (by kernel_rfl) rfl (by kernel_rfl) (fun K_ hK_ => ?_)
    refine e_world_op (.pointer (some ⟨wq155.heap.size, 0, none⟩)) (wq155.alloc (.cells (irow .u8 (zr 32)) 24)) (by kernel_rfl) ?_
    have hb : Below wq155.heap.size wq155 (wq155.alloc (.cells (irow .u8 (zr 32)) 24)) := (Below.refl _ _).alloc (Nat.le_refl _) _
    have rg159 := hp1_0 wq155 (.cells (irow .u8 (zr 32)) 24)
    have lt_g159_0 := lt_of_row rp0
    have lt_g159_1 := lt_of_row rp1
    have lt_g159_2 := lt_of_row rl11
    have sz_g159 := hw.size
    replace rp0 := keep hb rp0
    replace rp1 := keep hb rp1
    replace rl11 := keep hb rl11
    replace rq := keep hb rq
    replace hT := hT.keep hb
    replace hw := Below.after hw hb
    clear hb
    refine hK_ _ _ (rp0) ?_
    simp only [Act.put, List.getElem_toArray, List.getElem_cons_succ, List.getElem_cons_zero, List.setIfInBounds_toArray, List.set_cons_succ, List.set_cons_zero]
    clear hK_
    generalize (wq155.alloc (.cells (irow .u8 (zr 32)) 24)) = wq159 at *
    generalize wq155.heap.size = g159 at *
    refine eH_one (k := 17) (fuel := 1) (by kernel_rfl) rfl (by kernel_rfl) (fun K_ hK_ => ?_)
    refine wp_store_row 24 _ _ rfl (g159) (irow .u8 A) rfl rfl 24 _ rg159 (infok8 _ hA) (((irow_size _ _).trans (zr_len 32)).trans ((irow_size _ _).trans hA).symm) (irow_one8 _) ?_
    have hN_ := setRow_heap wq159 (g159) _ (irow .u8 A) _ _ rg159
    replace rp0 := (setRow_other wq159 (g159) (w.heap.size) (irow .u8 A) (by omega)).trans rp0
    replace rp1 := (setRow_other wq159 (g159) (w.heap.size + 1) (irow .u8 A) (by omega)).trans rp1
    replace rl11 := (setRow_other wq159 (g159) (g11) (irow .u8 A) (by omega)).trans rl11
    replace hw := below_setRow hw (show w.heap.size ≤ g159 by omega) (irow .u8 A)
    replace rq := (setRow_other wq159 (g159) pg (irow .u8 A) (by omega)).trans rq
    replace hT := hT.set (irow .u8 A) rg159 (by decide) (by decide)
    generalize (wq159.setRow (g159) (irow .u8 A)) = wq160 at *
    clear rg159
    have rg159 := hN_
    clear hN_
    refine hK_ _ _ (rp0) ?_
    simp only [Act.put]
    clear hK_
    refine wpAnyH_take (i := 18) (v := ?v161) rfl (by kernel_rfl) (by kernel_rfl) (by kernel_rfl) (fun _ _ _ h => h) (Or.inl ⟨by rfl, ?y161⟩) (rp0) ?r161
    case y161 =>
      intro w_ hS_
      go_simp
      try with_reducible rfl
    simp only [Act.put, List.getElem_toArray, List.getElem_cons_succ, List.getElem_cons_zero, List.setIfInBounds_toArray, List.set_cons_succ, List.set_cons_zero]
    refine wpAnyH_done (by kernel_rfl) ?_ _
    refine NoPanic.normal ?_
    go_wp2_with (fail)
    have hb : Below wq160.heap.size wq160 wq160.drew := below_drN (Below.refl _ _) 1
    replace rp0 := keep hb rp0
    replace rp1 := keep hb rp1
    replace rl11 := keep hb rl11
    replace rg159 := keep hb rg159
    replace rq := keep hb rq
    replace hT := hT.keep hb
    replace hw := Below.after hw hb
    clear hb
    refine wp_region_noPanic ?_
    refine wp_region_held (S := fun W_ => W_.heap[g159]? = some (.cells (irow .u8 A) 24 (0, 0)) ∧ W_.heap[g11]? = some (.cells (irow .u8 E) 24 (0, 0))) (by kernel_rfl) ?_
    change wpAnyH _ _ _ _ _ _ _ _ (World.drew _)
    generalize wq160.drew = wd162 at *
    refine wpAnyH_take (i := 0) (v := .agg (irow .u8 E)) rfl (by kernel_rfl) (by kernel_rfl) (by kernel_rfl) (fun _ _ _ h => h) (Or.inl ⟨by rfl, ?y163⟩) (⟨rg159, rl11⟩) ?r163
    case y163 =>
      intro w_ hS_
      simp only [List.getElem_toArray, List.getElem_cons_zero]
      exact e_load_part 24 _ (by rfl) (g11) 0 (by rfl) 24 (irow .u8 E) (0, 0) (irow .u8 E) _ (hS_.2) (all_rowe _) Tryd.underlying24 rfl (infok8 _ hE)
    simp only [Act.put, List.getElem_toArray, List.getElem_cons_zero, List.setIfInBounds_toArray, List.set_cons_succ, List.set_cons_zero]
    refine wpAnyH_take (i := 1) (v := .agg (irow .u8 A)) rfl (by kernel_rfl) (by kernel_rfl) (by kernel_rfl) (fun _ _ _ h => h) (Or.inl ⟨by rfl, ?y164⟩) (⟨rg159, rl11⟩) ?r164
    case y164 =>
      intro w_ hS_
      simp only [List.getElem_toArray, List.getElem_cons_succ, List.getElem_cons_zero]
      exact e_load_part 24 _ (by rfl) (g159) 0 (by rfl) 24 (irow .u8 A) (0, 0) (irow .u8 A) _ (hS_.1) (all_rowe _) Tryd.underlying24 rfl (infok8 _ hA)
    simp only [Act.put, List.getElem_toArray, List.getElem_cons_succ, List.getElem_cons_zero, List.setIfInBounds_toArray, List.set_cons_succ, List.set_cons_zero]
    refine wpAnyH_take (i := 3) (v := ?v165) rfl (by kernel_rfl) (by kernel_rfl) (by kernel_rfl) (fun _ _ _ h => h) (Or.inl ⟨by rfl, ?y165⟩) (⟨rg159, rl11⟩) ?r165
    case y165 =>
      intro w_ hS_
      go_simp
      try with_reducible rfl
    simp only [Act.put, List.getElem_toArray, List.getElem_cons_succ, List.getElem_cons_zero, List.setIfInBounds_toArray, List.set_cons_succ, List.set_cons_zero]
    refine wpAnyH_take (i := 4) (v := .agg (irow .u8 E)) rfl (by kernel_rfl) (by kernel_rfl) (by kernel_rfl) (fun _ _ _ h => h) (Or.inl ⟨by rfl, ?y166⟩) (⟨rg159, rl11⟩) ?r166
    case y166 =>
      intro w_ hS_
      simp only [List.getElem_toArray, List.getElem_cons_succ, List.getElem_cons_zero]
      exact e_load_part 24 _ (by rfl) (g11) 0 (by rfl) 24 (irow .u8 E) (0, 0) (irow .u8 E) _ (hS_.2) (all_rowe _) Tryd.underlying24 rfl (infok8 _ hE)
    simp only [Act.put, List.getElem_toArray, List.getElem_cons_succ, List.getElem_cons_zero, List.setIfInBounds_toArray, List.set_cons_succ, List.set_cons_zero]
    refine wpAnyH_take (i := 5) (v := .agg (irow .u8 A)) rfl (by kernel_rfl) (by kernel_rfl) (by kernel_rfl) (fun _ _ _ h => h) (Or.inl ⟨by rfl, ?y167⟩) (⟨rg159, rl11⟩) ?r167
    case y167 =>
      intro w_ hS_
      simp only [List.getElem_toArray, List.getElem_cons_succ, List.getElem_cons_zero]
      exact e_load_part 24 _ (by rfl) (g159) 0 (by rfl) 24 (irow .u8 A) (0, 0) (irow .u8 A) _ (hS_.1) (all_rowe _) Tryd.underlying24 rfl (infok8 _ hA)
    simp only [Act.put, List.getElem_toArray, List.getElem_cons_succ, List.getElem_cons_zero, List.setIfInBounds_toArray, List.set_cons_succ, List.set_cons_zero]
    refine eH_one (k := 2) (fuel := 5) (by kernel_rfl) rfl (by kernel_rfl) (fun K_ hK_ => ?_)
    refine wp_call_ex (f := 16) (by kernel_rfl) (ex1e (cN _ hw)) (fun v_ wq168 hX_ => ?_)
    obtain ⟨rfl, hb⟩ := hX_
    replace rp0 := keep hb rp0
    replace rp1 := keep hb rp1
    replace rl11 := keep hb rl11
    replace rg159 := keep hb rg159
    replace rq := keep hb rq
    replace hT := hT.keep hb
    replace hw := Below.after hw hb
    clear hb
    refine hK_ _ _ (⟨rg159, rl11⟩) ?_
    simp only [Act.put, List.getElem_toArray, List.getElem_cons_succ, List.getElem_cons_zero, List.setIfInBounds_toArray, List.set_cons_succ, List.set_cons_zero]
    clear hK_
    refine eH_one (k := 6) (fuel := 4) (by kernel_rfl) rfl (by kernel_rfl) (fun K_ hK_ => ?_)
    refine wp_call_ex (f := 43) (by kernel_rfl) (cX _ hw) (fun v_ wq169 hX_ => ?_)
    obtain ⟨hX_t, hb⟩ := hX_
    replace rp0 := keep hb rp0
    replace rp1 := keep hb rp1
    replace rl11 := keep hb rl11
    replace rg159 := keep hb rg159
    replace rq := keep hb rq
    replace hT := hT.keep hb
    replace hw := Below.after hw hb
    clear hb
    refine hK_ _ _ (⟨rg159, rl11⟩) ?_
    simp only [Act.put, List.getElem_toArray, List.getElem_cons_succ, List.getElem_cons_zero, List.setIfInBounds_toArray, List.set_cons_succ, List.set_cons_zero]
    clear hK_
    refine eH_one (k := 7) (fuel := 3) (by kernel_rfl) rfl (by kernel_rfl) (fun K_ hK_ => ?_)
    refine e_world_op (.slice (some ⟨wq169.heap.size, 0, none⟩) 1 1) (wq169.alloc (.cells #[v_] 22)) (e_bslT _ rfl v_ rfl hX_t _) ?_
    have hb : Below wq169.heap.size wq169 (wq169.alloc (.cells #[v_] 22)) := (Below.refl _ _).alloc (Nat.le_refl _) _
    have rg170 := hp1_0 wq169 (.cells #[v_] 22)
    have lt_g170_0 := lt_of_row rp0
    have lt_g170_1 := lt_of_row rp1
    have lt_g170_2 := lt_of_row rl11
    have lt_g170_3 := lt_of_row rg159
    have sz_g170 := hw.size
    replace rp0 := keep hb rp0
    replace rp1 := keep hb rp1
    replace rl11 := keep hb rl11
    replace rg159 := keep hb rg159
    replace rq := keep hb rq
    replace hT := hT.keep hb
    replace hX_t := hX_t.keep hb
    replace hw := Below.after hw hb
    clear hb
    refine hK_ _ _ (⟨rg159, rl11⟩) ?_
    simp only [Act.put, List.getElem_toArray, List.getElem_cons_succ, List.getElem_cons_zero, List.setIfInBounds_toArray, List.set_cons_succ, List.set_cons_zero]
    clear hK_
    generalize (wq169.alloc (.cells #[v_] 22)) = wq170 at *
    generalize wq169.heap.size = g170 at *
    refine eH_one (k := 8) (fuel := 2) (by kernel_rfl) rfl (by kernel_rfl) (fun K_ hK_ => ?_)
    refine wp_append_T _ _ rfl w.heap.size _ T rfl hT _ [X] rfl (OwnT.single (by omega) rg170 hX_t) (by simp only [List.length_singleton]; omega) hw.size (fun va_ wa171 hA_ hG_ => ?_)
    replace rp0 := (hG_.block _ (lt_of_row rp0) (own_neT hT rp0 (by decide))).trans rp0
    replace rp1 := (hG_.block _ (lt_of_row rp1) (own_neT hT rp1 (by decide))).trans rp1
    replace rl11 := (hG_.block _ (lt_of_row rl11) (own_neT hT rl11 (by decide))).trans rl11
    replace rg159 := (hG_.block _ (lt_of_row rg159) (own_neT hT rg159 (by decide))).trans rg159
    replace rq := (hG_.block pg (Nat.lt_of_lt_of_le lpg hw.size) (fun e => by have := (hT.lt pg e.symm).1; omega)).trans rq
    replace hw := hw.grown hG_ hw.size (fun k e => (hT.lt k e).1)
    clear hT hX_t rg170
    have hT := hA_
    clear hA_ hG_
    refine hK_ _ _ (⟨rg159, rl11⟩) ?_
    simp only [Act.put, List.getElem_toArray, List.getElem_cons_succ, List.getElem_cons_zero, List.setIfInBounds_toArray, List.set_cons_succ, List.set_cons_zero]
    clear hK_
    refine eH_one (k := 9) (fuel := 1) (by kernel_rfl) rfl (by kernel_rfl) (fun K_ hK_ => ?_)
    refine wp_store_row 24 _ _ rfl (w.heap.size + 1) (irow .u8 R) rfl rfl 24 _ rp1 (infok8 _ hR) (((irow_size _ _).trans (zr_len 32)).trans ((irow_size _ _).trans hR).symm) (irow_one8 _) ?_
    have hN_ := setRow_heap wa171 (w.heap.size + 1) _ (irow .u8 R) _ _ rp1
    replace rp0 := (setRow_other wa171 (w.heap.size + 1) (w.heap.size) (irow .u8 R) (by omega)).trans rp0
    replace rl11 := (setRow_other wa171 (w.heap.size + 1) (g11) (irow .u8 R) (by omega)).trans rl11
    replace rg159 := (setRow_other wa171 (w.heap.size + 1) (g159) (irow .u8 R) (by omega)).trans rg159
    replace hw := below_setRow hw (show w.heap.size ≤ w.heap.size + 1 by omega) (irow .u8 R)
    replace rq := (setRow_other wa171 (w.heap.size + 1) pg (irow .u8 R) (by omega)).trans rq
    replace hT := hT.set (irow .u8 R) rp1 (by decide) (by decide)
    generalize (wa171.setRow (w.heap.size + 1) (irow .u8 R)) = wq172 at *
    clear rp1
    have rp1 := hN_
    clear hN_
    refine hK_ _ _ (⟨rg159, rl11⟩) ?_
    simp only [Act.put]
    clear hK_
    refine wpAnyH_take (i := 10) (v := ?v173) rfl (by kernel_rfl) (by kernel_rfl) (by kernel_rfl) (fun _ _ _ h => h) (Or.inl ⟨by rfl, ?y173⟩) (⟨rg159, rl11⟩) ?r173
    case y173 =>
      intro w_ hS_
      go_simp
      try with_reducible rfl
    simp only [Act.put, List.getElem_toArray, List.getElem_cons_succ, List.getElem_cons_zero, List.setIfInBounds_toArray, List.set_cons_succ, List.set_cons_zero]
    refine wpAnyH_done (by kernel_rfl) ?_ _
    refine NoPanic.normal ?_
    go_wp2_with (fail)
    exact bodyPost_ret (v := .tuple #[.agg (irow .u8 R), _]) (results_row_slot Tryd.results36 _ _ (w.heap.size + 1) _ (irow .u8 R) _ _ _ rfl rp1 rfl Tryd.underlying24 rfl (infok8 _ hR)) rfl ⟨_, rfl, _, rfl, hT, hw⟩
  · skip
    refine e_world_op (.pointer (some ⟨wd142.heap.size, 0, none⟩)) (wd142.alloc (.cells (irow .u8 (zr 32)) 24)) (by kernel_rfl) ?_
    have hb : Below wd142.heap.size wd142 (wd142.alloc (.cells (irow .u8 (zr 32)) 24)) := (Below.refl _ _).alloc (Nat.le_refl _) _
    have rg174 := hp1_0 wd142 (.cells (irow .u8 (zr 32)) 24)
    have lt_g174_0 := lt_of_row rp0
    have lt_g174_1 := lt_of_row rp1
    have lt_g174_2 := lt_of_row rl11
    have sz_g174 := hw.size
    replace rp0 := keep hb rp0
    replace rp1 := keep hb rp1
    replace rl11 := keep hb rl11
    replace rq := keep hb rq
    replace hw := Below.after hw hb
    clear hb
    refine hK_ _ _ (rp0) ?_
    simp only [Act.put, List.getElem_toArray, List.getElem_cons_succ, List.getElem_cons_zero, List.setIfInBounds_toArray, List.set_cons_succ, List.set_cons_zero]
    clear hK_
    generalize (wd142.alloc (.cells (irow .u8 (zr 32)) 24)) = wq174 at *
    generalize wd142.heap.size = g174 at *
    refine eH_one (k := 12) (fuel := 5) (by kernel_rfl) rfl (by kernel_rfl) (fun K_ hK_ => ?_)
    have hsr := hw.size
    refine wp_call_ex (f := 36) (by kernel_rfl) (cP _ hw) (fun v_ wq175 hX_ => ?_)
    obtain ⟨vt, rfl, hT, hb⟩ := hX_
    replace rp0 := keep hb rp0
    replace rp1 := keep hb rp1
    replace rl11 := keep hb rl11
    replace rg174 := keep hb rg174
    replace rq := keep hb rq
    replace hw := Below.after hw hb
    clear hb
    refine hK_ _ _ (rp0) ?_
    simp only [Act.put, List.getElem_toArray, List.getElem_cons_succ, List.getElem_cons_zero, List.setIfInBounds_toArray, List.set_cons_succ, List.set_cons_zero]
    clear hK_
    replace hT := hT.down hsr
    refine wpAnyH_take (i := 13) (v := ?v176) rfl (by kernel_rfl) (by kernel_rfl) (by kernel_rfl) (fun _ _ _ h => h) (Or.inl ⟨by rfl, ?y176⟩) (rp0) ?r176
    case y176 =>
      intro w_ hS_
      go_simp
      try with_reducible rfl
    simp only [Act.put, List.getElem_toArray, List.getElem_cons_succ, List.getElem_cons_zero, List.setIfInBounds_toArray, List.set_cons_succ, List.set_cons_zero]
    refine wpAnyH_take (i := 14) (v := ?v177) rfl (by kernel_rfl) (by kernel_rfl) (by kernel_rfl) (fun _ _ _ h => h) (Or.inl ⟨by rfl, ?y177⟩) (rp0) ?r177
    case y177 =>
      intro w_ hS_
      go_simp
      try with_reducible rfl
    simp only [Act.put, List.getElem_toArray, List.getElem_cons_succ, List.getElem_cons_zero, List.setIfInBounds_toArray, List.set_cons_succ, List.set_cons_zero]
    refine wpAnyH_take (i := 15) (v := ?v178) rfl (by kernel_rfl) (by kernel_rfl) (by kernel_rfl) (fun _ _ _ h => h) (Or.inl ⟨by rfl, ?y178⟩) (rp0) ?r178
    case y178 =>
      intro w_ hS_
      go_simp
      try with_reducible rfl
    simp only [Act.put, List.getElem_toArray, List.getElem_cons_succ, List.getElem_cons_zero, List.setIfInBounds_toArray, List.set_cons_succ, List.set_cons_zero]
    refine eH_one (k := 17) (fuel := 1) (by kernel_rfl) rfl (by kernel_rfl) (fun K_ hK_ => ?_)
    refine wp_store_row 24 _ _ rfl (g174) (irow .u8 A) rfl rfl 24 _ rg174 (infok8 _ hA) (((irow_size _ _).trans (zr_len 32)).trans ((irow_size _ _).trans hA).symm) (irow_one8 _) ?_
    have hN_ := setRow_heap wq175 (g174) _ (irow .u8 A) _ _ rg174
    replace rp0 := (setRow_other wq175 (g174) (w.heap.size) (irow .u8 A) (by omega)).trans rp0
    replace rp1 := (setRow_other wq175 (g174) (w.heap.size + 1) (irow .u8 A) (by omega)).trans rp1
    replace rl11 := (setRow_other wq175 (g174) (g11) (irow .u8 A) (by omega)).trans rl11
    replace hw := below_setRow hw (show w.heap.size ≤ g174 by omega) (irow .u8 A)
    replace rq := (setRow_other wq175 (g174) pg (irow .u8 A) (by omega)).trans rq
    replace hT := hT.set (irow .u8 A) rg174 (by decide) (by decide)
    generalize (wq175.setRow (g174) (irow .u8 A)) = wq179 at *
    clear rg174
    have rg174 := hN_
    clear hN_
    refine hK_ _ _ (rp0) ?_
    simp only [Act.put]
    clear hK_
    refine wpAnyH_take (i := 18) (v := ?v180) rfl (by kernel_rfl) (by kernel_rfl) (by kernel_rfl) (fun _ _ _ h => h) (Or.inl ⟨by rfl, ?y180⟩) (rp0) ?r180
    case y180 =>
      intro w_ hS_
      go_simp
      try with_reducible rfl
    simp only [Act.put, List.getElem_toArray, List.getElem_cons_succ, List.getElem_cons_zero, List.setIfInBounds_toArray, List.set_cons_succ, List.set_cons_zero]
    refine wpAnyH_done (by kernel_rfl) ?_ _
    refine NoPanic.normal ?_
    go_wp2_with (fail)
    have hb : Below wq179.heap.size wq179 wq179.drew := below_drN (Below.refl _ _) 1
    replace rp0 := keep hb rp0
    replace rp1 := keep hb rp1
    replace rl11 := keep hb rl11
    replace rg174 := keep hb rg174
    replace rq := keep hb rq
    replace hT := hT.keep hb
    replace hw := Below.after hw hb
    clear hb
    refine wp_region_noPanic ?_
    refine wp_region_held (S := fun W_ => W_.heap[g174]? = some (.cells (irow .u8 A) 24 (0, 0)) ∧ W_.heap[g11]? = some (.cells (irow .u8 E) 24 (0, 0))) (by kernel_rfl) ?_
    change wpAnyH _ _ _ _ _ _ _ _ (World.drew _)
    generalize wq179.drew = wd181 at *
    refine wpAnyH_take (i := 0) (v := .agg (irow .u8 E)) rfl (by kernel_rfl) (by kernel_rfl) (by kernel_rfl) (fun _ _ _ h => h) (Or.inl ⟨by rfl, ?y182⟩) (⟨rg174, rl11⟩) ?r182
    case y182 =>
      intro w_ hS_
      simp only [List.getElem_toArray, List.getElem_cons_zero]
      exact e_load_part 24 _ (by rfl) (g11) 0 (by rfl) 24 (irow .u8 E) (0, 0) (irow .u8 E) _ (hS_.2) (all_rowe _) Tryd.underlying24 rfl (infok8 _ hE)
    simp only [Act.put, List.getElem_toArray, List.getElem_cons_zero, List.setIfInBounds_toArray, List.set_cons_succ, List.set_cons_zero]
    refine wpAnyH_take (i := 1) (v := .agg (irow .u8 A)) rfl (by kernel_rfl) (by kernel_rfl) (by kernel_rfl) (fun _ _ _ h => h) (Or.inl ⟨by rfl, ?y183⟩) (⟨rg174, rl11⟩) ?r183
    case y183 =>
      intro w_ hS_
      simp only [List.getElem_toArray, List.getElem_cons_succ, List.getElem_cons_zero]
      exact e_load_part 24 _ (by rfl) (g174) 0 (by rfl) 24 (irow .u8 A) (0, 0) (irow .u8 A) _ (hS_.1) (all_rowe _) Tryd.underlying24 rfl (infok8 _ hA)
    simp only [Act.put, List.getElem_toArray, List.getElem_cons_succ, List.getElem_cons_zero, List.setIfInBounds_toArray, List.set_cons_succ, List.set_cons_zero]
    refine wpAnyH_take (i := 3) (v := ?v184) rfl (by kernel_rfl) (by kernel_rfl) (by kernel_rfl) (fun _ _ _ h => h) (Or.inl ⟨by rfl, ?y184⟩) (⟨rg174, rl11⟩) ?r184
    case y184 =>
      intro w_ hS_
      go_simp
      try with_reducible rfl
    simp only [Act.put, List.getElem_toArray, List.getElem_cons_succ, List.getElem_cons_zero, List.setIfInBounds_toArray, List.set_cons_succ, List.set_cons_zero]
    refine wpAnyH_take (i := 4) (v := .agg (irow .u8 E)) rfl (by kernel_rfl) (by kernel_rfl) (by kernel_rfl) (fun _ _ _ h => h) (Or.inl ⟨by rfl, ?y185⟩) (⟨rg174, rl11⟩) ?r185
    case y185 =>
      intro w_ hS_
      simp only [List.getElem_toArray, List.getElem_cons_succ, List.getElem_cons_zero]
      exact e_load_part 24 _ (by rfl) (g11) 0 (by rfl) 24 (irow .u8 E) (0, 0) (irow .u8 E) _ (hS_.2) (all_rowe _) Tryd.underlying24 rfl (infok8 _ hE)
    simp only [Act.put, List.getElem_toArray, List.getElem_cons_succ, List.getElem_cons_zero, List.setIfInBounds_toArray, List.set_cons_succ, List.set_cons_zero]
    refine wpAnyH_take (i := 5) (v := .agg (irow .u8 A)) rfl (by kernel_rfl) (by kernel_rfl) (by kernel_rfl) (fun _ _ _ h => h) (Or.inl ⟨by rfl, ?y186⟩) (⟨rg174, rl11⟩) ?r186
    case y186 =>
      intro w_ hS_
      simp only [List.getElem_toArray, List.getElem_cons_succ, List.getElem_cons_zero]
      exact e_load_part 24 _ (by rfl) (g174) 0 (by rfl) 24 (irow .u8 A) (0, 0) (irow .u8 A) _ (hS_.1) (all_rowe _) Tryd.underlying24 rfl (infok8 _ hA)
    simp only [Act.put, List.getElem_toArray, List.getElem_cons_succ, List.getElem_cons_zero, List.setIfInBounds_toArray, List.set_cons_succ, List.set_cons_zero]
    refine eH_one (k := 2) (fuel := 5) (by kernel_rfl) rfl (by kernel_rfl) (fun K_ hK_ => ?_)
    refine wp_call_ex (f := 16) (by kernel_rfl) (ex1e (cN _ hw)) (fun v_ wq187 hX_ => ?_)
    obtain ⟨rfl, hb⟩ := hX_
    replace rp0 := keep hb rp0
    replace rp1 := keep hb rp1
    replace rl11 := keep hb rl11
    replace rg174 := keep hb rg174
    replace rq := keep hb rq
    replace hT := hT.keep hb
    replace hw := Below.after hw hb
    clear hb
    refine hK_ _ _ (⟨rg174, rl11⟩) ?_
    simp only [Act.put, List.getElem_toArray, List.getElem_cons_succ, List.getElem_cons_zero, List.setIfInBounds_toArray, List.set_cons_succ, List.set_cons_zero]
    clear hK_
    refine eH_one (k := 6) (fuel := 4) (by kernel_rfl) rfl (by kernel_rfl) (fun K_ hK_ => ?_)
    refine wp_call_ex (f := 43) (by kernel_rfl) (cX _ hw) (fun v_ wq188 hX_ => ?_)
    obtain ⟨hX_t, hb⟩ := hX_
    replace rp0 := keep hb rp0
    replace rp1 := keep hb rp1
    replace rl11 := keep hb rl11
    replace rg174 := keep hb rg174
    replace rq := keep hb rq
    replace hT := hT.keep hb
    replace hw := Below.after hw hb
    clear hb
    refine hK_ _ _ (⟨rg174, rl11⟩) ?_
    simp only [Act.put, List.getElem_toArray, List.getElem_cons_succ, List.getElem_cons_zero, List.setIfInBounds_toArray, List.set_cons_succ, List.set_cons_zero]
    clear hK_
    refine eH_one (k := 7) (fuel := 3) (by kernel_rfl) rfl (by kernel_rfl) (fun K_ hK_ => ?_)
    refine e_world_op (.slice (some ⟨wq188.heap.size, 0, none⟩) 1 1) (wq188.alloc (.cells #[v_] 22)) (e_bslT _ rfl v_ rfl hX_t _) ?_
    have hb : Below wq188.heap.size wq188 (wq188.alloc (.cells #[v_] 22)) := (Below.refl _ _).alloc (Nat.le_refl _) _
    have rg189 := hp1_0 wq188 (.cells #[v_] 22)
    have lt_g189_0 := lt_of_row rp0
    have lt_g189_1 := lt_of_row rp1
    have lt_g189_2 := lt_of_row rl11
    have lt_g189_3 := lt_of_row rg174
    have sz_g189 := hw.size
    replace rp0 := keep hb rp0
    replace rp1 := keep hb rp1
    replace rl11 := keep hb rl11
    replace rg174 := keep hb rg174
    replace rq := keep hb rq
    replace hT := hT.keep hb
    replace hX_t := hX_t.keep hb
    replace hw := Below.after hw hb
    clear hb
    refine hK_ _ _ (⟨rg174, rl11⟩) ?_
    simp only [Act.put, List.getElem_toArray, List.getElem_cons_succ, List.getElem_cons_zero, List.setIfInBounds_toArray, List.set_cons_succ, List.set_cons_zero]
    clear hK_
    generalize (wq188.alloc (.cells #[v_] 22)) = wq189 at *
    generalize wq188.heap.size = g189 at *
    refine eH_one (k := 8) (fuel := 2) (by kernel_rfl) rfl (by kernel_rfl) (fun K_ hK_ => ?_)
    refine wp_append_T _ _ rfl w.heap.size _ T rfl hT _ [X] rfl (OwnT.single (by omega) rg189 hX_t) (by simp only [List.length_singleton]; omega) hw.size (fun va_ wa190 hA_ hG_ => ?_)
    replace rp0 := (hG_.block _ (lt_of_row rp0) (own_neT hT rp0 (by decide))).trans rp0
    replace rp1 := (hG_.block _ (lt_of_row rp1) (own_neT hT rp1 (by decide))).trans rp1
    replace rl11 := (hG_.block _ (lt_of_row rl11) (own_neT hT rl11 (by decide))).trans rl11
    replace rg174 := (hG_.block _ (lt_of_row rg174) (own_neT hT rg174 (by decide))).trans rg174
    replace rq := (hG_.block pg (Nat.lt_of_lt_of_le lpg hw.size) (fun e => by have := (hT.lt pg e.symm).1; omega)).trans rq
    replace hw := hw.grown hG_ hw.size (fun k e => (hT.lt k e).1)
    clear hT hX_t rg189
    have hT := hA_
    clear hA_ hG_
    refine hK_ _ _ (⟨rg174, rl11⟩) ?_
    simp only [Act.put, List.getElem_toArray, List.getElem_cons_succ, List.getElem_cons_zero, List.setIfInBounds_toArray, List.set_cons_succ, List.set_cons_zero]
    clear hK_
    refine eH_one (k := 9) (fuel := 1) (by kernel_rfl) rfl (by kernel_rfl) (fun K_ hK_ => ?_)
    refine wp_store_row 24 _ _ rfl (w.heap.size + 1) (irow .u8 R) rfl rfl 24 _ rp1 (infok8 _ hR) (((irow_size _ _).trans (zr_len 32)).trans ((irow_size _ _).trans hR).symm) (irow_one8 _) ?_
    have hN_ := setRow_heap wa190 (w.heap.size + 1) _ (irow .u8 R) _ _ rp1
    replace rp0 := (setRow_other wa190 (w.heap.size + 1) (w.heap.size) (irow .u8 R) (by omega)).trans rp0
    replace rl11 := (setRow_other wa190 (w.heap.size + 1) (g11) (irow .u8 R) (by omega)).trans rl11
    replace rg174 := (setRow_other wa190 (w.heap.size + 1) (g174) (irow .u8 R) (by omega)).trans rg174
    replace hw := below_setRow hw (show w.heap.size ≤ w.heap.size + 1 by omega) (irow .u8 R)
    replace rq := (setRow_other wa190 (w.heap.size + 1) pg (irow .u8 R) (by omega)).trans rq
    replace hT := hT.set (irow .u8 R) rp1 (by decide) (by decide)
    generalize (wa190.setRow (w.heap.size + 1) (irow .u8 R)) = wq191 at *
    clear rp1
    have rp1 := hN_
    clear hN_
    refine hK_ _ _ (⟨rg174, rl11⟩) ?_
    simp only [Act.put]
    clear hK_
    refine wpAnyH_take (i := 10) (v := ?v192) rfl (by kernel_rfl) (by kernel_rfl) (by kernel_rfl) (fun _ _ _ h => h) (Or.inl ⟨by rfl, ?y192⟩) (⟨rg174, rl11⟩) ?r192
    case y192 =>
      intro w_ hS_
      go_simp
      try with_reducible rfl
    simp only [Act.put, List.getElem_toArray, List.getElem_cons_succ, List.getElem_cons_zero, List.setIfInBounds_toArray, List.set_cons_succ, List.set_cons_zero]
    refine wpAnyH_done (by kernel_rfl) ?_ _
    refine NoPanic.normal ?_
    go_wp2_with (fail)
    exact bodyPost_ret (v := .tuple #[.agg (irow .u8 R), _]) (results_row_slot Tryd.results36 _ _ (w.heap.size + 1) _ (irow .u8 R) _ _ _ rfl rp1 rfl Tryd.underlying24 rfl (infok8 _ hR)) rfl ⟨_, rfl, _, rfl, hT, hw⟩
end Go.Proofs.YtgfeacnhdlgpoaaDoor
