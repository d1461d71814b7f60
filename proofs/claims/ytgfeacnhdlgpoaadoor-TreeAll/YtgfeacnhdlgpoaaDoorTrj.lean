import Derived.Test.YtgfeacnhdlgpoaaDoorProg
import Derived.WalkKit
import Derived.WalkSpells
import Derived.WalkLawsBesides
import Derived.Lib.QuietBelow
import Derived.BigQuiet
import Derived.OrdersHeld
import Derived.OwnWalk
import Derived.Deep.RegionHeld3
import Derived.Deep.Cut
import Derived.Deep.CutRange
import Derived.Test.YtgfeacnhdlgpoaaDoorTri
namespace Go.Proofs.YtgfeacnhdlgpoaaDoor
set_option maxRecDepth 100000
open Go Go.RowKit Go.Sort
attribute [local go_sem] setCell_drewN alloc_drewN
set_option maxRecDepth 100000 in
set_option maxHeartbeats 8000000 in
theorem along1 {x : List Int} (hX : x.length = 32) (w : World) (ao : Option Addr) (pl pc : Nat) (hpl : pl ≤ 4398046511000) (i : Value) : Calls Tryd.prog 51 #[.slice ao pl pc, .int .i64 1, i, .agg (irow .u8 x)] w fun e w' => e = .returned (.tuple #[.agg (irow .u8 x), .bool (decide (pl = 0))]) ∧ Below w.heap.size w w' := by
  have d1 : decide ((pl : Int) - 1 < 0) = decide (pl = 0) := by
    congr 1; apply propext; omega
  have rp0 := hp2_0 w (.cells (irow .u8 x) 24) (.cells (irow .u8 (zr 32)) 24)
  have rp1 := hp2_1 w (.cells (irow .u8 x) 24) (.cells (irow .u8 (zr 32)) 24)
  have hw : Below w.heap.size w ((w.alloc (.cells (irow .u8 x) 24)).alloc (.cells (irow .u8 (zr 32)) 24)) := (((Below.refl _ _).alloc (Nat.le_refl _) _).alloc (by simp) _)
  go_enter Tryd.func51, Tryd.ntmps51
  iterate 9 go_step
  try rw [zk32]
  generalize ((w.alloc (.cells (irow .u8 x) 24)).alloc (.cells (irow .u8 (zr 32)) 24)) = w0 at *
  go_wp2_with (first | (refine wpList_load_want rfl 24 _ rfl (w.heap.size) rfl 24 (irow .u8 x) (0, 0) _ rp0 Tryd.underlying24 rfl (infok8 _ hX) ?_) | (refine wpList_load_want rfl 24 _ rfl (w.heap.size + 1) rfl 24 (irow .u8 (zr 32)) (0, 0) _ rp1 Tryd.underlying24 rfl (infok8 _ (zr_len 32)) ?_) | (refine wpList_store_row rfl 24 _ _ rfl (w.heap.size + 1) (irow .u8 x) rfl rfl 24 _ rp1 (infok8 _ hX) (((irow_size _ _).trans (zr_len 32)).trans ((irow_size _ _).trans hX).symm) (irow_one8 _) ?_) | fail)
  exact bodyPost_ret (v := .tuple #[.agg (irow .u8 x), .bool (decide (pl = 0))]) (results_row_slot Tryd.results51 _ _ (w.heap.size + 1) _ (irow .u8 x) _ _ _ rfl (setRow_heap _ _ _ _ _ _ rp1) rfl Tryd.underlying24 rfl (infok8 _ hX)) rfl ⟨rfl, below_setRow hw (by omega) _⟩
set_option maxRecDepth 100000 in
set_option maxHeartbeats 8000000 in
theorem along0 {x : List Int} (_hX : x.length = 32) (w : World) (ao : Option Addr) (pc n : Nat) (hn : 2 ≤ n) (i : Value) : Calls Tryd.prog 51 #[.slice ao 0 pc, .int .i64 (n : Int), i, .agg (irow .u8 x)] w fun e w' => e = .returned (.tuple #[.agg (irow .u8 (zr 32)), .bool false]) ∧ Below w.heap.size w w' := by
  have d1 : decide ((n : Int) = 1) = false := by simp; omega
  have rp0 := hp2_0 w (.cells (irow .u8 x) 24) (.cells (irow .u8 (zr 32)) 24)
  have rp1 := hp2_1 w (.cells (irow .u8 x) 24) (.cells (irow .u8 (zr 32)) 24)
  have hw : Below w.heap.size w ((w.alloc (.cells (irow .u8 x) 24)).alloc (.cells (irow .u8 (zr 32)) 24)) := (((Below.refl _ _).alloc (Nat.le_refl _) _).alloc (by simp) _)
  go_enter Tryd.func51, Tryd.ntmps51
  iterate 9 go_step
  try rw [zk32]
  generalize ((w.alloc (.cells (irow .u8 x) 24)).alloc (.cells (irow .u8 (zr 32)) 24)) = w0 at *
  go_wp2_with (first | (refine wpList_build_as rfl 24 _ rfl [] rfl (irow .u8 (zr 32)) zkb ?_) | (refine wpList_store_row rfl 24 _ _ rfl (w.heap.size + 1) (irow .u8 (zr 32)) rfl rfl 24 _ rp1 (infok8 _ (zr_len 32)) (((irow_size _ _).trans (zr_len 32)).trans ((irow_size _ _).trans (zr_len 32)).symm) (irow_one8 _) ?_) | fail)
  exact bodyPost_ret (v := .tuple #[.agg (irow .u8 (zr 32)), .bool false]) (results_row_slot Tryd.results51 _ _ (w.heap.size + 1) _ (irow .u8 (zr 32)) _ _ _ rfl (setRow_heap _ _ _ _ _ _ rp1) rfl Tryd.underlying24 rfl (infok8 _ (zr_len 32))) rfl ⟨rfl, below_setRow hw (by omega) _⟩
set_option maxRecDepth 100000 in
set_option maxHeartbeats 8000000 in
theorem alonglo {x A E R : List Int} {f : Bool} (hX : x.length = 32) (hA : A.length = 32) (hE : E.length = 32) (hR : R.length = 32) (w : World) (n k i m : Nat) (hn : 2 ≤ n) (_hm : n ≤ 4398046511000) (_hk : k < n) (hi : i < k) (_hin : i < n) (hml : m ≤ 4398046511000) (pg po pc : Nat) (pcs : Array Value) (pt : TypeId) (pf : Nat × Nat) (hpg : w.heap[pg]? = some (.cells pcs pt pf)) (hmc : m + 1 ≤ pc) (hx : pcs.extract (po + m * 32) (po + m * 32 + (irow .u8 E).size) = irow .u8 E) (cC : Gives 44 #[.int .i64 (n : Int)] (.int .i64 (k : Int))) (cP : (∀ W, Below w.heap.size w W → Calls Tryd.prog 51 #[.slice (some ⟨pg, po, none⟩) m pc, .int .i64 (k : Int), .int .i64 (i : Int), .agg (irow .u8 x)] W fun e w' => e = .returned (.tuple #[.agg (irow .u8 A), .bool f]) ∧ Below W.heap.size W w')) (cN : (∀ W, Below w.heap.size w W → Calls Tryd.prog 15 #[.agg (irow .u8 A), .agg (irow .u8 E)] W fun e w' => e = .returned (.agg (irow .u8 R)) ∧ Below W.heap.size W w')) : Calls Tryd.prog 51 #[.slice (some ⟨pg, po, none⟩) (m + 1) pc, .int .i64 (n : Int), .int .i64 (i : Int), .agg (irow .u8 x)] w fun e w' => e = .returned (.tuple #[.agg (irow .u8 R), .bool f]) ∧ Below w.heap.size w w' := by
  have d1 : decide ((n : Int) = 1) = false := by simp; omega
  have d2 : decide ((i : Int) < (k : Int)) = true := by simp; omega
  have jm : (m : Int) < (m : Int) + 1 := by omega
  have rp0 := hp2_0 w (.cells (irow .u8 x) 24) (.cells (irow .u8 (zr 32)) 24)
  have rp1 := hp2_1 w (.cells (irow .u8 x) 24) (.cells (irow .u8 (zr 32)) 24)
  have hw : Below w.heap.size w ((w.alloc (.cells (irow .u8 x) 24)).alloc (.cells (irow .u8 (zr 32)) 24)) := (((Below.refl _ _).alloc (Nat.le_refl _) _).alloc (by simp) _)
  go_enter Tryd.func51, Tryd.ntmps51
  iterate 9 go_step
  try rw [zk32]
  generalize ((w.alloc (.cells (irow .u8 x) 24)).alloc (.cells (irow .u8 (zr 32)) 24)) = w0 at *
  have rq := keep hw hpg
  have lpg := lt_of_row hpg
  go_wp2_with (fail)
  refine (cC.at _).mono ?_
  rintro e_ w1 ⟨rfl, hb⟩
  replace rp0 := keep hb rp0
  replace rp1 := keep hb rp1
  replace rq := keep hb rq
  replace hw := Below.after hw hb
  clear hb
  clear cC
  go_wp2_with (fail)
  have hb : Below w1.heap.size w1 w1.drew := below_drN (Below.refl _ _) 1
  replace rp0 := keep hb rp0
  replace rp1 := keep hb rp1
  replace rq := keep hb rq
  replace hw := Below.after hw hb
  clear hb
  refine wp_region_noPanic ?_
  refine wp_region_held (S := fun W_ => W_.heap[w.heap.size]? = some (.cells (irow .u8 x) 24 (0, 0))) (by kernel_rfl) ?_
  change wpAnyH _ _ _ _ _ _ _ _ (World.drew _)
  generalize w1.drew = wd9 at *
  refine wpAnyH_take (i := 0) (v := ?v10) rfl (by kernel_rfl) (by kernel_rfl) (by kernel_rfl) (fun _ _ _ h => h) (Or.inl ⟨by rfl, ?y10⟩) (rp0) ?r10
  case y10 =>
    intro w_ hS_
    go_simp
    try with_reducible rfl
  simp only [Act.put, List.getElem_toArray, List.getElem_cons_zero, List.setIfInBounds_toArray, List.set_cons_succ, List.set_cons_zero]
  refine wpAnyH_take (i := 1) (v := ?v11) rfl (by kernel_rfl) (by kernel_rfl) (by kernel_rfl) (fun _ _ _ h => h) (Or.inl ⟨by rfl, ?y11⟩) (rp0) ?r11
  case y11 =>
    intro w_ hS_
    go_simp
    try with_reducible rfl
  simp only [Act.put, List.getElem_toArray, List.getElem_cons_succ, List.getElem_cons_zero, List.setIfInBounds_toArray, List.set_cons_succ, List.set_cons_zero]
  refine wpAnyH_take (i := 2) (v := .slice (some ⟨pg, po, none⟩) m pc) rfl (by kernel_rfl) (by kernel_rfl) (by kernel_rfl) (fun _ _ _ h => h) (Or.inl ⟨by rfl, ?y12⟩) (rp0) ?r12
  case y12 =>
    intro w_ hS_
    simp only [List.getElem_toArray, List.getElem_cons_succ, List.getElem_cons_zero]
    exact e_slice _ _ _ _ rfl _ (slk_head _ _ _ m (by omega) (by intro e; cases e) _)
  simp only [Act.put, List.getElem_toArray, List.getElem_cons_succ, List.getElem_cons_zero, List.setIfInBounds_toArray, List.set_cons_succ, List.set_cons_zero]
  refine wpAnyH_take (i := 3) (v := ?v13) rfl (by kernel_rfl) (by kernel_rfl) (by kernel_rfl) (fun _ _ _ h => h) (Or.inl ⟨by rfl, ?y13⟩) (rp0) ?r13
  case y13 =>
    intro w_ hS_
    go_simp
    try with_reducible rfl
  simp only [Act.put, List.getElem_toArray, List.getElem_cons_succ, List.getElem_cons_zero, List.setIfInBounds_toArray, List.set_cons_succ, List.set_cons_zero]
  refine wpAnyH_take (i := 4) (v := ?v14) rfl (by kernel_rfl) (by kernel_rfl) (by kernel_rfl) (fun _ _ _ h => h) (Or.inl ⟨by rfl, ?y14⟩) (rp0) ?r14
  case y14 =>
    intro w_ hS_
    go_simp
    try with_reducible rfl
  simp only [Act.put, List.getElem_toArray, List.getElem_cons_succ, List.getElem_cons_zero, List.setIfInBounds_toArray, List.set_cons_succ, List.set_cons_zero]
  refine wpAnyH_take (i := 5) (v := .agg (irow .u8 x)) rfl (by kernel_rfl) (by kernel_rfl) (by kernel_rfl) (fun _ _ _ h => h) (Or.inl ⟨by rfl, ?y15⟩) (rp0) ?r15
  case y15 =>
    intro w_ hS_
    simp only [List.getElem_toArray, List.getElem_cons_succ, List.getElem_cons_zero]
    exact e_load_part 24 _ (by rfl) (w.heap.size) 0 (by rfl) 24 (irow .u8 x) (0, 0) (irow .u8 x) _ (hS_) (all_rowe _) Tryd.underlying24 rfl (infok8 _ hX)
  simp only [Act.put, List.getElem_toArray, List.getElem_cons_succ, List.getElem_cons_zero, List.setIfInBounds_toArray, List.set_cons_succ, List.set_cons_zero]
  refine eH_two (j := 6) (k := 10) (fuel := 6) (by kernel_rfl) rfl rfl (by kernel_rfl) (by kernel_rfl) (fun K_ hK_ => ?_) (fun K_ hK_ => ?_)
  · skip
    refine wp_call_ex (f := 51) (by kernel_rfl) (ex1e (cP _ hw)) (fun v_ wq16 hX_ => ?_)
    obtain ⟨rfl, hb⟩ := hX_
    replace rp0 := keep hb rp0
    replace rp1 := keep hb rp1
    replace rq := keep hb rq
    replace hw := Below.after hw hb
    clear hb
    refine hK_ _ _ (rp0) ?_
    simp only [Act.put, List.getElem_toArray, List.getElem_cons_succ, List.getElem_cons_zero, List.setIfInBounds_toArray, List.set_cons_succ, List.set_cons_zero]
    clear hK_
    refine wpAnyH_take (i := 7) (v := ?v17) rfl (by kernel_rfl) (by kernel_rfl) (by kernel_rfl) (fun _ _ _ h => h) (Or.inl ⟨by rfl, ?y17⟩) (rp0) ?r17
    case y17 =>
      intro w_ hS_
      go_simp
      try with_reducible rfl
    simp only [Act.put, List.getElem_toArray, List.getElem_cons_succ, List.getElem_cons_zero, List.setIfInBounds_toArray, List.set_cons_succ, List.set_cons_zero]
    refine wpAnyH_take (i := 8) (v := ?v18) rfl (by kernel_rfl) (by kernel_rfl) (by kernel_rfl) (fun _ _ _ h => h) (Or.inl ⟨by rfl, ?y18⟩) (rp0) ?r18
    case y18 =>
      intro w_ hS_
      go_simp
      try with_reducible rfl
    simp only [Act.put, List.getElem_toArray, List.getElem_cons_succ, List.getElem_cons_zero, List.setIfInBounds_toArray, List.set_cons_succ, List.set_cons_zero]
    refine wpAnyH_take (i := 9) (v := ?v19) rfl (by kernel_rfl) (by kernel_rfl) (by kernel_rfl) (fun _ _ _ h => h) (Or.inl ⟨by rfl, ?y19⟩) (rp0) ?r19
    case y19 =>
      intro w_ hS_
      go_simp
      try with_reducible rfl
    simp only [Act.put, List.getElem_toArray, List.getElem_cons_succ, List.getElem_cons_zero, List.setIfInBounds_toArray, List.set_cons_succ, List.set_cons_zero]
    refine eH_one (k := 10) (fuel := 2) (by kernel_rfl) rfl (by kernel_rfl) (fun K_ hK_ => ?_)
    refine e_world_op (.pointer (some ⟨wq16.heap.size, 0, none⟩)) (wq16.alloc (.cells (irow .u8 (zr 32)) 24)) (by kernel_rfl) ?_
    have hb : Below wq16.heap.size wq16 (wq16.alloc (.cells (irow .u8 (zr 32)) 24)) := (Below.refl _ _).alloc (Nat.le_refl _) _
    have rg20 := hp1_0 wq16 (.cells (irow .u8 (zr 32)) 24)
    have lt_g20_0 := lt_of_row rp0
    have lt_g20_1 := lt_of_row rp1
    have sz_g20 := hw.size
    replace rp0 := keep hb rp0
    replace rp1 := keep hb rp1
    replace rq := keep hb rq
    replace hw := Below.after hw hb
    clear hb
    refine hK_ _ _ (rp0) ?_
    simp only [Act.put, List.getElem_toArray, List.getElem_cons_succ, List.getElem_cons_zero, List.setIfInBounds_toArray, List.set_cons_succ, List.set_cons_zero]
    clear hK_
    generalize (wq16.alloc (.cells (irow .u8 (zr 32)) 24)) = wq20 at *
    generalize wq16.heap.size = g20 at *
    refine eH_one (k := 11) (fuel := 1) (by kernel_rfl) rfl (by kernel_rfl) (fun K_ hK_ => ?_)
    refine wp_store_row 24 _ _ rfl (g20) (irow .u8 A) rfl rfl 24 _ rg20 (infok8 _ hA) (((irow_size _ _).trans (zr_len 32)).trans ((irow_size _ _).trans hA).symm) (irow_one8 _) ?_
    have hN_ := setRow_heap wq20 (g20) _ (irow .u8 A) _ _ rg20
    replace rp0 := (setRow_other wq20 (g20) (w.heap.size) (irow .u8 A) (by omega)).trans rp0
    replace rp1 := (setRow_other wq20 (g20) (w.heap.size + 1) (irow .u8 A) (by omega)).trans rp1
    replace hw := below_setRow hw (show w.heap.size ≤ g20 by omega) (irow .u8 A)
    replace rq := (setRow_other wq20 (g20) pg (irow .u8 A) (by omega)).trans rq
    generalize (wq20.setRow (g20) (irow .u8 A)) = wq21 at *
    clear rg20
    have rg20 := hN_
    clear hN_
    refine hK_ _ _ (rp0) ?_
    simp only [Act.put]
    clear hK_
    refine wpAnyH_take (i := 12) (v := ?v22) rfl (by kernel_rfl) (by kernel_rfl) (by kernel_rfl) (fun _ _ _ h => h) (Or.inl ⟨by rfl, ?y22⟩) (rp0) ?r22
    case y22 =>
      intro w_ hS_
      go_simp
      try with_reducible rfl
    simp only [Act.put, List.getElem_toArray, List.getElem_cons_succ, List.getElem_cons_zero, List.setIfInBounds_toArray, List.set_cons_succ, List.set_cons_zero]
    refine wpAnyH_done (by kernel_rfl) ?_ _
    refine NoPanic.normal ?_
    go_wp2_with (fail)
    have hb : Below wq21.heap.size wq21 wq21.drew := below_drN (Below.refl _ _) 1
    replace rp0 := keep hb rp0
    replace rp1 := keep hb rp1
    replace rg20 := keep hb rg20
    replace rq := keep hb rq
    replace hw := Below.after hw hb
    clear hb
    refine wp_region_noPanic ?_
    refine wp_region_held (S := fun W_ => W_.heap[g20]? = some (.cells (irow .u8 A) 24 (0, 0)) ∧ W_.heap[pg]? = some (.cells pcs pt pf)) (by kernel_rfl) ?_
    change wpAnyH _ _ _ _ _ _ _ _ (World.drew _)
    generalize wq21.drew = wd23 at *
    refine wpAnyH_take (i := 0) (v := .agg (irow .u8 A)) rfl (by kernel_rfl) (by kernel_rfl) (by kernel_rfl) (fun _ _ _ h => h) (Or.inl ⟨by rfl, ?y24⟩) (⟨rg20, rq⟩) ?r24
    case y24 =>
      intro w_ hS_
      simp only [List.getElem_toArray, List.getElem_cons_zero]
      exact e_load_part 24 _ (by rfl) (g20) 0 (by rfl) 24 (irow .u8 A) (0, 0) (irow .u8 A) _ (hS_.1) (all_rowe _) Tryd.underlying24 rfl (infok8 _ hA)
    simp only [Act.put, List.getElem_toArray, List.getElem_cons_zero, List.setIfInBounds_toArray, List.set_cons_succ, List.set_cons_zero]
    refine wpAnyH_take (i := 1) (v := ?v25) rfl (by kernel_rfl) (by kernel_rfl) (by kernel_rfl) (fun _ _ _ h => h) (Or.inl ⟨by rfl, ?y25⟩) (⟨rg20, rq⟩) ?r25
    case y25 =>
      intro w_ hS_
      go_simp
      try with_reducible rfl
    simp only [Act.put, List.getElem_toArray, List.getElem_cons_succ, List.getElem_cons_zero, List.setIfInBounds_toArray, List.set_cons_succ, List.set_cons_zero]
    refine wpAnyH_take (i := 2) (v := ?v26) rfl (by kernel_rfl) (by kernel_rfl) (by kernel_rfl) (fun _ _ _ h => h) (Or.inl ⟨by rfl, ?y26⟩) (⟨rg20, rq⟩) ?r26
    case y26 =>
      intro w_ hS_
      go_simp
      try with_reducible rfl
    simp only [Act.put, List.getElem_toArray, List.getElem_cons_succ, List.getElem_cons_zero, List.setIfInBounds_toArray, List.set_cons_succ, List.set_cons_zero]
    refine wpAnyH_take (i := 3) (v := ?v27) rfl (by kernel_rfl) (by kernel_rfl) (by kernel_rfl) (fun _ _ _ h => h) (Or.inl ⟨by rfl, ?y27⟩) (⟨rg20, rq⟩) ?r27
    case y27 =>
      intro w_ hS_
      go_simp
      try with_reducible rfl
    simp only [Act.put, List.getElem_toArray, List.getElem_cons_succ, List.getElem_cons_zero, List.setIfInBounds_toArray, List.set_cons_succ, List.set_cons_zero]
    refine wpAnyH_take (i := 4) (v := .agg (irow .u8 E)) rfl (by kernel_rfl) (by kernel_rfl) (by kernel_rfl) (fun _ _ _ h => h) (Or.inl ⟨by rfl, ?y28⟩) (⟨rg20, rq⟩) ?r28
    case y28 =>
      intro w_ hS_
      simp only [List.getElem_toArray, List.getElem_cons_succ, List.getElem_cons_zero]
      exact e_load_part 24 _ (by rfl) pg (po + m * 32) (by rfl) pt pcs pf (irow .u8 E) _ (hS_.2) hx Tryd.underlying24 rfl (infok8 _ hE)
    simp only [Act.put, List.getElem_toArray, List.getElem_cons_succ, List.getElem_cons_zero, List.setIfInBounds_toArray, List.set_cons_succ, List.set_cons_zero]
    refine wpAnyH_take (i := 6) (v := ?v29) rfl (by kernel_rfl) (by kernel_rfl) (by kernel_rfl) (fun _ _ _ h => h) (Or.inl ⟨by rfl, ?y29⟩) (⟨rg20, rq⟩) ?r29
    case y29 =>
      intro w_ hS_
      go_simp
      try with_reducible rfl
    simp only [Act.put, List.getElem_toArray, List.getElem_cons_succ, List.getElem_cons_zero, List.setIfInBounds_toArray, List.set_cons_succ, List.set_cons_zero]
    refine eH_one (k := 5) (fuel := 2) (by kernel_rfl) rfl (by kernel_rfl) (fun K_ hK_ => ?_)
    refine wp_call_ex (f := 15) (by kernel_rfl) (ex1e (cN _ hw)) (fun v_ wq30 hX_ => ?_)
    obtain ⟨rfl, hb⟩ := hX_
    replace rp0 := keep hb rp0
    replace rp1 := keep hb rp1
    replace rg20 := keep hb rg20
    replace rq := keep hb rq
    replace hw := Below.after hw hb
    clear hb
    refine hK_ _ _ (⟨rg20, rq⟩) ?_
    simp only [Act.put, List.getElem_toArray, List.getElem_cons_succ, List.getElem_cons_zero, List.setIfInBounds_toArray, List.set_cons_succ, List.set_cons_zero]
    clear hK_
    refine eH_one (k := 7) (fuel := 1) (by kernel_rfl) rfl (by kernel_rfl) (fun K_ hK_ => ?_)
    refine wp_store_row 24 _ _ rfl (w.heap.size + 1) (irow .u8 R) rfl rfl 24 _ rp1 (infok8 _ hR) (((irow_size _ _).trans (zr_len 32)).trans ((irow_size _ _).trans hR).symm) (irow_one8 _) ?_
    have hN_ := setRow_heap wq30 (w.heap.size + 1) _ (irow .u8 R) _ _ rp1
    replace rp0 := (setRow_other wq30 (w.heap.size + 1) (w.heap.size) (irow .u8 R) (by omega)).trans rp0
    replace rg20 := (setRow_other wq30 (w.heap.size + 1) (g20) (irow .u8 R) (by omega)).trans rg20
    replace hw := below_setRow hw (show w.heap.size ≤ w.heap.size + 1 by omega) (irow .u8 R)
    replace rq := (setRow_other wq30 (w.heap.size + 1) pg (irow .u8 R) (by omega)).trans rq
    generalize (wq30.setRow (w.heap.size + 1) (irow .u8 R)) = wq31 at *
    clear rp1
    have rp1 := hN_
    clear hN_
    refine hK_ _ _ (⟨rg20, rq⟩) ?_
    simp only [Act.put]
    clear hK_
    refine wpAnyH_take (i := 8) (v := ?v32) rfl (by kernel_rfl) (by kernel_rfl) (by kernel_rfl) (fun _ _ _ h => h) (Or.inl ⟨by rfl, ?y32⟩) (⟨rg20, rq⟩) ?r32
    case y32 =>
      intro w_ hS_
      go_simp
      try with_reducible rfl
    simp only [Act.put, List.getElem_toArray, List.getElem_cons_succ, List.getElem_cons_zero, List.setIfInBounds_toArray, List.set_cons_succ, List.set_cons_zero]
    refine wpAnyH_done (by kernel_rfl) ?_ _
    refine NoPanic.normal ?_
    go_wp2_with (fail)
    exact bodyPost_ret (v := .tuple #[.agg (irow .u8 R), .bool f]) (results_row_slot Tryd.results51 _ _ (w.heap.size + 1) _ (irow .u8 R) _ _ _ rfl rp1 rfl Tryd.underlying24 rfl (infok8 _ hR)) rfl ⟨rfl, hw⟩
  · skip
    refine e_world_op (.pointer (some ⟨wd9.heap.size, 0, none⟩)) (wd9.alloc (.cells (irow .u8 (zr 32)) 24)) (by kernel_rfl) ?_
    have hb : Below wd9.heap.size wd9 (wd9.alloc (.cells (irow .u8 (zr 32)) 24)) := (Below.refl _ _).alloc (Nat.le_refl _) _
    have rg33 := hp1_0 wd9 (.cells (irow .u8 (zr 32)) 24)
    have lt_g33_0 := lt_of_row rp0
    have lt_g33_1 := lt_of_row rp1
    have sz_g33 := hw.size
    replace rp0 := keep hb rp0
    replace rp1 := keep hb rp1
    replace rq := keep hb rq
    replace hw := Below.after hw hb
    clear hb
    refine hK_ _ _ (rp0) ?_
    simp only [Act.put, List.getElem_toArray, List.getElem_cons_succ, List.getElem_cons_zero, List.setIfInBounds_toArray, List.set_cons_succ, List.set_cons_zero]
    clear hK_
    generalize (wd9.alloc (.cells (irow .u8 (zr 32)) 24)) = wq33 at *
    generalize wd9.heap.size = g33 at *
    refine eH_one (k := 6) (fuel := 5) (by kernel_rfl) rfl (by kernel_rfl) (fun K_ hK_ => ?_)
    refine wp_call_ex (f := 51) (by kernel_rfl) (ex1e (cP _ hw)) (fun v_ wq34 hX_ => ?_)
    obtain ⟨rfl, hb⟩ := hX_
    replace rp0 := keep hb rp0
    replace rp1 := keep hb rp1
    replace rg33 := keep hb rg33
    replace rq := keep hb rq
    replace hw := Below.after hw hb
    clear hb
    refine hK_ _ _ (rp0) ?_
    simp only [Act.put, List.getElem_toArray, List.getElem_cons_succ, List.getElem_cons_zero, List.setIfInBounds_toArray, List.set_cons_succ, List.set_cons_zero]
    clear hK_
    refine wpAnyH_take (i := 7) (v := ?v35) rfl (by kernel_rfl) (by kernel_rfl) (by kernel_rfl) (fun _ _ _ h => h) (Or.inl ⟨by rfl, ?y35⟩) (rp0) ?r35
    case y35 =>
      intro w_ hS_
      go_simp
      try with_reducible rfl
    simp only [Act.put, List.getElem_toArray, List.getElem_cons_succ, List.getElem_cons_zero, List.setIfInBounds_toArray, List.set_cons_succ, List.set_cons_zero]
    refine wpAnyH_take (i := 8) (v := ?v36) rfl (by kernel_rfl) (by kernel_rfl) (by kernel_rfl) (fun _ _ _ h => h) (Or.inl ⟨by rfl, ?y36⟩) (rp0) ?r36
    case y36 =>
      intro w_ hS_
      go_simp
      try with_reducible rfl
    simp only [Act.put, List.getElem_toArray, List.getElem_cons_succ, List.getElem_cons_zero, List.setIfInBounds_toArray, List.set_cons_succ, List.set_cons_zero]
    refine wpAnyH_take (i := 9) (v := ?v37) rfl (by kernel_rfl) (by kernel_rfl) (by kernel_rfl) (fun _ _ _ h => h) (Or.inl ⟨by rfl, ?y37⟩) (rp0) ?r37
    case y37 =>
      intro w_ hS_
      go_simp
      try with_reducible rfl
    simp only [Act.put, List.getElem_toArray, List.getElem_cons_succ, List.getElem_cons_zero, List.setIfInBounds_toArray, List.set_cons_succ, List.set_cons_zero]
    refine eH_one (k := 11) (fuel := 1) (by kernel_rfl) rfl (by kernel_rfl) (fun K_ hK_ => ?_)
    refine wp_store_row 24 _ _ rfl (g33) (irow .u8 A) rfl rfl 24 _ rg33 (infok8 _ hA) (((irow_size _ _).trans (zr_len 32)).trans ((irow_size _ _).trans hA).symm) (irow_one8 _) ?_
    have hN_ := setRow_heap wq34 (g33) _ (irow .u8 A) _ _ rg33
    replace rp0 := (setRow_other wq34 (g33) (w.heap.size) (irow .u8 A) (by omega)).trans rp0
    replace rp1 := (setRow_other wq34 (g33) (w.heap.size + 1) (irow .u8 A) (by omega)).trans rp1
    replace hw := below_setRow hw (show w.heap.size ≤ g33 by omega) (irow .u8 A)
    replace rq := (setRow_other wq34 (g33) pg (irow .u8 A) (by omega)).trans rq
    generalize (wq34.setRow (g33) (irow .u8 A)) = wq38 at *
    clear rg33
    have rg33 := hN_
    clear hN_
    refine hK_ _ _ (rp0) ?_
    simp only [Act.put]
    clear hK_
    refine wpAnyH_take (i := 12) (v := ?v39) rfl (by kernel_rfl) (by kernel_rfl) (by kernel_rfl) (fun _ _ _ h => h) (Or.inl ⟨by rfl, ?y39⟩) (rp0) ?r39
    case y39 =>
      intro w_ hS_
      go_simp
      try with_reducible rfl
    simp only [Act.put, List.getElem_toArray, List.getElem_cons_succ, List.getElem_cons_zero, List.setIfInBounds_toArray, List.set_cons_succ, List.set_cons_zero]
    refine wpAnyH_done (by kernel_rfl) ?_ _
    refine NoPanic.normal ?_
    go_wp2_with (fail)
    have hb : Below wq38.heap.size wq38 wq38.drew := below_drN (Below.refl _ _) 1
    replace rp0 := keep hb rp0
    replace rp1 := keep hb rp1
    replace rg33 := keep hb rg33
    replace rq := keep hb rq
    replace hw := Below.after hw hb
    clear hb
    refine wp_region_noPanic ?_
    refine wp_region_held (S := fun W_ => W_.heap[g33]? = some (.cells (irow .u8 A) 24 (0, 0)) ∧ W_.heap[pg]? = some (.cells pcs pt pf)) (by kernel_rfl) ?_
    change wpAnyH _ _ _ _ _ _ _ _ (World.drew _)
    generalize wq38.drew = wd40 at *
    refine wpAnyH_take (i := 0) (v := .agg (irow .u8 A)) rfl (by kernel_rfl) (by kernel_rfl) (by kernel_rfl) (fun _ _ _ h => h) (Or.inl ⟨by rfl, ?y41⟩) (⟨rg33, rq⟩) ?r41
    case y41 =>
      intro w_ hS_
      simp only [List.getElem_toArray, List.getElem_cons_zero]
      exact e_load_part 24 _ (by rfl) (g33) 0 (by rfl) 24 (irow .u8 A) (0, 0) (irow .u8 A) _ (hS_.1) (all_rowe _) Tryd.underlying24 rfl (infok8 _ hA)
    simp only [Act.put, List.getElem_toArray, List.getElem_cons_zero, List.setIfInBounds_toArray, List.set_cons_succ, List.set_cons_zero]
    refine wpAnyH_take (i := 1) (v := ?v42) rfl (by kernel_rfl) (by kernel_rfl) (by kernel_rfl) (fun _ _ _ h => h) (Or.inl ⟨by rfl, ?y42⟩) (⟨rg33, rq⟩) ?r42
    case y42 =>
      intro w_ hS_
      go_simp
      try with_reducible rfl
    simp only [Act.put, List.getElem_toArray, List.getElem_cons_succ, List.getElem_cons_zero, List.setIfInBounds_toArray, List.set_cons_succ, List.set_cons_zero]
    refine wpAnyH_take (i := 2) (v := ?v43) rfl (by kernel_rfl) (by kernel_rfl) (by kernel_rfl) (fun _ _ _ h => h) (Or.inl ⟨by rfl, ?y43⟩) (⟨rg33, rq⟩) ?r43
    case y43 =>
      intro w_ hS_
      go_simp
      try with_reducible rfl
    simp only [Act.put, List.getElem_toArray, List.getElem_cons_succ, List.getElem_cons_zero, List.setIfInBounds_toArray, List.set_cons_succ, List.set_cons_zero]
    refine wpAnyH_take (i := 3) (v := ?v44) rfl (by kernel_rfl) (by kernel_rfl) (by kernel_rfl) (fun _ _ _ h => h) (Or.inl ⟨by rfl, ?y44⟩) (⟨rg33, rq⟩) ?r44
    case y44 =>
      intro w_ hS_
      go_simp
      try with_reducible rfl
    simp only [Act.put, List.getElem_toArray, List.getElem_cons_succ, List.getElem_cons_zero, List.setIfInBounds_toArray, List.set_cons_succ, List.set_cons_zero]
    refine wpAnyH_take (i := 4) (v := .agg (irow .u8 E)) rfl (by kernel_rfl) (by kernel_rfl) (by kernel_rfl) (fun _ _ _ h => h) (Or.inl ⟨by rfl, ?y45⟩) (⟨rg33, rq⟩) ?r45
    case y45 =>
      intro w_ hS_
      simp only [List.getElem_toArray, List.getElem_cons_succ, List.getElem_cons_zero]
      exact e_load_part 24 _ (by rfl) pg (po + m * 32) (by rfl) pt pcs pf (irow .u8 E) _ (hS_.2) hx Tryd.underlying24 rfl (infok8 _ hE)
    simp only [Act.put, List.getElem_toArray, List.getElem_cons_succ, List.getElem_cons_zero, List.setIfInBounds_toArray, List.set_cons_succ, List.set_cons_zero]
    refine wpAnyH_take (i := 6) (v := ?v46) rfl (by kernel_rfl) (by kernel_rfl) (by kernel_rfl) (fun _ _ _ h => h) (Or.inl ⟨by rfl, ?y46⟩) (⟨rg33, rq⟩) ?r46
    case y46 =>
      intro w_ hS_
      go_simp
      try with_reducible rfl
    simp only [Act.put, List.getElem_toArray, List.getElem_cons_succ, List.getElem_cons_zero, List.setIfInBounds_toArray, List.set_cons_succ, List.set_cons_zero]
    refine eH_one (k := 5) (fuel := 2) (by kernel_rfl) rfl (by kernel_rfl) (fun K_ hK_ => ?_)
    refine wp_call_ex (f := 15) (by kernel_rfl) (ex1e (cN _ hw)) (fun v_ wq47 hX_ => ?_)
    obtain ⟨rfl, hb⟩ := hX_
    replace rp0 := keep hb rp0
    replace rp1 := keep hb rp1
    replace rg33 := keep hb rg33
    replace rq := keep hb rq
    replace hw := Below.after hw hb
    clear hb
    refine hK_ _ _ (⟨rg33, rq⟩) ?_
    simp only [Act.put, List.getElem_toArray, List.getElem_cons_succ, List.getElem_cons_zero, List.setIfInBounds_toArray, List.set_cons_succ, List.set_cons_zero]
    clear hK_
    refine eH_one (k := 7) (fuel := 1) (by kernel_rfl) rfl (by kernel_rfl) (fun K_ hK_ => ?_)
    refine wp_store_row 24 _ _ rfl (w.heap.size + 1) (irow .u8 R) rfl rfl 24 _ rp1 (infok8 _ hR) (((irow_size _ _).trans (zr_len 32)).trans ((irow_size _ _).trans hR).symm) (irow_one8 _) ?_
    have hN_ := setRow_heap wq47 (w.heap.size + 1) _ (irow .u8 R) _ _ rp1
    replace rp0 := (setRow_other wq47 (w.heap.size + 1) (w.heap.size) (irow .u8 R) (by omega)).trans rp0
    replace rg33 := (setRow_other wq47 (w.heap.size + 1) (g33) (irow .u8 R) (by omega)).trans rg33
    replace hw := below_setRow hw (show w.heap.size ≤ w.heap.size + 1 by omega) (irow .u8 R)
    replace rq := (setRow_other wq47 (w.heap.size + 1) pg (irow .u8 R) (by omega)).trans rq
    generalize (wq47.setRow (w.heap.size + 1) (irow .u8 R)) = wq48 at *
    clear rp1
    have rp1 := hN_
    clear hN_
    refine hK_ _ _ (⟨rg33, rq⟩) ?_
    simp only [Act.put]
    clear hK_
    refine wpAnyH_take (i := 8) (v := ?v49) rfl (by kernel_rfl) (by kernel_rfl) (by kernel_rfl) (fun _ _ _ h => h) (Or.inl ⟨by rfl, ?y49⟩) (⟨rg33, rq⟩) ?r49
    case y49 =>
      intro w_ hS_
      go_simp
      try with_reducible rfl
    simp only [Act.put, List.getElem_toArray, List.getElem_cons_succ, List.getElem_cons_zero, List.setIfInBounds_toArray, List.set_cons_succ, List.set_cons_zero]
    refine wpAnyH_done (by kernel_rfl) ?_ _
    refine NoPanic.normal ?_
    go_wp2_with (fail)
    exact bodyPost_ret (v := .tuple #[.agg (irow .u8 R), .bool f]) (results_row_slot Tryd.results51 _ _ (w.heap.size + 1) _ (irow .u8 R) _ _ _ rfl rp1 rfl Tryd.underlying24 rfl (infok8 _ hR)) rfl ⟨rfl, hw⟩
set_option maxRecDepth 100000 in
set_option maxHeartbeats 8000000 in
theorem alonghi {x A E R : List Int} {f : Bool} (hX : x.length = 32) (hA : A.length = 32) (hE : E.length = 32) (hR : R.length = 32) (w : World) (n k i m : Nat) (hn : 2 ≤ n) (_hm : n ≤ 4398046511000) (_hk : k < n) (hi : ¬ i < k) (_hin : i < n) (hml : m ≤ 4398046511000) (pg po pc : Nat) (pcs : Array Value) (pt : TypeId) (pf : Nat × Nat) (hpg : w.heap[pg]? = some (.cells pcs pt pf)) (hmc : m + 1 ≤ pc) (hx : pcs.extract (po + m * 32) (po + m * 32 + (irow .u8 E).size) = irow .u8 E) (cC : Gives 44 #[.int .i64 (n : Int)] (.int .i64 (k : Int))) (cP : (∀ W, Below w.heap.size w W → Calls Tryd.prog 51 #[.slice (some ⟨pg, po, none⟩) m pc, .int .i64 ((n : Int) - (k : Int)), .int .i64 ((i : Int) - (k : Int)), .agg (irow .u8 x)] W fun e w' => e = .returned (.tuple #[.agg (irow .u8 A), .bool f]) ∧ Below W.heap.size W w')) (cN : (∀ W, Below w.heap.size w W → Calls Tryd.prog 15 #[.agg (irow .u8 E), .agg (irow .u8 A)] W fun e w' => e = .returned (.agg (irow .u8 R)) ∧ Below W.heap.size W w')) : Calls Tryd.prog 51 #[.slice (some ⟨pg, po, none⟩) (m + 1) pc, .int .i64 (n : Int), .int .i64 (i : Int), .agg (irow .u8 x)] w fun e w' => e = .returned (.tuple #[.agg (irow .u8 R), .bool f]) ∧ Below w.heap.size w w' := by
  have d1 : decide ((n : Int) = 1) = false := by simp; omega
  have d2 : decide ((i : Int) < (k : Int)) = false := by simp; omega
  have jm : (m : Int) < (m : Int) + 1 := by omega
  have q1 : IntKind.i64.wrap ((n : Int) - (k : Int)) = (n : Int) - (k : Int) := by rw [IntKind.wrap_i64]; omega
  have q2 : IntKind.i64.wrap ((i : Int) - (k : Int)) = (i : Int) - (k : Int) := by rw [IntKind.wrap_i64]; omega
  have rp0 := hp2_0 w (.cells (irow .u8 x) 24) (.cells (irow .u8 (zr 32)) 24)
  have rp1 := hp2_1 w (.cells (irow .u8 x) 24) (.cells (irow .u8 (zr 32)) 24)
  have hw : Below w.heap.size w ((w.alloc (.cells (irow .u8 x) 24)).alloc (.cells (irow .u8 (zr 32)) 24)) := (((Below.refl _ _).alloc (Nat.le_refl _) _).alloc (by simp) _)
  go_enter Tryd.func51, Tryd.ntmps51
  iterate 9 go_step
  try rw [zk32]
  generalize ((w.alloc (.cells (irow .u8 x) 24)).alloc (.cells (irow .u8 (zr 32)) 24)) = w0 at *
  have rq := keep hw hpg
  have lpg := lt_of_row hpg
  go_wp2_with (fail)
  refine (cC.at _).mono ?_
  rintro e_ w1 ⟨rfl, hb⟩
  replace rp0 := keep hb rp0
  replace rp1 := keep hb rp1
  replace rq := keep hb rq
  replace hw := Below.after hw hb
  clear hb
  clear cC
  go_wp2_with (fail)
  have hb : Below w1.heap.size w1 w1.drew := below_drN (Below.refl _ _) 1
  replace rp0 := keep hb rp0
  replace rp1 := keep hb rp1
  replace rq := keep hb rq
  replace hw := Below.after hw hb
  clear hb
  refine wp_region_noPanic ?_
  refine wp_region_held (S := fun W_ => W_.heap[w.heap.size]? = some (.cells (irow .u8 x) 24 (0, 0))) (by kernel_rfl) ?_
  change wpAnyH _ _ _ _ _ _ _ _ (World.drew _)
  generalize w1.drew = wd50 at *
  refine wpAnyH_take (i := 0) (v := ?v51) rfl (by kernel_rfl) (by kernel_rfl) (by kernel_rfl) (fun _ _ _ h => h) (Or.inl ⟨by rfl, ?y51⟩) (rp0) ?r51
  case y51 =>
    intro w_ hS_
    go_simp
    try with_reducible rfl
  simp only [Act.put, List.getElem_toArray, List.getElem_cons_zero, List.setIfInBounds_toArray, List.set_cons_succ, List.set_cons_zero]
  refine wpAnyH_take (i := 1) (v := ?v52) rfl (by kernel_rfl) (by kernel_rfl) (by kernel_rfl) (fun _ _ _ h => h) (Or.inl ⟨by rfl, ?y52⟩) (rp0) ?r52
  case y52 =>
    intro w_ hS_
    go_simp
    try with_reducible rfl
  simp only [Act.put, List.getElem_toArray, List.getElem_cons_succ, List.getElem_cons_zero, List.setIfInBounds_toArray, List.set_cons_succ, List.set_cons_zero]
  refine wpAnyH_take (i := 2) (v := .slice (some ⟨pg, po, none⟩) m pc) rfl (by kernel_rfl) (by kernel_rfl) (by kernel_rfl) (fun _ _ _ h => h) (Or.inl ⟨by rfl, ?y53⟩) (rp0) ?r53
  case y53 =>
    intro w_ hS_
    simp only [List.getElem_toArray, List.getElem_cons_succ, List.getElem_cons_zero]
    exact e_slice _ _ _ _ rfl _ (slk_head _ _ _ m (by omega) (by intro e; cases e) _)
  simp only [Act.put, List.getElem_toArray, List.getElem_cons_succ, List.getElem_cons_zero, List.setIfInBounds_toArray, List.set_cons_succ, List.set_cons_zero]
  refine wpAnyH_take (i := 3) (v := ?v54) rfl (by kernel_rfl) (by kernel_rfl) (by kernel_rfl) (fun _ _ _ h => h) (Or.inl ⟨by rfl, ?y54⟩) (rp0) ?r54
  case y54 =>
    intro w_ hS_
    go_simp
    try with_reducible rfl
  simp only [Act.put, List.getElem_toArray, List.getElem_cons_succ, List.getElem_cons_zero, List.setIfInBounds_toArray, List.set_cons_succ, List.set_cons_zero]
  refine wpAnyH_take (i := 4) (v := ?v55) rfl (by kernel_rfl) (by kernel_rfl) (by kernel_rfl) (fun _ _ _ h => h) (Or.inl ⟨by rfl, ?y55⟩) (rp0) ?r55
  case y55 =>
    intro w_ hS_
    go_simp
    try with_reducible rfl
  simp only [Act.put, List.getElem_toArray, List.getElem_cons_succ, List.getElem_cons_zero, List.setIfInBounds_toArray, List.set_cons_succ, List.set_cons_zero]
  refine wpAnyH_take (i := 5) (v := .int .i64 ((n : Int) - (k : Int))) rfl (by kernel_rfl) (by kernel_rfl) (by kernel_rfl) (fun _ _ _ h => h) (Or.inl ⟨by rfl, ?y56⟩) (rp0) ?r56
  case y56 =>
    intro w_ hS_
    first | (go_simp; done) | (go_simp; exact q1)
  simp only [Act.put, List.getElem_toArray, List.getElem_cons_succ, List.getElem_cons_zero, List.setIfInBounds_toArray, List.set_cons_succ, List.set_cons_zero]
  refine wpAnyH_take (i := 6) (v := ?v57) rfl (by kernel_rfl) (by kernel_rfl) (by kernel_rfl) (fun _ _ _ h => h) (Or.inl ⟨by rfl, ?y57⟩) (rp0) ?r57
  case y57 =>
    intro w_ hS_
    go_simp
    try with_reducible rfl
  simp only [Act.put, List.getElem_toArray, List.getElem_cons_succ, List.getElem_cons_zero, List.setIfInBounds_toArray, List.set_cons_succ, List.set_cons_zero]
  refine wpAnyH_take (i := 7) (v := ?v58) rfl (by kernel_rfl) (by kernel_rfl) (by kernel_rfl) (fun _ _ _ h => h) (Or.inl ⟨by rfl, ?y58⟩) (rp0) ?r58
  case y58 =>
    intro w_ hS_
    go_simp
    try with_reducible rfl
  simp only [Act.put, List.getElem_toArray, List.getElem_cons_succ, List.getElem_cons_zero, List.setIfInBounds_toArray, List.set_cons_succ, List.set_cons_zero]
  refine wpAnyH_take (i := 8) (v := .int .i64 ((i : Int) - (k : Int))) rfl (by kernel_rfl) (by kernel_rfl) (by kernel_rfl) (fun _ _ _ h => h) (Or.inl ⟨by rfl, ?y59⟩) (rp0) ?r59
  case y59 =>
    intro w_ hS_
    first | (go_simp; done) | (go_simp; exact q2)
  simp only [Act.put, List.getElem_toArray, List.getElem_cons_succ, List.getElem_cons_zero, List.setIfInBounds_toArray, List.set_cons_succ, List.set_cons_zero]
  refine wpAnyH_take (i := 9) (v := .agg (irow .u8 x)) rfl (by kernel_rfl) (by kernel_rfl) (by kernel_rfl) (fun _ _ _ h => h) (Or.inl ⟨by rfl, ?y60⟩) (rp0) ?r60
  case y60 =>
    intro w_ hS_
    simp only [List.getElem_toArray, List.getElem_cons_succ, List.getElem_cons_zero]
    exact e_load_part 24 _ (by rfl) (w.heap.size) 0 (by rfl) 24 (irow .u8 x) (0, 0) (irow .u8 x) _ (hS_) (all_rowe _) Tryd.underlying24 rfl (infok8 _ hX)
  simp only [Act.put, List.getElem_toArray, List.getElem_cons_succ, List.getElem_cons_zero, List.setIfInBounds_toArray, List.set_cons_succ, List.set_cons_zero]
  refine eH_two (j := 10) (k := 14) (fuel := 6) (by kernel_rfl) rfl rfl (by kernel_rfl) (by kernel_rfl) (fun K_ hK_ => ?_) (fun K_ hK_ => ?_)
  · skip
    refine wp_call_ex (f := 51) (by kernel_rfl) (ex1e (cP _ hw)) (fun v_ wq61 hX_ => ?_)
    obtain ⟨rfl, hb⟩ := hX_
    replace rp0 := keep hb rp0
    replace rp1 := keep hb rp1
    replace rq := keep hb rq
    replace hw := Below.after hw hb
    clear hb
    refine hK_ _ _ (rp0) ?_
    simp only [Act.put, List.getElem_toArray, List.getElem_cons_succ, List.getElem_cons_zero, List.setIfInBounds_toArray, List.set_cons_succ, List.set_cons_zero]
    clear hK_
    refine wpAnyH_take (i := 11) (v := ?v62) rfl (by kernel_rfl) (by kernel_rfl) (by kernel_rfl) (fun _ _ _ h => h) (Or.inl ⟨by rfl, ?y62⟩) (rp0) ?r62
    case y62 =>
      intro w_ hS_
      go_simp
      try with_reducible rfl
    simp only [Act.put, List.getElem_toArray, List.getElem_cons_succ, List.getElem_cons_zero, List.setIfInBounds_toArray, List.set_cons_succ, List.set_cons_zero]
    refine wpAnyH_take (i := 12) (v := ?v63) rfl (by kernel_rfl) (by kernel_rfl) (by kernel_rfl) (fun _ _ _ h => h) (Or.inl ⟨by rfl, ?y63⟩) (rp0) ?r63
    case y63 =>
      intro w_ hS_
      go_simp
      try with_reducible rfl
    simp only [Act.put, List.getElem_toArray, List.getElem_cons_succ, List.getElem_cons_zero, List.setIfInBounds_toArray, List.set_cons_succ, List.set_cons_zero]
    refine wpAnyH_take (i := 13) (v := ?v64) rfl (by kernel_rfl) (by kernel_rfl) (by kernel_rfl) (fun _ _ _ h => h) (Or.inl ⟨by rfl, ?y64⟩) (rp0) ?r64
    case y64 =>
      intro w_ hS_
      go_simp
      try with_reducible rfl
    simp only [Act.put, List.getElem_toArray, List.getElem_cons_succ, List.getElem_cons_zero, List.setIfInBounds_toArray, List.set_cons_succ, List.set_cons_zero]
    refine eH_one (k := 14) (fuel := 2) (by kernel_rfl) rfl (by kernel_rfl) (fun K_ hK_ => ?_)
    refine e_world_op (.pointer (some ⟨wq61.heap.size, 0, none⟩)) (wq61.alloc (.cells (irow .u8 (zr 32)) 24)) (by kernel_rfl) ?_
    have hb : Below wq61.heap.size wq61 (wq61.alloc (.cells (irow .u8 (zr 32)) 24)) := (Below.refl _ _).alloc (Nat.le_refl _) _
    have rg65 := hp1_0 wq61 (.cells (irow .u8 (zr 32)) 24)
    have lt_g65_0 := lt_of_row rp0
    have lt_g65_1 := lt_of_row rp1
    have sz_g65 := hw.size
    replace rp0 := keep hb rp0
    replace rp1 := keep hb rp1
    replace rq := keep hb rq
    replace hw := Below.after hw hb
    clear hb
    refine hK_ _ _ (rp0) ?_
    simp only [Act.put, List.getElem_toArray, List.getElem_cons_succ, List.getElem_cons_zero, List.setIfInBounds_toArray, List.set_cons_succ, List.set_cons_zero]
    clear hK_
    generalize (wq61.alloc (.cells (irow .u8 (zr 32)) 24)) = wq65 at *
    generalize wq61.heap.size = g65 at *
    refine eH_one (k := 15) (fuel := 1) (by kernel_rfl) rfl (by kernel_rfl) (fun K_ hK_ => ?_)
    refine wp_store_row 24 _ _ rfl (g65) (irow .u8 A) rfl rfl 24 _ rg65 (infok8 _ hA) (((irow_size _ _).trans (zr_len 32)).trans ((irow_size _ _).trans hA).symm) (irow_one8 _) ?_
    have hN_ := setRow_heap wq65 (g65) _ (irow .u8 A) _ _ rg65
    replace rp0 := (setRow_other wq65 (g65) (w.heap.size) (irow .u8 A) (by omega)).trans rp0
    replace rp1 := (setRow_other wq65 (g65) (w.heap.size + 1) (irow .u8 A) (by omega)).trans rp1
    replace hw := below_setRow hw (show w.heap.size ≤ g65 by omega) (irow .u8 A)
    replace rq := (setRow_other wq65 (g65) pg (irow .u8 A) (by omega)).trans rq
    generalize (wq65.setRow (g65) (irow .u8 A)) = wq66 at *
    clear rg65
    have rg65 := hN_
    clear hN_
    refine hK_ _ _ (rp0) ?_
    simp only [Act.put]
    clear hK_
    refine wpAnyH_take (i := 16) (v := ?v67) rfl (by kernel_rfl) (by kernel_rfl) (by kernel_rfl) (fun _ _ _ h => h) (Or.inl ⟨by rfl, ?y67⟩) (rp0) ?r67
    case y67 =>
      intro w_ hS_
      go_simp
      try with_reducible rfl
    simp only [Act.put, List.getElem_toArray, List.getElem_cons_succ, List.getElem_cons_zero, List.setIfInBounds_toArray, List.set_cons_succ, List.set_cons_zero]
    refine wpAnyH_done (by kernel_rfl) ?_ _
    refine NoPanic.normal ?_
    go_wp2_with (fail)
    have hb : Below wq66.heap.size wq66 wq66.drew := below_drN (Below.refl _ _) 1
    replace rp0 := keep hb rp0
    replace rp1 := keep hb rp1
    replace rg65 := keep hb rg65
    replace rq := keep hb rq
    replace hw := Below.after hw hb
    clear hb
    refine wp_region_noPanic ?_
    refine wp_region_held (S := fun W_ => W_.heap[g65]? = some (.cells (irow .u8 A) 24 (0, 0)) ∧ W_.heap[pg]? = some (.cells pcs pt pf)) (by kernel_rfl) ?_
    change wpAnyH _ _ _ _ _ _ _ _ (World.drew _)
    generalize wq66.drew = wd68 at *
    refine wpAnyH_take (i := 0) (v := ?v69) rfl (by kernel_rfl) (by kernel_rfl) (by kernel_rfl) (fun _ _ _ h => h) (Or.inl ⟨by rfl, ?y69⟩) (⟨rg65, rq⟩) ?r69
    case y69 =>
      intro w_ hS_
      go_simp
      try with_reducible rfl
    simp only [Act.put, List.getElem_toArray, List.getElem_cons_zero, List.setIfInBounds_toArray, List.set_cons_succ, List.set_cons_zero]
    refine wpAnyH_take (i := 1) (v := ?v70) rfl (by kernel_rfl) (by kernel_rfl) (by kernel_rfl) (fun _ _ _ h => h) (Or.inl ⟨by rfl, ?y70⟩) (⟨rg65, rq⟩) ?r70
    case y70 =>
      intro w_ hS_
      go_simp
      try with_reducible rfl
    simp only [Act.put, List.getElem_toArray, List.getElem_cons_succ, List.getElem_cons_zero, List.setIfInBounds_toArray, List.set_cons_succ, List.set_cons_zero]
    refine wpAnyH_take (i := 2) (v := ?v71) rfl (by kernel_rfl) (by kernel_rfl) (by kernel_rfl) (fun _ _ _ h => h) (Or.inl ⟨by rfl, ?y71⟩) (⟨rg65, rq⟩) ?r71
    case y71 =>
      intro w_ hS_
      go_simp
      try with_reducible rfl
    simp only [Act.put, List.getElem_toArray, List.getElem_cons_succ, List.getElem_cons_zero, List.setIfInBounds_toArray, List.set_cons_succ, List.set_cons_zero]
    refine wpAnyH_take (i := 3) (v := .agg (irow .u8 E)) rfl (by kernel_rfl) (by kernel_rfl) (by kernel_rfl) (fun _ _ _ h => h) (Or.inl ⟨by rfl, ?y72⟩) (⟨rg65, rq⟩) ?r72
    case y72 =>
      intro w_ hS_
      simp only [List.getElem_toArray, List.getElem_cons_succ, List.getElem_cons_zero]
      exact e_load_part 24 _ (by rfl) pg (po + m * 32) (by rfl) pt pcs pf (irow .u8 E) _ (hS_.2) hx Tryd.underlying24 rfl (infok8 _ hE)
    simp only [Act.put, List.getElem_toArray, List.getElem_cons_succ, List.getElem_cons_zero, List.setIfInBounds_toArray, List.set_cons_succ, List.set_cons_zero]
    refine wpAnyH_take (i := 4) (v := .agg (irow .u8 A)) rfl (by kernel_rfl) (by kernel_rfl) (by kernel_rfl) (fun _ _ _ h => h) (Or.inl ⟨by rfl, ?y73⟩) (⟨rg65, rq⟩) ?r73
    case y73 =>
      intro w_ hS_
      simp only [List.getElem_toArray, List.getElem_cons_succ, List.getElem_cons_zero]
      exact e_load_part 24 _ (by rfl) (g65) 0 (by rfl) 24 (irow .u8 A) (0, 0) (irow .u8 A) _ (hS_.1) (all_rowe _) Tryd.underlying24 rfl (infok8 _ hA)
    simp only [Act.put, List.getElem_toArray, List.getElem_cons_succ, List.getElem_cons_zero, List.setIfInBounds_toArray, List.set_cons_succ, List.set_cons_zero]
    refine wpAnyH_take (i := 6) (v := ?v74) rfl (by kernel_rfl) (by kernel_rfl) (by kernel_rfl) (fun _ _ _ h => h) (Or.inl ⟨by rfl, ?y74⟩) (⟨rg65, rq⟩) ?r74
    case y74 =>
      intro w_ hS_
      go_simp
      try with_reducible rfl
    simp only [Act.put, List.getElem_toArray, List.getElem_cons_succ, List.getElem_cons_zero, List.setIfInBounds_toArray, List.set_cons_succ, List.set_cons_zero]
    refine eH_one (k := 5) (fuel := 2) (by kernel_rfl) rfl (by kernel_rfl) (fun K_ hK_ => ?_)
    refine wp_call_ex (f := 15) (by kernel_rfl) (ex1e (cN _ hw)) (fun v_ wq75 hX_ => ?_)
    obtain ⟨rfl, hb⟩ := hX_
    replace rp0 := keep hb rp0
    replace rp1 := keep hb rp1
    replace rg65 := keep hb rg65
    replace rq := keep hb rq
    replace hw := Below.after hw hb
    clear hb
    refine hK_ _ _ (⟨rg65, rq⟩) ?_
    simp only [Act.put, List.getElem_toArray, List.getElem_cons_succ, List.getElem_cons_zero, List.setIfInBounds_toArray, List.set_cons_succ, List.set_cons_zero]
    clear hK_
    refine eH_one (k := 7) (fuel := 1) (by kernel_rfl) rfl (by kernel_rfl) (fun K_ hK_ => ?_)
    refine wp_store_row 24 _ _ rfl (w.heap.size + 1) (irow .u8 R) rfl rfl 24 _ rp1 (infok8 _ hR) (((irow_size _ _).trans (zr_len 32)).trans ((irow_size _ _).trans hR).symm) (irow_one8 _) ?_
    have hN_ := setRow_heap wq75 (w.heap.size + 1) _ (irow .u8 R) _ _ rp1
    replace rp0 := (setRow_other wq75 (w.heap.size + 1) (w.heap.size) (irow .u8 R) (by omega)).trans rp0
    replace rg65 := (setRow_other wq75 (w.heap.size + 1) (g65) (irow .u8 R) (by omega)).trans rg65
    replace hw := below_setRow hw (show w.heap.size ≤ w.heap.size + 1 by omega) (irow .u8 R)
    replace rq := (setRow_other wq75 (w.heap.size + 1) pg (irow .u8 R) (by omega)).trans rq
    generalize (wq75.setRow (w.heap.size + 1) (irow .u8 R)) = wq76 at *
    clear rp1
    have rp1 := hN_
    clear hN_
    refine hK_ _ _ (⟨rg65, rq⟩) ?_
    simp only [Act.put]
    clear hK_
    refine wpAnyH_take (i := 8) (v := ?v77) rfl (by kernel_rfl) (by kernel_rfl) (by kernel_rfl) (fun _ _ _ h => h) (Or.inl ⟨by rfl, ?y77⟩) (⟨rg65, rq⟩) ?r77
    case y77 =>
      intro w_ hS_
      go_simp
      try with_reducible rfl
    simp only [Act.put, List.getElem_toArray, List.getElem_cons_succ, List.getElem_cons_zero, List.setIfInBounds_toArray, List.set_cons_succ, List.set_cons_zero]
    refine wpAnyH_done (by kernel_rfl) ?_ _
    refine NoPanic.normal ?_
    go_wp2_with (fail)
    exact bodyPost_ret (v := .tuple #[.agg (irow .u8 R), .bool f]) (results_row_slot Tryd.results51 _ _ (w.heap.size + 1) _ (irow .u8 R) _ _ _ rfl rp1 rfl Tryd.underlying24 rfl (infok8 _ hR)) rfl ⟨rfl, hw⟩
  · skip
    refine e_world_op (.pointer (some ⟨wd50.heap.size, 0, none⟩)) (wd50.alloc (.cells (irow .u8 (zr 32)) 24)) (by kernel_rfl) ?_
    have hb : Below wd50.heap.size wd50 (wd50.alloc (.cells (irow .u8 (zr 32)) 24)) := (Below.refl _ _).alloc (Nat.le_refl _) _
    have rg78 := hp1_0 wd50 (.cells (irow .u8 (zr 32)) 24)
    have lt_g78_0 := lt_of_row rp0
    have lt_g78_1 := lt_of_row rp1
    have sz_g78 := hw.size
    replace rp0 := keep hb rp0
    replace rp1 := keep hb rp1
    replace rq := keep hb rq
    replace hw := Below.after hw hb
    clear hb
    refine hK_ _ _ (rp0) ?_
    simp only [Act.put, List.getElem_toArray, List.getElem_cons_succ, List.getElem_cons_zero, List.setIfInBounds_toArray, List.set_cons_succ, List.set_cons_zero]
    clear hK_
    generalize (wd50.alloc (.cells (irow .u8 (zr 32)) 24)) = wq78 at *
    generalize wd50.heap.size = g78 at *
    refine eH_one (k := 10) (fuel := 5) (by kernel_rfl) rfl (by kernel_rfl) (fun K_ hK_ => ?_)
    refine wp_call_ex (f := 51) (by kernel_rfl) (ex1e (cP _ hw)) (fun v_ wq79 hX_ => ?_)
    obtain ⟨rfl, hb⟩ := hX_
    replace rp0 := keep hb rp0
    replace rp1 := keep hb rp1
    replace rg78 := keep hb rg78
    replace rq := keep hb rq
    replace hw := Below.after hw hb
    clear hb
    refine hK_ _ _ (rp0) ?_
    simp only [Act.put, List.getElem_toArray, List.getElem_cons_succ, List.getElem_cons_zero, List.setIfInBounds_toArray, List.set_cons_succ, List.set_cons_zero]
    clear hK_
    refine wpAnyH_take (i := 11) (v := ?v80) rfl (by kernel_rfl) (by kernel_rfl) (by kernel_rfl) (fun _ _ _ h => h) (Or.inl ⟨by rfl, ?y80⟩) (rp0) ?r80
    case y80 =>
      intro w_ hS_
      go_simp
      try with_reducible rfl
    simp only [Act.put, List.getElem_toArray, List.getElem_cons_succ, List.getElem_cons_zero, List.setIfInBounds_toArray, List.set_cons_succ, List.set_cons_zero]
    refine wpAnyH_take (i := 12) (v := ?v81) rfl (by kernel_rfl) (by kernel_rfl) (by kernel_rfl) (fun _ _ _ h => h) (Or.inl ⟨by rfl, ?y81⟩) (rp0) ?r81
    case y81 =>
      intro w_ hS_
      go_simp
      try with_reducible rfl
    simp only [Act.put, List.getElem_toArray, List.getElem_cons_succ, List.getElem_cons_zero, List.setIfInBounds_toArray, List.set_cons_succ, List.set_cons_zero]
    refine wpAnyH_take (i := 13) (v := ?v82) rfl (by kernel_rfl) (by kernel_rfl) (by kernel_rfl) (fun _ _ _ h => h) (Or.inl ⟨by rfl, ?y82⟩) (rp0) ?r82
    case y82 =>
      intro w_ hS_
      go_simp
      try with_reducible rfl
    simp only [Act.put, List.getElem_toArray, List.getElem_cons_succ, List.getElem_cons_zero, List.setIfInBounds_toArray, List.set_cons_succ, List.set_cons_zero]
    refine eH_one (k := 15) (fuel := 1) (by kernel_rfl) rfl (by kernel_rfl) (fun K_ hK_ => ?_)
    refine wp_store_row 24 _ _ rfl (g78) (irow .u8 A) rfl rfl 24 _ rg78 (infok8 _ hA) (((irow_size _ _).trans (zr_len 32)).trans ((irow_size _ _).trans hA).symm) (irow_one8 _) ?_
    have hN_ := setRow_heap wq79 (g78) _ (irow .u8 A) _ _ rg78
    replace rp0 := (setRow_other wq79 (g78) (w.heap.size) (irow .u8 A) (by omega)).trans rp0
    replace rp1 := (setRow_other wq79 (g78) (w.heap.size + 1) (irow .u8 A) (by omega)).trans rp1
    replace hw := below_setRow hw (show w.heap.size ≤ g78 by omega) (irow .u8 A)
    replace rq := (setRow_other wq79 (g78) pg (irow .u8 A) (by omega)).trans rq
    generalize (wq79.setRow (g78) (irow .u8 A)) = wq83 at *
    clear rg78
    have rg78 := hN_
    clear hN_
    refine hK_ _ _ (rp0) ?_
    simp only [Act.put]
    clear hK_
    refine wpAnyH_take (i := 16) (v := ?v84) rfl (by kernel_rfl) (by kernel_rfl) (by kernel_rfl) (fun _ _ _ h => h) (Or.inl ⟨by rfl, ?y84⟩) (rp0) ?r84
    case y84 =>
      intro w_ hS_
      go_simp
      try with_reducible rfl
    simp only [Act.put, List.getElem_toArray, List.getElem_cons_succ, List.getElem_cons_zero, List.setIfInBounds_toArray, List.set_cons_succ, List.set_cons_zero]
    refine wpAnyH_done (by kernel_rfl) ?_ _
    refine NoPanic.normal ?_
    go_wp2_with (fail)
    have hb : Below wq83.heap.size wq83 wq83.drew := below_drN (Below.refl _ _) 1
    replace rp0 := keep hb rp0
    replace rp1 := keep hb rp1
    replace rg78 := keep hb rg78
    replace rq := keep hb rq
    replace hw := Below.after hw hb
    clear hb
    refine wp_region_noPanic ?_
    refine wp_region_held (S := fun W_ => W_.heap[g78]? = some (.cells (irow .u8 A) 24 (0, 0)) ∧ W_.heap[pg]? = some (.cells pcs pt pf)) (by kernel_rfl) ?_
    change wpAnyH _ _ _ _ _ _ _ _ (World.drew _)
    generalize wq83.drew = wd85 at *
    refine wpAnyH_take (i := 0) (v := ?v86) rfl (by kernel_rfl) (by kernel_rfl) (by kernel_rfl) (fun _ _ _ h => h) (Or.inl ⟨by rfl, ?y86⟩) (⟨rg78, rq⟩) ?r86
    case y86 =>
      intro w_ hS_
      go_simp
      try with_reducible rfl
    simp only [Act.put, List.getElem_toArray, List.getElem_cons_zero, List.setIfInBounds_toArray, List.set_cons_succ, List.set_cons_zero]
    refine wpAnyH_take (i := 1) (v := ?v87) rfl (by kernel_rfl) (by kernel_rfl) (by kernel_rfl) (fun _ _ _ h => h) (Or.inl ⟨by rfl, ?y87⟩) (⟨rg78, rq⟩) ?r87
    case y87 =>
      intro w_ hS_
      go_simp
      try with_reducible rfl
    simp only [Act.put, List.getElem_toArray, List.getElem_cons_succ, List.getElem_cons_zero, List.setIfInBounds_toArray, List.set_cons_succ, List.set_cons_zero]
    refine wpAnyH_take (i := 2) (v := ?v88) rfl (by kernel_rfl) (by kernel_rfl) (by kernel_rfl) (fun _ _ _ h => h) (Or.inl ⟨by rfl, ?y88⟩) (⟨rg78, rq⟩) ?r88
    case y88 =>
      intro w_ hS_
      go_simp
      try with_reducible rfl
    simp only [Act.put, List.getElem_toArray, List.getElem_cons_succ, List.getElem_cons_zero, List.setIfInBounds_toArray, List.set_cons_succ, List.set_cons_zero]
    refine wpAnyH_take (i := 3) (v := .agg (irow .u8 E)) rfl (by kernel_rfl) (by kernel_rfl) (by kernel_rfl) (fun _ _ _ h => h) (Or.inl ⟨by rfl, ?y89⟩) (⟨rg78, rq⟩) ?r89
    case y89 =>
      intro w_ hS_
      simp only [List.getElem_toArray, List.getElem_cons_succ, List.getElem_cons_zero]
      exact e_load_part 24 _ (by rfl) pg (po + m * 32) (by rfl) pt pcs pf (irow .u8 E) _ (hS_.2) hx Tryd.underlying24 rfl (infok8 _ hE)
    simp only [Act.put, List.getElem_toArray, List.getElem_cons_succ, List.getElem_cons_zero, List.setIfInBounds_toArray, List.set_cons_succ, List.set_cons_zero]
    refine wpAnyH_take (i := 4) (v := .agg (irow .u8 A)) rfl (by kernel_rfl) (by kernel_rfl) (by kernel_rfl) (fun _ _ _ h => h) (Or.inl ⟨by rfl, ?y90⟩) (⟨rg78, rq⟩) ?r90
    case y90 =>
      intro w_ hS_
      simp only [List.getElem_toArray, List.getElem_cons_succ, List.getElem_cons_zero]
      exact e_load_part 24 _ (by rfl) (g78) 0 (by rfl) 24 (irow .u8 A) (0, 0) (irow .u8 A) _ (hS_.1) (all_rowe _) Tryd.underlying24 rfl (infok8 _ hA)
    simp only [Act.put, List.getElem_toArray, List.getElem_cons_succ, List.getElem_cons_zero, List.setIfInBounds_toArray, List.set_cons_succ, List.set_cons_zero]
    refine wpAnyH_take (i := 6) (v := ?v91) rfl (by kernel_rfl) (by kernel_rfl) (by kernel_rfl) (fun _ _ _ h => h) (Or.inl ⟨by rfl, ?y91⟩) (⟨rg78, rq⟩) ?r91
    case y91 =>
      intro w_ hS_
      go_simp
      try with_reducible rfl
    simp only [Act.put, List.getElem_toArray, List.getElem_cons_succ, List.getElem_cons_zero, List.setIfInBounds_toArray, List.set_cons_succ, List.set_cons_zero]
    refine eH_one (k := 5) (fuel := 2) (by kernel_rfl) rfl (by kernel_rfl) (fun K_ hK_ => ?_)
    refine wp_call_ex (f := 15) (by kernel_rfl) (ex1e (cN _ hw)) (fun v_ wq92 hX_ => ?_)
    obtain ⟨rfl, hb⟩ := hX_
    replace rp0 := keep hb rp0
    replace rp1 := keep hb rp1
    replace rg78 := keep hb rg78
    replace rq := keep hb rq
    replace hw := Below.after hw hb
    clear hb
    refine hK_ _ _ (⟨rg78, rq⟩) ?_
    simp only [Act.put, List.getElem_toArray, List.getElem_cons_succ, List.getElem_cons_zero, List.setIfInBounds_toArray, List.set_cons_succ, List.set_cons_zero]
    clear hK_
    refine eH_one (k := 7) (fuel := 1) (by kernel_rfl) rfl (by kernel_rfl) (fun K_ hK_ => ?_)
    refine wp_store_row 24 _ _ rfl (w.heap.size + 1) (irow .u8 R) rfl rfl 24 _ rp1 (infok8 _ hR) (((irow_size _ _).trans (zr_len 32)).trans ((irow_size _ _).trans hR).symm) (irow_one8 _) ?_
    have hN_ := setRow_heap wq92 (w.heap.size + 1) _ (irow .u8 R) _ _ rp1
    replace rp0 := (setRow_other wq92 (w.heap.size + 1) (w.heap.size) (irow .u8 R) (by omega)).trans rp0
    replace rg78 := (setRow_other wq92 (w.heap.size + 1) (g78) (irow .u8 R) (by omega)).trans rg78
    replace hw := below_setRow hw (show w.heap.size ≤ w.heap.size + 1 by omega) (irow .u8 R)
    replace rq := (setRow_other wq92 (w.heap.size + 1) pg (irow .u8 R) (by omega)).trans rq
    generalize (wq92.setRow (w.heap.size + 1) (irow .u8 R)) = wq93 at *
    clear rp1
    have rp1 := hN_
    clear hN_
    refine hK_ _ _ (⟨rg78, rq⟩) ?_
    simp only [Act.put]
    clear hK_
    refine wpAnyH_take (i := 8) (v := ?v94) rfl (by kernel_rfl) (by kernel_rfl) (by kernel_rfl) (fun _ _ _ h => h) (Or.inl ⟨by rfl, ?y94⟩) (⟨rg78, rq⟩) ?r94
    case y94 =>
      intro w_ hS_
      go_simp
      try with_reducible rfl
    simp only [Act.put, List.getElem_toArray, List.getElem_cons_succ, List.getElem_cons_zero, List.setIfInBounds_toArray, List.set_cons_succ, List.set_cons_zero]
    refine wpAnyH_done (by kernel_rfl) ?_ _
    refine NoPanic.normal ?_
    go_wp2_with (fail)
    exact bodyPost_ret (v := .tuple #[.agg (irow .u8 R), .bool f]) (results_row_slot Tryd.results51 _ _ (w.heap.size + 1) _ (irow .u8 R) _ _ _ rfl rp1 rfl Tryd.underlying24 rfl (infok8 _ hR)) rfl ⟨rfl, hw⟩
/-- The last of a list that is handed in. -/
theorem Ksl.last {W : World} {v : Value} {p : List (List Int)} (h : Ksl W v p) (h0 : ¬ p.length = 0) : ∃ g off cs t fr m cap, p.length = m + 1 ∧ v = .slice (some ⟨g, off, none⟩) (m + 1) cap ∧ m + 1 ≤ cap ∧ W.heap[g]? = some (.cells cs t fr) ∧ cs.extract (off + m * 32) (off + m * 32 + (irow .u8 (p.getLastD [])).size) = irow .u8 (p.getLastD []) ∧ Ky (p.getLastD []) ∧ (∀ W', Below W.heap.size W W' → Ksl W' (.slice (some ⟨g, off, none⟩) m cap) p.dropLast) := by
  obtain ⟨ao, cap, e, h2, h3, h4, h5, h6⟩ := id h
  obtain ⟨m, hm⟩ : ∃ m, p.length = m + 1 := ⟨p.length - 1, by omega⟩
  obtain ⟨g, off, cs, t, fr, rfl, q2, q3⟩ := h6 m (by omega)
  have el : p.getD m [] = p.getLastD [] := by
    rw [List.getLastD_eq_getLast?, List.getLast?_eq_getElem?, hm, Nat.add_sub_cancel, List.getD_eq_getElem?_getD]
  rw [el] at q3
  refine ⟨g, off, cs, t, fr, m, cap, hm, by rw [e, hm], by omega, q2, q3, by rw [← el]; exact h3.at (by omega), fun W' hb => ?_⟩
  have := (h.keep hb)
  rw [e, hm] at this
  have h7 := this.head (k := m) (by omega)
  rw [List.dropLast_eq_take, hm, Nat.add_sub_cancel]
  exact h7
theorem Ky.alo {n i : Nat} {x : List Int} {p : List (List Int)} (hx : Ky x) : Ky (alo sumL n i x p).1 := by
  by_cases h : n < 2
  · rw [alo_one sumL h]; exact hx
  · by_cases hp : p.length = 0
    · rw [alo_nil sumL h i x hp]; exact Ky.zero
    · by_cases hi : i < ctN n
      · rw [alo_lo sumL h hi x hp]; exact Ky.nd _ _
      · rw [alo_hi sumL h hi x hp]; exact Ky.nd _ _
theorem a_along : ∀ (n i : Nat) (x : List Int) (p : List (List Int)) (w : World) (v : Value), 1 ≤ n → n ≤ 4398046511000 → i < n → Ky x → Sta w → Kon w → Ksl w v p → Calls Tryd.prog 51 #[v, .int .i64 (n : Int), .int .i64 (i : Int), .agg (irow .u8 x)] w fun e w' => e = .returned (.tuple #[.agg (irow .u8 (alo sumL n i x p).1), .bool (alo sumL n i x p).2]) ∧ Below w.heap.size w w' := by
  intro n
  induction n using Nat.strongRecOn with
  | ind n ih =>
    intro i x p w v h1 hn hi hx hS hK hP
    have hle := hP.le
    by_cases h2 : n < 2
    · obtain rfl : n = 1 := by omega
      obtain ⟨ao, cap, rfl, _, _⟩ := hP.slc
      rw [alo_one sumL h2]
      exact along1 hx.1 w ao p.length cap hle _
    · have a := ct_lt h2
      have b := ct_pos n
      by_cases hp : p.length = 0
      · obtain ⟨ao, cap, rfl, _, _⟩ := hP.slc
        rw [alo_nil sumL h2 i x hp, hp]
        exact along0 hx.1 w ao cap n (by omega) _
      · obtain ⟨g, off, cs, t, fr, m, cap, hm, rfl, hc, hg, hE, kE, hD⟩ := hP.last hp
        by_cases hk : i < ctN n
        · rw [alo_lo sumL h2 hk x hp]
          exact alonglo hx.1 (Ky.alo hx).1 kE.1 (Ky.nd _ _).1 w n (ctN n) i m (by omega) hn a hk hi (by omega) g off cap cs t fr hg hc hE (a_cut _ h2 hn) (fun W hW => ih _ a _ _ _ _ _ b (by omega) hk hx (hS.below hW) (hK.below hW) (hD W hW)) (fun W hW => a_Node _ _ (Ky.alo hx).1 kE.1 (Ky.alo hx).2 kE.2 W (hS.below hW) (hK.below hW))
        · rw [alo_hi sumL h2 hk x hp]
          have e1 : (n : Int) - (ctN n : Int) = ((n - ctN n : Nat) : Int) := by omega
          have e2 : (i : Int) - (ctN n : Int) = ((i - ctN n : Nat) : Int) := by omega
          exact alonghi hx.1 (Ky.alo hx).1 kE.1 (Ky.nd _ _).1 w n (ctN n) i m (by omega) hn a hk hi (by omega) g off cap cs t fr hg hc hE (a_cut _ h2 hn) (fun W hW => by rw [e1, e2]; exact ih (n - ctN n) (by omega) _ _ _ _ _ (by omega) (by omega) (by omega) hx (hS.below hW) (hK.below hW) (hD W hW)) (fun W hW => a_Node _ _ kE.1 (Ky.alo hx).1 kE.2 (Ky.alo hx).2 W (hS.below hW) (hK.below hW))
set_option maxRecDepth 100000 in
set_option maxHeartbeats 8000000 in
theorem a_Incl_bad {r x : List Int} (_hr : r.length = 32) (_hx : x.length = 32) (w : World) (n i : Int) (v : Value) (hn : n < 1 ∨ (¬ n < 1 ∧ 65536 < n) ∨ (¬ n < 1 ∧ ¬ 65536 < n ∧ i < 0) ∨ (¬ n < 1 ∧ ¬ 65536 < n ∧ ¬ i < 0 ∧ n ≤ i)) : Calls Tryd.prog 29 #[.agg (irow .u8 r), .int .i64 n, .int .i64 i, .agg (irow .u8 x), v] w fun e w' => e = .returned (.int .i64 210) ∧ Below w.heap.size w w' := by
  have rp0 := hp2_0 w (.cells (irow .u8 r) 24) (.cells (irow .u8 x) 24)
  have rp1 := hp2_1 w (.cells (irow .u8 r) 24) (.cells (irow .u8 x) 24)
  have hw : Below w.heap.size w ((w.alloc (.cells (irow .u8 r) 24)).alloc (.cells (irow .u8 x) 24)) := (((Below.refl _ _).alloc (Nat.le_refl _) _).alloc (by simp) _)
  go_enter Tryd.func29, Tryd.ntmps29
  iterate 9 go_step
  generalize ((w.alloc (.cells (irow .u8 r) 24)).alloc (.cells (irow .u8 x) 24)) = w0 at *
  rcases hn with h | ⟨h, h1⟩ | ⟨h, h0, h1⟩ | ⟨h, h0, h1, h2⟩
  · skip
    have d0 : decide (n < 1) = true := by simp <;> omega
    go_wp2_with (fail)
    go_ret
    exact ⟨rfl, hw⟩
  · skip
    have d0 : decide (n < 1) = false := by simp <;> omega
    have d1 : decide (n > 65536) = true := by simp <;> omega
    go_wp2_with (fail)
    go_ret
    exact ⟨rfl, hw⟩
  · skip
    have d0 : decide (n < 1) = false := by simp <;> omega
    have d1 : decide (n > 65536) = false := by simp <;> omega
    have d2 : decide (i < 0) = true := by simp <;> omega
    go_wp2_with (fail)
    go_ret
    exact ⟨rfl, hw⟩
  · skip
    have d0 : decide (n < 1) = false := by simp <;> omega
    have d1 : decide (n > 65536) = false := by simp <;> omega
    have d2 : decide (i < 0) = false := by simp <;> omega
    have d3 : decide (i ≥ n) = true := by simp <;> omega
    go_wp2_with (fail)
    go_ret
    exact ⟨rfl, hw⟩
/-- 0 where both hold, else ErrProof. -/
def okE (f e : Bool) : Int := match f, e with
  | true, true => 0
  | true, false => 211
  | false, _ => 211
theorem okE_eq (f e : Bool) : okE f e = if f = true ∧ e = true then 0 else 211 := by cases f <;> cases e <;> rfl
set_option maxRecDepth 100000 in
set_option maxHeartbeats 8000000 in
theorem incl_walk {r x A : List Int} {f eq : Bool} (hr : r.length = 32) (hx : x.length = 32) (hA : A.length = 32) (w : World) (n i : Nat) (v : Value) (h1 : 1 ≤ n) (h6 : n ≤ 65536) (hi : i < n) (cP : ∀ W, Below w.heap.size w W → Calls Tryd.prog 51 #[v, .int .i64 (n : Int), .int .i64 (i : Int), .agg (irow .u8 x)] W fun e w' => e = .returned (.tuple #[.agg (irow .u8 A), .bool f]) ∧ Below W.heap.size W w') (heq : ∀ W, (Op.equalIn 10000 24 (.agg (irow .u8 A)) (.agg (irow .u8 r))).run Tryd.prog W = .ok eq W) : Calls Tryd.prog 29 #[.agg (irow .u8 r), .int .i64 (n : Int), .int .i64 (i : Int), .agg (irow .u8 x), v] w fun e w' => e = .returned (.int .i64 (okE f eq)) ∧ Below w.heap.size w w' := by
  have d0 : decide ((n : Int) < 1) = false := by simp <;> omega
  have d1 : decide ((n : Int) > 65536) = false := by simp <;> omega
  have d2 : decide ((i : Int) < 0) = false := by simp <;> omega
  have d3 : decide ((i : Int) ≥ (n : Int)) = false := by simp <;> omega
  have rp0 := hp2_0 w (.cells (irow .u8 r) 24) (.cells (irow .u8 x) 24)
  have rp1 := hp2_1 w (.cells (irow .u8 r) 24) (.cells (irow .u8 x) 24)
  have hw : Below w.heap.size w ((w.alloc (.cells (irow .u8 r) 24)).alloc (.cells (irow .u8 x) 24)) := (((Below.refl _ _).alloc (Nat.le_refl _) _).alloc (by simp) _)
  go_enter Tryd.func29, Tryd.ntmps29
  iterate 9 go_step
  generalize ((w.alloc (.cells (irow .u8 r) 24)).alloc (.cells (irow .u8 x) 24)) = w0 at *
  go_wp2_with (first | (refine wpList_load_want rfl 24 _ rfl (w.heap.size) rfl 24 (irow .u8 r) (0, 0) _ rp0 Tryd.underlying24 rfl (infok8 _ hr) ?_) | (refine wpList_load_want rfl 24 _ rfl (w.heap.size + 1) rfl 24 (irow .u8 x) (0, 0) _ rp1 Tryd.underlying24 rfl (infok8 _ hx) ?_) | fail)
  refine (cP _ hw).mono ?_
  rintro e_ w1 ⟨rfl, hb⟩
  replace rp0 := keep hb rp0
  replace rp1 := keep hb rp1
  replace hw := Below.after hw hb
  clear hb
  go_wp2_with (first | (refine wpList_store_row rfl 24 _ _ rfl (w1.heap.size) (irow .u8 A) rfl rfl 24 (irow .u8 (zr 32)) (hp1_0 w1 _) (infok8 _ hA) (((irow_size _ _).trans (zr_len 32)).trans ((irow_size _ _).trans hA).symm) (irow_one8 _) ?_; rw [setRow_alloc_new _ _ _ _ _ _ (by simp)]; refine wpList_stay ?_) | fail)
  unfold WpStay
  try simp only [Act.put]
  have rl11 : (w1.alloc (.cells (irow .u8 A) 24)).heap[w1.heap.size]? = some (.cells (irow .u8 A) 24 (0, 0)) := hp1_0 w1 _
  have hb : Below w1.heap.size w1 (w1.alloc (.cells (irow .u8 A) 24)) := ((Below.refl _ _).alloc (Nat.le_refl _) _)
  generalize (w1.alloc (.cells (irow .u8 A) 24)) = w2 at *
  have lt_g11_0 := lt_of_row rp0
  have lt_g11_1 := lt_of_row rp1
  have sz_g11 := hw.size
  replace rp0 := keep hb rp0
  replace rp1 := keep hb rp1
  replace hw := Below.after hw hb
  clear hb
  generalize w1.heap.size = g11 at *
  clear w1
  cases f
  · skip
    go_wp2_with (fail)
    go_ret
    exact ⟨rfl, hw⟩
  · cases eq
    · skip
      go_wp2_with (first | (refine wpList_load_part rfl 24 _ rfl (w.heap.size) 0 rfl 24 (irow .u8 r) (0, 0) (irow .u8 r) _ rp0 (all_rowe _) Tryd.underlying24 rfl (infok8 _ hr) ?_) | (refine wpList_load_part rfl 24 _ rfl (w.heap.size + 1) 0 rfl 24 (irow .u8 x) (0, 0) (irow .u8 x) _ rp1 (all_rowe _) Tryd.underlying24 rfl (infok8 _ hx) ?_) | (refine wpList_load_part rfl 24 _ rfl (g11) 0 rfl 24 (irow .u8 A) (0, 0) (irow .u8 A) _ rl11 (all_rowe _) Tryd.underlying24 rfl (infok8 _ hA) ?_) | fail)
      go_ret
      exact ⟨rfl, hw⟩
    · skip
      go_wp2_with (first | (refine wpList_load_part rfl 24 _ rfl (w.heap.size) 0 rfl 24 (irow .u8 r) (0, 0) (irow .u8 r) _ rp0 (all_rowe _) Tryd.underlying24 rfl (infok8 _ hr) ?_) | (refine wpList_load_part rfl 24 _ rfl (w.heap.size + 1) 0 rfl 24 (irow .u8 x) (0, 0) (irow .u8 x) _ rp1 (all_rowe _) Tryd.underlying24 rfl (infok8 _ hx) ?_) | (refine wpList_load_part rfl 24 _ rfl (g11) 0 rfl 24 (irow .u8 A) (0, 0) (irow .u8 A) _ rl11 (all_rowe _) Tryd.underlying24 rfl (infok8 _ hA) ?_) | fail)
      go_ret
      exact ⟨rfl, hw⟩
/-- What Included answers. -/
def inE (r : List Int) (n i : Int) (x : List Int) (p : List (List Int)) : Int :=
  if n < 1 ∨ 65536 < n ∨ i < 0 ∨ n ≤ i then 210 else if p.length = lng n.toNat i.toNat ∧ mde sumL n.toNat i.toNat x p = r then 0 else 211
theorem a_Included (r x : List Int) (n i : Int) (p : List (List Int)) (w : World) (v : Value) (hr : Ky r) (hx : Ky x) (hS : Sta w) (hK : Kon w) (hP : Ksl w v p) : Calls Tryd.prog 29 #[.agg (irow .u8 r), .int .i64 n, .int .i64 i, .agg (irow .u8 x), v] w fun e w' => e = .returned (.int .i64 (inE r n i x p)) ∧ Below w.heap.size w w' := by
  unfold inE
  by_cases hb : n < 1 ∨ 65536 < n ∨ i < 0 ∨ n ≤ i
  · rw [if_pos hb]
    exact a_Incl_bad hr.1 hx.1 w n i v (by omega)
  · rw [if_neg hb]
    obtain ⟨N, rfl⟩ := Int.eq_ofNat_of_zero_le (show 0 ≤ n by omega)
    obtain ⟨I, rfl⟩ := Int.eq_ofNat_of_zero_le (show 0 ≤ i by omega)
    rw [Int.toNat_natCast, Int.toNat_natCast]
    obtain ⟨m1, m2⟩ := alo_mde sumL N I x p
    have h := incl_walk (eq := decide ((alo sumL N I x p).1 = r)) hr.1 hx.1 (Ky.alo hx).1 w N I v (by omega) (by omega) (by omega) (fun W hW => a_along N I x p W v (by omega) (by omega) (by omega) hx (hS.below hW) (hK.below hW) (hP.keep hW)) (eqK _ _ (Ky.alo hx).1 hr.1)
    refine h.mono fun e w' ⟨h1, h2⟩ => ⟨?_, h2⟩
    rw [h1, m1, okE_eq]
    by_cases hf : p.length = lng N I
    · rw [m2 hf]; simp [hf]
    · simp [hf]
end Go.Proofs.YtgfeacnhdlgpoaaDoor
