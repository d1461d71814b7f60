import Derived.Test.YtgfeacnhdlgpoaaDoorProg
import Derived.WalkKit
import Derived.WalkSpells
import Derived.WalkLawsBesides
import Derived.Lib.QuietBelow
import Derived.BigQuiet
import Derived.OrdersHeld
import Derived.OwnWalk
import Derived.Deep.RegionHeld3
import Derived.Deep.Cut
import Derived.Deep.CutRange
import Derived.Test.YtgfeacnhdlgpoaaDoorTrj
namespace Go.Proofs.YtgfeacnhdlgpoaaDoor
set_option maxRecDepth 100000
open Go Go.RowKit Go.Sort
attribute [local go_sem] setCell_drewN alloc_drewN
theorem results_cell2_slot {P : Program} {fn : Func} {p q r : Tmp} {ty : TypeId} (h : fn.results = #[.cell p ty, .cell q ty, .tmp r]) (tmps : Array Value) (w : World) (g1 g2 : Nat) (t1 t2 : TypeId) (c1 c2 : Array Value) (f1 f2 : Nat × Nat) (d : TypeDesc) (v : Value)
    (h1 : tmps.getD p undef = .pointer (some ⟨g1, 0, none⟩)) (r1 : w.heap[g1]? = some (.cells c1 t1 f1)) (h2 : tmps.getD q undef = .pointer (some ⟨g2, 0, none⟩)) (r2 : w.heap[g2]? = some (.cells c2 t2 f2)) (h3 : tmps.getD r undef = v)
    (hu : P.underlying ty = some d) (hd : (match d with | .struct _ | .array _ _ => true | _ => false) = true) (i1 : (P.info? ty).map (·.size) = some c1.size) (i2 : (P.info? ty).map (·.size) = some c2.size) :
    (results fn tmps).run P w = .ok (.tuple #[.agg c1, .agg c2, v]) w := by
  have q1 := run_loadVar_row w g1 t1 ty c1 f1 d r1 hu hd i1
  have q2 := run_loadVar_row w g2 t2 ty c2 f2 d r2 hu hd i2
  have p1 : tmps[p]?.getD undef = .pointer (some ⟨g1, 0, none⟩) := by simpa using h1
  have p2 : tmps[q]?.getD undef = .pointer (some ⟨g2, 0, none⟩) := by simpa using h2
  have p3 : tmps[r]?.getD undef = v := by simpa using h3
  simp [results, h, p1, p2, p3, asAddr, q1, q2]
set_option maxRecDepth 100000 in
set_option maxHeartbeats 8000000 in
theorem both_end {x : List Int} (hX : x.length = 32) (w : World) (ao : Option Addr) (pl pc n : Nat) (hpl : pl ≤ 4398046511000) : Calls Tryd.prog 54 #[.slice ao pl pc, .int .i64 (n : Int), .int .i64 (n : Int), .bool true, .agg (irow .u8 x)] w fun e w' => e = .returned (.tuple #[.agg (irow .u8 x), .agg (irow .u8 x), .bool (decide (pl = 0))]) ∧ Below w.heap.size w w' := by
  have d1 : decide ((pl : Int) - 1 < 0) = decide (pl = 0) := by
    congr 1; apply propext; omega
  have d2 : decide ((n : Int) = (n : Int)) = true := by simp
  have q1 : IntKind.i64.wrap ((pl : Int) - 1) = (pl : Int) - 1 := by rw [IntKind.wrap_i64]; omega
  have rp0 := hp3_0 w (.cells (irow .u8 x) 24) (.cells (irow .u8 (zr 32)) 24) (.cells (irow .u8 (zr 32)) 24)
  have rp1 := hp3_1 w (.cells (irow .u8 x) 24) (.cells (irow .u8 (zr 32)) 24) (.cells (irow .u8 (zr 32)) 24)
  have rp2 := hp3_2 w (.cells (irow .u8 x) 24) (.cells (irow .u8 (zr 32)) 24) (.cells (irow .u8 (zr 32)) 24)
  have hw : Below w.heap.size w (((w.alloc (.cells (irow .u8 x) 24)).alloc (.cells (irow .u8 (zr 32)) 24)).alloc (.cells (irow .u8 (zr 32)) 24)) := ((((Below.refl _ _).alloc (Nat.le_refl _) _).alloc (by simp) _).alloc (by simp; omega) _)
  go_enter Tryd.func54, Tryd.ntmps54
  iterate 12 go_step
  try rw [zk32]
  generalize (((w.alloc (.cells (irow .u8 x) 24)).alloc (.cells (irow .u8 (zr 32)) 24)).alloc (.cells (irow .u8 (zr 32)) 24)) = w0 at *
  go_wp2_with (fail)
  have hb : Below w0.heap.size w0 w0.drew := below_drN (Below.refl _ _) 1
  replace rp0 := keep hb rp0
  replace rp1 := keep hb rp1
  replace rp2 := keep hb rp2
  replace hw := Below.after hw hb
  clear hb
  refine wp_region_noPanic ?_
  refine wp_region_held (S := fun W_ => W_.heap[w.heap.size]? = some (.cells (irow .u8 x) 24 (0, 0))) (by kernel_rfl) ?_
  change wpAnyH _ _ _ _ _ _ _ _ (World.drew _)
  generalize w0.drew = wd95 at *
  refine wpAnyH_take (i := 0) (v := .agg (irow .u8 x)) rfl (by kernel_rfl) (by kernel_rfl) (by kernel_rfl) (fun _ _ _ h => h) (Or.inl ⟨by rfl, ?y96⟩) (rp0) ?r96
  case y96 =>
    intro w_ hS_
    simp only [List.getElem_toArray, List.getElem_cons_zero]
    exact e_load_part 24 _ (by rfl) (w.heap.size) 0 (by rfl) 24 (irow .u8 x) (0, 0) (irow .u8 x) _ (hS_) (all_rowe _) Tryd.underlying24 rfl (infok8 _ hX)
  simp only [Act.put, List.getElem_toArray, List.getElem_cons_zero, List.setIfInBounds_toArray, List.set_cons_succ, List.set_cons_zero]
  refine wpAnyH_take (i := 1) (v := .agg (irow .u8 x)) rfl (by kernel_rfl) (by kernel_rfl) (by kernel_rfl) (fun _ _ _ h => h) (Or.inl ⟨by rfl, ?y97⟩) (rp0) ?r97
  case y97 =>
    intro w_ hS_
    simp only [List.getElem_toArray, List.getElem_cons_succ, List.getElem_cons_zero]
    exact e_load_part 24 _ (by rfl) (w.heap.size) 0 (by rfl) 24 (irow .u8 x) (0, 0) (irow .u8 x) _ (hS_) (all_rowe _) Tryd.underlying24 rfl (infok8 _ hX)
  simp only [Act.put, List.getElem_toArray, List.getElem_cons_succ, List.getElem_cons_zero, List.setIfInBounds_toArray, List.set_cons_succ, List.set_cons_zero]
  refine wpAnyH_take (i := 2) (v := ?v98) rfl (by kernel_rfl) (by kernel_rfl) (by kernel_rfl) (fun _ _ _ h => h) (Or.inl ⟨by rfl, ?y98⟩) (rp0) ?r98
  case y98 =>
    intro w_ hS_
    go_simp
    try with_reducible rfl
  simp only [Act.put, List.getElem_toArray, List.getElem_cons_succ, List.getElem_cons_zero, List.setIfInBounds_toArray, List.set_cons_succ, List.set_cons_zero]
  refine wpAnyH_take (i := 3) (v := ?v99) rfl (by kernel_rfl) (by kernel_rfl) (by kernel_rfl) (fun _ _ _ h => h) (Or.inl ⟨by rfl, ?y99⟩) (rp0) ?r99
  case y99 =>
    intro w_ hS_
    go_simp
    try with_reducible rfl
  simp only [Act.put, List.getElem_toArray, List.getElem_cons_succ, List.getElem_cons_zero, List.setIfInBounds_toArray, List.set_cons_succ, List.set_cons_zero]
  refine eH_one (k := 4) (fuel := 2) (by kernel_rfl) rfl (by kernel_rfl) (fun K_ hK_ => ?_)
  refine wp_store_row 24 _ _ rfl (w.heap.size + 1) (irow .u8 x) rfl rfl 24 _ rp1 (infok8 _ hX) (((irow_size _ _).trans (zr_len 32)).trans ((irow_size _ _).trans hX).symm) (irow_one8 _) ?_
  have hN_ := setRow_heap wd95 (w.heap.size + 1) _ (irow .u8 x) _ _ rp1
  replace rp0 := (setRow_other wd95 (w.heap.size + 1) (w.heap.size) (irow .u8 x) (by omega)).trans rp0
  replace rp2 := (setRow_other wd95 (w.heap.size + 1) (w.heap.size + 1 + 1) (irow .u8 x) (by omega)).trans rp2
  replace hw := below_setRow hw (show w.heap.size ≤ w.heap.size + 1 by omega) (irow .u8 x)
  generalize (wd95.setRow (w.heap.size + 1) (irow .u8 x)) = wq100 at *
  clear rp1
  have rp1 := hN_
  clear hN_
  refine hK_ _ _ (rp0) ?_
  simp only [Act.put]
  clear hK_
  refine eH_one (k := 5) (fuel := 1) (by kernel_rfl) rfl (by kernel_rfl) (fun K_ hK_ => ?_)
  refine wp_store_row 24 _ _ rfl (w.heap.size + 1 + 1) (irow .u8 x) rfl rfl 24 _ rp2 (infok8 _ hX) (((irow_size _ _).trans (zr_len 32)).trans ((irow_size _ _).trans hX).symm) (irow_one8 _) ?_
  have hN_ := setRow_heap wq100 (w.heap.size + 1 + 1) _ (irow .u8 x) _ _ rp2
  replace rp0 := (setRow_other wq100 (w.heap.size + 1 + 1) (w.heap.size) (irow .u8 x) (by omega)).trans rp0
  replace rp1 := (setRow_other wq100 (w.heap.size + 1 + 1) (w.heap.size + 1) (irow .u8 x) (by omega)).trans rp1
  replace hw := below_setRow hw (show w.heap.size ≤ w.heap.size + 1 + 1 by omega) (irow .u8 x)
  generalize (wq100.setRow (w.heap.size + 1 + 1) (irow .u8 x)) = wq101 at *
  clear rp2
  have rp2 := hN_
  clear hN_
  refine hK_ _ _ (rp0) ?_
  simp only [Act.put]
  clear hK_
  refine wpAnyH_take (i := 6) (v := ?v102) rfl (by kernel_rfl) (by kernel_rfl) (by kernel_rfl) (fun _ _ _ h => h) (Or.inl ⟨by rfl, ?y102⟩) (rp0) ?r102
  case y102 =>
    intro w_ hS_
    go_simp
    try with_reducible rfl
  simp only [Act.put, List.getElem_toArray, List.getElem_cons_succ, List.getElem_cons_zero, List.setIfInBounds_toArray, List.set_cons_succ, List.set_cons_zero]
  refine wpAnyH_done (by kernel_rfl) ?_ _
  refine NoPanic.normal ?_
  go_wp2_with (fail)
  exact bodyPost_ret (v := .tuple #[.agg (irow .u8 x), .agg (irow .u8 x), .bool (decide (pl = 0))]) (results_cell2_slot Tryd.results54 _ _ (w.heap.size + 1) (w.heap.size + 1 + 1) _ _ (irow .u8 x) (irow .u8 x) _ _ _ _ rfl rp1 rfl rp2 rfl Tryd.underlying24 rfl (infok8 _ hX) (infok8 _ hX)) rfl ⟨rfl, hw⟩
set_option maxRecDepth 100000 in
set_option maxHeartbeats 8000000 in
theorem both_nilf {x : List Int} (_hX : x.length = 32) (w : World) (ao : Option Addr) (pc n : Nat) : Calls Tryd.prog 54 #[.slice ao 0 pc, .int .i64 (n : Int), .int .i64 (n : Int), .bool false, .agg (irow .u8 x)] w fun e w' => e = .returned (.tuple #[.agg (irow .u8 (zr 32)), .agg (irow .u8 (zr 32)), .bool false]) ∧ Below w.heap.size w w' := by
  have d2 : decide ((n : Int) = (n : Int)) = true := by simp
  have rp0 := hp3_0 w (.cells (irow .u8 x) 24) (.cells (irow .u8 (zr 32)) 24) (.cells (irow .u8 (zr 32)) 24)
  have rp1 := hp3_1 w (.cells (irow .u8 x) 24) (.cells (irow .u8 (zr 32)) 24) (.cells (irow .u8 (zr 32)) 24)
  have rp2 := hp3_2 w (.cells (irow .u8 x) 24) (.cells (irow .u8 (zr 32)) 24) (.cells (irow .u8 (zr 32)) 24)
  have hw : Below w.heap.size w (((w.alloc (.cells (irow .u8 x) 24)).alloc (.cells (irow .u8 (zr 32)) 24)).alloc (.cells (irow .u8 (zr 32)) 24)) := ((((Below.refl _ _).alloc (Nat.le_refl _) _).alloc (by simp) _).alloc (by simp; omega) _)
  go_enter Tryd.func54, Tryd.ntmps54
  iterate 12 go_step
  try rw [zk32]
  generalize (((w.alloc (.cells (irow .u8 x) 24)).alloc (.cells (irow .u8 (zr 32)) 24)).alloc (.cells (irow .u8 (zr 32)) 24)) = w0 at *
  go_wp2_with (first | (refine wpList_build_as rfl 24 _ rfl [] rfl (irow .u8 (zr 32)) zkb ?_) | (refine wpList_store_row rfl 24 _ _ rfl (w.heap.size + 1) (irow .u8 (zr 32)) rfl rfl 24 _ rp1 (infok8 _ (zr_len 32)) (((irow_size _ _).trans (zr_len 32)).trans ((irow_size _ _).trans (zr_len 32)).symm) (irow_one8 _) ?_; refine wpList_stay ?_) | fail)
  unfold WpStay
  try simp only [Act.put]
  have hN_ := setRow_heap w0 (w.heap.size + 1) _ (irow .u8 (zr 32)) _ _ rp1
  replace rp0 := (setRow_other w0 (w.heap.size + 1) (w.heap.size) (irow .u8 (zr 32)) (by omega)).trans rp0
  replace rp2 := (setRow_other w0 (w.heap.size + 1) (w.heap.size + 1 + 1) (irow .u8 (zr 32)) (by omega)).trans rp2
  replace hw := below_setRow hw (show w.heap.size ≤ w.heap.size + 1 by omega) (irow .u8 (zr 32))
  generalize (w0.setRow (w.heap.size + 1) (irow .u8 (zr 32))) = wz1 at *
  clear rp1
  have rp1 := hN_
  clear hN_
  go_wp2_with (first | (refine wpList_store_row rfl 24 _ _ rfl (w.heap.size + 1 + 1) (irow .u8 (zr 32)) rfl rfl 24 _ rp2 (infok8 _ (zr_len 32)) (((irow_size _ _).trans (zr_len 32)).trans ((irow_size _ _).trans (zr_len 32)).symm) (irow_one8 _) ?_; refine wpList_stay ?_) | fail)
  unfold WpStay
  try simp only [Act.put]
  have hN_ := setRow_heap wz1 (w.heap.size + 1 + 1) _ (irow .u8 (zr 32)) _ _ rp2
  replace rp0 := (setRow_other wz1 (w.heap.size + 1 + 1) (w.heap.size) (irow .u8 (zr 32)) (by omega)).trans rp0
  replace rp1 := (setRow_other wz1 (w.heap.size + 1 + 1) (w.heap.size + 1) (irow .u8 (zr 32)) (by omega)).trans rp1
  replace hw := below_setRow hw (show w.heap.size ≤ w.heap.size + 1 + 1 by omega) (irow .u8 (zr 32))
  generalize (wz1.setRow (w.heap.size + 1 + 1) (irow .u8 (zr 32))) = wz2 at *
  clear rp2
  have rp2 := hN_
  clear hN_
  go_wp2_with (fail)
  exact bodyPost_ret (v := .tuple #[.agg (irow .u8 (zr 32)), .agg (irow .u8 (zr 32)), .bool false]) (results_cell2_slot Tryd.results54 _ _ (w.heap.size + 1) (w.heap.size + 1 + 1) _ _ (irow .u8 (zr 32)) (irow .u8 (zr 32)) _ _ _ _ rfl rp1 rfl rp2 rfl Tryd.underlying24 rfl (infok8 _ (zr_len 32)) (infok8 _ (zr_len 32))) rfl ⟨rfl, hw⟩
set_option maxRecDepth 100000 in
set_option maxHeartbeats 8000000 in
theorem both_nil {x : List Int} (_hX : x.length = 32) (w : World) (ao : Option Addr) (pc m n : Nat) (hmn : m < n) (wh : Bool) : Calls Tryd.prog 54 #[.slice ao 0 pc, .int .i64 (m : Int), .int .i64 (n : Int), .bool wh, .agg (irow .u8 x)] w fun e w' => e = .returned (.tuple #[.agg (irow .u8 (zr 32)), .agg (irow .u8 (zr 32)), .bool false]) ∧ Below w.heap.size w w' := by
  have d2 : decide ((m : Int) = (n : Int)) = false := by simp; omega
  have rp0 := hp3_0 w (.cells (irow .u8 x) 24) (.cells (irow .u8 (zr 32)) 24) (.cells (irow .u8 (zr 32)) 24)
  have rp1 := hp3_1 w (.cells (irow .u8 x) 24) (.cells (irow .u8 (zr 32)) 24) (.cells (irow .u8 (zr 32)) 24)
  have rp2 := hp3_2 w (.cells (irow .u8 x) 24) (.cells (irow .u8 (zr 32)) 24) (.cells (irow .u8 (zr 32)) 24)
  have hw : Below w.heap.size w (((w.alloc (.cells (irow .u8 x) 24)).alloc (.cells (irow .u8 (zr 32)) 24)).alloc (.cells (irow .u8 (zr 32)) 24)) := ((((Below.refl _ _).alloc (Nat.le_refl _) _).alloc (by simp) _).alloc (by simp; omega) _)
  go_enter Tryd.func54, Tryd.ntmps54
  iterate 12 go_step
  try rw [zk32]
  generalize (((w.alloc (.cells (irow .u8 x) 24)).alloc (.cells (irow .u8 (zr 32)) 24)).alloc (.cells (irow .u8 (zr 32)) 24)) = w0 at *
  go_wp2_with (first | (refine wpList_build_as rfl 24 _ rfl [] rfl (irow .u8 (zr 32)) zkb ?_) | (refine wpList_store_row rfl 24 _ _ rfl (w.heap.size + 1) (irow .u8 (zr 32)) rfl rfl 24 _ rp1 (infok8 _ (zr_len 32)) (((irow_size _ _).trans (zr_len 32)).trans ((irow_size _ _).trans (zr_len 32)).symm) (irow_one8 _) ?_; refine wpList_stay ?_) | fail)
  unfold WpStay
  try simp only [Act.put]
  have hN_ := setRow_heap w0 (w.heap.size + 1) _ (irow .u8 (zr 32)) _ _ rp1
  replace rp0 := (setRow_other w0 (w.heap.size + 1) (w.heap.size) (irow .u8 (zr 32)) (by omega)).trans rp0
  replace rp2 := (setRow_other w0 (w.heap.size + 1) (w.heap.size + 1 + 1) (irow .u8 (zr 32)) (by omega)).trans rp2
  replace hw := below_setRow hw (show w.heap.size ≤ w.heap.size + 1 by omega) (irow .u8 (zr 32))
  generalize (w0.setRow (w.heap.size + 1) (irow .u8 (zr 32))) = wz1 at *
  clear rp1
  have rp1 := hN_
  clear hN_
  go_wp2_with (first | (refine wpList_store_row rfl 24 _ _ rfl (w.heap.size + 1 + 1) (irow .u8 (zr 32)) rfl rfl 24 _ rp2 (infok8 _ (zr_len 32)) (((irow_size _ _).trans (zr_len 32)).trans ((irow_size _ _).trans (zr_len 32)).symm) (irow_one8 _) ?_; refine wpList_stay ?_) | fail)
  unfold WpStay
  try simp only [Act.put]
  have hN_ := setRow_heap wz1 (w.heap.size + 1 + 1) _ (irow .u8 (zr 32)) _ _ rp2
  replace rp0 := (setRow_other wz1 (w.heap.size + 1 + 1) (w.heap.size) (irow .u8 (zr 32)) (by omega)).trans rp0
  replace rp1 := (setRow_other wz1 (w.heap.size + 1 + 1) (w.heap.size + 1) (irow .u8 (zr 32)) (by omega)).trans rp1
  replace hw := below_setRow hw (show w.heap.size ≤ w.heap.size + 1 + 1 by omega) (irow .u8 (zr 32))
  generalize (wz1.setRow (w.heap.size + 1 + 1) (irow .u8 (zr 32))) = wz2 at *
  clear rp2
  have rp2 := hN_
  clear hN_
  go_wp2_with (fail)
  exact bodyPost_ret (v := .tuple #[.agg (irow .u8 (zr 32)), .agg (irow .u8 (zr 32)), .bool false]) (results_cell2_slot Tryd.results54 _ _ (w.heap.size + 1) (w.heap.size + 1 + 1) _ _ (irow .u8 (zr 32)) (irow .u8 (zr 32)) _ _ _ _ rfl rp1 rfl rp2 rfl Tryd.underlying24 rfl (infok8 _ (zr_len 32)) (infok8 _ (zr_len 32))) rfl ⟨rfl, hw⟩
set_option maxRecDepth 100000 in
set_option maxHeartbeats 8000000 in
theorem both_last {x E : List Int} (_hX : x.length = 32) (hE : E.length = 32) (w : World) (n j : Nat) (hjl : j ≤ 4398046511000) (pg po pc : Nat) (pcs : Array Value) (pt : TypeId) (pf : Nat × Nat) (hpg : w.heap[pg]? = some (.cells pcs pt pf)) (_hmc : j + 1 ≤ pc) (hx : pcs.extract (po + j * 32) (po + j * 32 + (irow .u8 E).size) = irow .u8 E) : Calls Tryd.prog 54 #[.slice (some ⟨pg, po, none⟩) (j + 1) pc, .int .i64 (n : Int), .int .i64 (n : Int), .bool false, .agg (irow .u8 x)] w fun e w' => e = .returned (.tuple #[.agg (irow .u8 E), .agg (irow .u8 E), .bool (decide (j = 0))]) ∧ Below w.heap.size w w' := by
  have d1 : ((j : Int) == 0) = decide (j = 0) := by by_cases h : j = 0 <;> simp [h]
  have d2 : decide ((n : Int) = (n : Int)) = true := by simp
  have jm : (j : Int) < (j : Int) + 1 := by omega
  have qm : IntKind.i64.wrap (j : Int) = (j : Int) := by rw [IntKind.wrap_i64]; omega
  have rp0 := hp3_0 w (.cells (irow .u8 x) 24) (.cells (irow .u8 (zr 32)) 24) (.cells (irow .u8 (zr 32)) 24)
  have rp1 := hp3_1 w (.cells (irow .u8 x) 24) (.cells (irow .u8 (zr 32)) 24) (.cells (irow .u8 (zr 32)) 24)
  have rp2 := hp3_2 w (.cells (irow .u8 x) 24) (.cells (irow .u8 (zr 32)) 24) (.cells (irow .u8 (zr 32)) 24)
  have hw : Below w.heap.size w (((w.alloc (.cells (irow .u8 x) 24)).alloc (.cells (irow .u8 (zr 32)) 24)).alloc (.cells (irow .u8 (zr 32)) 24)) := ((((Below.refl _ _).alloc (Nat.le_refl _) _).alloc (by simp) _).alloc (by simp; omega) _)
  go_enter Tryd.func54, Tryd.ntmps54
  iterate 12 go_step
  try rw [zk32]
  generalize (((w.alloc (.cells (irow .u8 x) 24)).alloc (.cells (irow .u8 (zr 32)) 24)).alloc (.cells (irow .u8 (zr 32)) 24)) = w0 at *
  have rq := keep hw hpg
  have lpg := lt_of_row hpg
  go_wp2_with (first | (refine wpList_store_row rfl 24 _ _ rfl (w0.heap.size) (irow .u8 E) rfl rfl 24 (irow .u8 (zr 32)) (hp1_0 w0 _) (infok8 _ hE) (((irow_size _ _).trans (zr_len 32)).trans ((irow_size _ _).trans hE).symm) (irow_one8 _) ?_; rw [setRow_alloc_new _ _ _ _ _ _ (by simp)]; refine wpList_stay ?_) | (refine wpList_load_part rfl 24 _ rfl pg (po + j * 32) rfl pt pcs pf (irow .u8 E) _ rq hx Tryd.underlying24 rfl (infok8 _ hE) ?_) | fail)
  unfold WpStay
  try simp only [Act.put]
  have rl14 : (w0.alloc (.cells (irow .u8 E) 24)).heap[w0.heap.size]? = some (.cells (irow .u8 E) 24 (0, 0)) := hp1_0 w0 _
  have hb : Below w0.heap.size w0 (w0.alloc (.cells (irow .u8 E) 24)) := ((Below.refl _ _).alloc (Nat.le_refl _) _)
  generalize (w0.alloc (.cells (irow .u8 E) 24)) = w1 at *
  have lt_g14_0 := lt_of_row rp0
  have lt_g14_1 := lt_of_row rp1
  have lt_g14_2 := lt_of_row rp2
  have sz_g14 := hw.size
  replace rp0 := keep hb rp0
  replace rp1 := keep hb rp1
  replace rp2 := keep hb rp2
  replace rq := keep hb rq
  replace hw := Below.after hw hb
  clear hb
  generalize w0.heap.size = g14 at *
  clear w0
  go_wp2_with (fail)
  have hb : Below w1.heap.size w1 w1.drew := below_drN (Below.refl _ _) 1
  replace rp0 := keep hb rp0
  replace rp1 := keep hb rp1
  replace rp2 := keep hb rp2
  replace rl14 := keep hb rl14
  replace rq := keep hb rq
  replace hw := Below.after hw hb
  clear hb
  refine wp_region_noPanic ?_
  refine wp_region_held (S := fun W_ => W_.heap[g14]? = some (.cells (irow .u8 E) 24 (0, 0))) (by kernel_rfl) ?_
  change wpAnyH _ _ _ _ _ _ _ _ (World.drew _)
  generalize w1.drew = wd103 at *
  refine wpAnyH_take (i := 0) (v := .agg (irow .u8 E)) rfl (by kernel_rfl) (by kernel_rfl) (by kernel_rfl) (fun _ _ _ h => h) (Or.inl ⟨by rfl, ?y104⟩) (rl14) ?r104
  case y104 =>
    intro w_ hS_
    simp only [List.getElem_toArray, List.getElem_cons_zero]
    exact e_load_part 24 _ (by rfl) (g14) 0 (by rfl) 24 (irow .u8 E) (0, 0) (irow .u8 E) _ (hS_) (all_rowe _) Tryd.underlying24 rfl (infok8 _ hE)
  simp only [Act.put, List.getElem_toArray, List.getElem_cons_zero, List.setIfInBounds_toArray, List.set_cons_succ, List.set_cons_zero]
  refine wpAnyH_take (i := 1) (v := .agg (irow .u8 E)) rfl (by kernel_rfl) (by kernel_rfl) (by kernel_rfl) (fun _ _ _ h => h) (Or.inl ⟨by rfl, ?y105⟩) (rl14) ?r105
  case y105 =>
    intro w_ hS_
    simp only [List.getElem_toArray, List.getElem_cons_succ, List.getElem_cons_zero]
    exact e_load_part 24 _ (by rfl) (g14) 0 (by rfl) 24 (irow .u8 E) (0, 0) (irow .u8 E) _ (hS_) (all_rowe _) Tryd.underlying24 rfl (infok8 _ hE)
  simp only [Act.put, List.getElem_toArray, List.getElem_cons_succ, List.getElem_cons_zero, List.setIfInBounds_toArray, List.set_cons_succ, List.set_cons_zero]
  refine wpAnyH_take (i := 2) (v := ?v106) rfl (by kernel_rfl) (by kernel_rfl) (by kernel_rfl) (fun _ _ _ h => h) (Or.inl ⟨by rfl, ?y106⟩) (rl14) ?r106
  case y106 =>
    intro w_ hS_
    go_simp
    try with_reducible rfl
  simp only [Act.put, List.getElem_toArray, List.getElem_cons_succ, List.getElem_cons_zero, List.setIfInBounds_toArray, List.set_cons_succ, List.set_cons_zero]
  refine wpAnyH_take (i := 3) (v := ?v107) rfl (by kernel_rfl) (by kernel_rfl) (by kernel_rfl) (fun _ _ _ h => h) (Or.inl ⟨by rfl, ?y107⟩) (rl14) ?r107
  case y107 =>
    intro w_ hS_
    go_simp
    try with_reducible rfl
  simp only [Act.put, List.getElem_toArray, List.getElem_cons_succ, List.getElem_cons_zero, List.setIfInBounds_toArray, List.set_cons_succ, List.set_cons_zero]
  refine eH_one (k := 4) (fuel := 2) (by kernel_rfl) rfl (by kernel_rfl) (fun K_ hK_ => ?_)
  refine wp_store_row 24 _ _ rfl (w.heap.size + 1) (irow .u8 E) rfl rfl 24 _ rp1 (infok8 _ hE) (((irow_size _ _).trans (zr_len 32)).trans ((irow_size _ _).trans hE).symm) (irow_one8 _) ?_
  have hN_ := setRow_heap wd103 (w.heap.size + 1) _ (irow .u8 E) _ _ rp1
  replace rp0 := (setRow_other wd103 (w.heap.size + 1) (w.heap.size) (irow .u8 E) (by omega)).trans rp0
  replace rp2 := (setRow_other wd103 (w.heap.size + 1) (w.heap.size + 1 + 1) (irow .u8 E) (by omega)).trans rp2
  replace rl14 := (setRow_other wd103 (w.heap.size + 1) (g14) (irow .u8 E) (by omega)).trans rl14
  replace hw := below_setRow hw (show w.heap.size ≤ w.heap.size + 1 by omega) (irow .u8 E)
  replace rq := (setRow_other wd103 (w.heap.size + 1) pg (irow .u8 E) (by omega)).trans rq
  generalize (wd103.setRow (w.heap.size + 1) (irow .u8 E)) = wq108 at *
  clear rp1
  have rp1 := hN_
  clear hN_
  refine hK_ _ _ (rl14) ?_
  simp only [Act.put]
  clear hK_
  refine eH_one (k := 5) (fuel := 1) (by kernel_rfl) rfl (by kernel_rfl) (fun K_ hK_ => ?_)
  refine wp_store_row 24 _ _ rfl (w.heap.size + 1 + 1) (irow .u8 E) rfl rfl 24 _ rp2 (infok8 _ hE) (((irow_size _ _).trans (zr_len 32)).trans ((irow_size _ _).trans hE).symm) (irow_one8 _) ?_
  have hN_ := setRow_heap wq108 (w.heap.size + 1 + 1) _ (irow .u8 E) _ _ rp2
  replace rp0 := (setRow_other wq108 (w.heap.size + 1 + 1) (w.heap.size) (irow .u8 E) (by omega)).trans rp0
  replace rp1 := (setRow_other wq108 (w.heap.size + 1 + 1) (w.heap.size + 1) (irow .u8 E) (by omega)).trans rp1
  replace rl14 := (setRow_other wq108 (w.heap.size + 1 + 1) (g14) (irow .u8 E) (by omega)).trans rl14
  replace hw := below_setRow hw (show w.heap.size ≤ w.heap.size + 1 + 1 by omega) (irow .u8 E)
  replace rq := (setRow_other wq108 (w.heap.size + 1 + 1) pg (irow .u8 E) (by omega)).trans rq
  generalize (wq108.setRow (w.heap.size + 1 + 1) (irow .u8 E)) = wq109 at *
  clear rp2
  have rp2 := hN_
  clear hN_
  refine hK_ _ _ (rl14) ?_
  simp only [Act.put]
  clear hK_
  refine wpAnyH_take (i := 6) (v := ?v110) rfl (by kernel_rfl) (by kernel_rfl) (by kernel_rfl) (fun _ _ _ h => h) (Or.inl ⟨by rfl, ?y110⟩) (rl14) ?r110
  case y110 =>
    intro w_ hS_
    go_simp
    try with_reducible rfl
  simp only [Act.put, List.getElem_toArray, List.getElem_cons_succ, List.getElem_cons_zero, List.setIfInBounds_toArray, List.set_cons_succ, List.set_cons_zero]
  refine wpAnyH_done (by kernel_rfl) ?_ _
  refine NoPanic.normal ?_
  go_wp2_with (fail)
  exact bodyPost_ret (v := .tuple #[.agg (irow .u8 E), .agg (irow .u8 E), .bool (decide (j = 0))]) (results_cell2_slot Tryd.results54 _ _ (w.heap.size + 1) (w.heap.size + 1 + 1) _ _ (irow .u8 E) (irow .u8 E) _ _ _ _ rfl rp1 rfl rp2 rfl Tryd.underlying24 rfl (infok8 _ hE) (infok8 _ hE)) rfl ⟨rfl, hw⟩
set_option maxRecDepth 100000 in
set_option maxHeartbeats 8000000 in
theorem both_lo {x A B E R : List Int} {f : Bool} (hX : x.length = 32) (hA : A.length = 32) (hB : B.length = 32) (hE : E.length = 32) (hR : R.length = 32) (w : World) (n k m j : Nat) (wh : Bool) (_hm : n ≤ 4398046511000) (_hk : k < n) (hi : m ≤ k) (hmn : m < n) (hjl : j ≤ 4398046511000) (pg po pc : Nat) (pcs : Array Value) (pt : TypeId) (pf : Nat × Nat) (hpg : w.heap[pg]? = some (.cells pcs pt pf)) (hmc : j + 1 ≤ pc) (hx : pcs.extract (po + j * 32) (po + j * 32 + (irow .u8 E).size) = irow .u8 E) (cC : Gives 44 #[.int .i64 (n : Int)] (.int .i64 (k : Int))) (cP : (∀ W, Below w.heap.size w W → Calls Tryd.prog 54 #[.slice (some ⟨pg, po, none⟩) j pc, .int .i64 (m : Int), .int .i64 (k : Int), .bool wh, .agg (irow .u8 x)] W fun e w' => e = .returned (.tuple #[.agg (irow .u8 A), .agg (irow .u8 B), .bool f]) ∧ Below W.heap.size W w')) (cN2 : (∀ W, Below w.heap.size w W → Calls Tryd.prog 15 #[.agg (irow .u8 B), .agg (irow .u8 E)] W fun e w' => e = .returned (.agg (irow .u8 R)) ∧ Below W.heap.size W w')) : Calls Tryd.prog 54 #[.slice (some ⟨pg, po, none⟩) (j + 1) pc, .int .i64 (m : Int), .int .i64 (n : Int), .bool wh, .agg (irow .u8 x)] w fun e w' => e = .returned (.tuple #[.agg (irow .u8 A), .agg (irow .u8 R), .bool f]) ∧ Below w.heap.size w w' := by
  have d1 : decide ((m : Int) = (n : Int)) = false := by simp; omega
  have d2 : decide ((m : Int) ≤ (k : Int)) = true := by simp; omega
  have jm : (j : Int) < (j : Int) + 1 := by omega
  have qm : IntKind.i64.wrap (j : Int) = (j : Int) := by rw [IntKind.wrap_i64]; omega
  have rp0 := hp3_0 w (.cells (irow .u8 x) 24) (.cells (irow .u8 (zr 32)) 24) (.cells (irow .u8 (zr 32)) 24)
  have rp1 := hp3_1 w (.cells (irow .u8 x) 24) (.cells (irow .u8 (zr 32)) 24) (.cells (irow .u8 (zr 32)) 24)
  have rp2 := hp3_2 w (.cells (irow .u8 x) 24) (.cells (irow .u8 (zr 32)) 24) (.cells (irow .u8 (zr 32)) 24)
  have hw : Below w.heap.size w (((w.alloc (.cells (irow .u8 x) 24)).alloc (.cells (irow .u8 (zr 32)) 24)).alloc (.cells (irow .u8 (zr 32)) 24)) := ((((Below.refl _ _).alloc (Nat.le_refl _) _).alloc (by simp) _).alloc (by simp; omega) _)
  go_enter Tryd.func54, Tryd.ntmps54
  iterate 12 go_step
  try rw [zk32]
  generalize (((w.alloc (.cells (irow .u8 x) 24)).alloc (.cells (irow .u8 (zr 32)) 24)).alloc (.cells (irow .u8 (zr 32)) 24)) = w0 at *
  have rq := keep hw hpg
  have lpg := lt_of_row hpg
  go_wp2_with (first | (refine wpList_store_row rfl 24 _ _ rfl (w0.heap.size) (irow .u8 E) rfl rfl 24 (irow .u8 (zr 32)) (hp1_0 w0 _) (infok8 _ hE) (((irow_size _ _).trans (zr_len 32)).trans ((irow_size _ _).trans hE).symm) (irow_one8 _) ?_; rw [setRow_alloc_new _ _ _ _ _ _ (by simp)]; refine wpList_stay ?_) | (refine wpList_load_part rfl 24 _ rfl pg (po + j * 32) rfl pt pcs pf (irow .u8 E) _ rq hx Tryd.underlying24 rfl (infok8 _ hE) ?_) | fail)
  unfold WpStay
  try simp only [Act.put]
  have rl14 : (w0.alloc (.cells (irow .u8 E) 24)).heap[w0.heap.size]? = some (.cells (irow .u8 E) 24 (0, 0)) := hp1_0 w0 _
  have hb : Below w0.heap.size w0 (w0.alloc (.cells (irow .u8 E) 24)) := ((Below.refl _ _).alloc (Nat.le_refl _) _)
  generalize (w0.alloc (.cells (irow .u8 E) 24)) = w1 at *
  have lt_g14_0 := lt_of_row rp0
  have lt_g14_1 := lt_of_row rp1
  have lt_g14_2 := lt_of_row rp2
  have sz_g14 := hw.size
  replace rp0 := keep hb rp0
  replace rp1 := keep hb rp1
  replace rp2 := keep hb rp2
  replace rq := keep hb rq
  replace hw := Below.after hw hb
  clear hb
  generalize w0.heap.size = g14 at *
  clear w0
  go_wp2_with (fail)
  refine (cC.at _).mono ?_
  rintro e_ w2 ⟨rfl, hb⟩
  replace rp0 := keep hb rp0
  replace rp1 := keep hb rp1
  replace rp2 := keep hb rp2
  replace rl14 := keep hb rl14
  replace rq := keep hb rq
  replace hw := Below.after hw hb
  clear hb
  clear cC
  go_wp2_with (fail)
  have hb : Below w2.heap.size w2 w2.drew := below_drN (Below.refl _ _) 1
  replace rp0 := keep hb rp0
  replace rp1 := keep hb rp1
  replace rp2 := keep hb rp2
  replace rl14 := keep hb rl14
  replace rq := keep hb rq
  replace hw := Below.after hw hb
  clear hb
  refine wp_region_noPanic ?_
  refine wp_region_held (S := fun W_ => W_.heap[w.heap.size]? = some (.cells (irow .u8 x) 24 (0, 0))) (by kernel_rfl) ?_
  change wpAnyH _ _ _ _ _ _ _ _ (World.drew _)
  generalize w2.drew = wd111 at *
  refine wpAnyH_take (i := 0) (v := ?v112) rfl (by kernel_rfl) (by kernel_rfl) (by kernel_rfl) (fun _ _ _ h => h) (Or.inl ⟨by rfl, ?y112⟩) (rp0) ?r112
  case y112 =>
    intro w_ hS_
    go_simp
    try with_reducible rfl
  simp only [Act.put, List.getElem_toArray, List.getElem_cons_zero, List.setIfInBounds_toArray, List.set_cons_succ, List.set_cons_zero]
  refine wpAnyH_take (i := 1) (v := ?v113) rfl (by kernel_rfl) (by kernel_rfl) (by kernel_rfl) (fun _ _ _ h => h) (Or.inl ⟨by rfl, ?y113⟩) (rp0) ?r113
  case y113 =>
    intro w_ hS_
    go_simp
    try with_reducible rfl
  simp only [Act.put, List.getElem_toArray, List.getElem_cons_succ, List.getElem_cons_zero, List.setIfInBounds_toArray, List.set_cons_succ, List.set_cons_zero]
  refine wpAnyH_take (i := 2) (v := .slice (some ⟨pg, po, none⟩) j pc) rfl (by kernel_rfl) (by kernel_rfl) (by kernel_rfl) (fun _ _ _ h => h) (Or.inl ⟨by rfl, ?y114⟩) (rp0) ?r114
  case y114 =>
    intro w_ hS_
    simp only [List.getElem_toArray, List.getElem_cons_succ, List.getElem_cons_zero]
    exact e_slice _ _ _ _ rfl _ (slk_head _ _ _ j (by omega) (by intro e; cases e) _)
  simp only [Act.put, List.getElem_toArray, List.getElem_cons_succ, List.getElem_cons_zero, List.setIfInBounds_toArray, List.set_cons_succ, List.set_cons_zero]
  refine wpAnyH_take (i := 3) (v := ?v115) rfl (by kernel_rfl) (by kernel_rfl) (by kernel_rfl) (fun _ _ _ h => h) (Or.inl ⟨by rfl, ?y115⟩) (rp0) ?r115
  case y115 =>
    intro w_ hS_
    go_simp
    try with_reducible rfl
  simp only [Act.put, List.getElem_toArray, List.getElem_cons_succ, List.getElem_cons_zero, List.setIfInBounds_toArray, List.set_cons_succ, List.set_cons_zero]
  refine wpAnyH_take (i := 4) (v := ?v116) rfl (by kernel_rfl) (by kernel_rfl) (by kernel_rfl) (fun _ _ _ h => h) (Or.inl ⟨by rfl, ?y116⟩) (rp0) ?r116
  case y116 =>
    intro w_ hS_
    go_simp
    try with_reducible rfl
  simp only [Act.put, List.getElem_toArray, List.getElem_cons_succ, List.getElem_cons_zero, List.setIfInBounds_toArray, List.set_cons_succ, List.set_cons_zero]
  refine wpAnyH_take (i := 5) (v := ?v117) rfl (by kernel_rfl) (by kernel_rfl) (by kernel_rfl) (fun _ _ _ h => h) (Or.inl ⟨by rfl, ?y117⟩) (rp0) ?r117
  case y117 =>
    intro w_ hS_
    go_simp
    try with_reducible rfl
  simp only [Act.put, List.getElem_toArray, List.getElem_cons_succ, List.getElem_cons_zero, List.setIfInBounds_toArray, List.set_cons_succ, List.set_cons_zero]
  refine wpAnyH_take (i := 6) (v := .agg (irow .u8 x)) rfl (by kernel_rfl) (by kernel_rfl) (by kernel_rfl) (fun _ _ _ h => h) (Or.inl ⟨by rfl, ?y118⟩) (rp0) ?r118
  case y118 =>
    intro w_ hS_
    simp only [List.getElem_toArray, List.getElem_cons_succ, List.getElem_cons_zero]
    exact e_load_part 24 _ (by rfl) (w.heap.size) 0 (by rfl) 24 (irow .u8 x) (0, 0) (irow .u8 x) _ (hS_) (all_rowe _) Tryd.underlying24 rfl (infok8 _ hX)
  simp only [Act.put, List.getElem_toArray, List.getElem_cons_succ, List.getElem_cons_zero, List.setIfInBounds_toArray, List.set_cons_succ, List.set_cons_zero]
  refine eH_one (k := 7) (fuel := 7) (by kernel_rfl) rfl (by kernel_rfl) (fun K_ hK_ => ?_)
  refine wp_call_ex (f := 54) (by kernel_rfl) (ex1e (cP _ hw)) (fun v_ wq119 hX_ => ?_)
  obtain ⟨rfl, hb⟩ := hX_
  replace rp0 := keep hb rp0
  replace rp1 := keep hb rp1
  replace rp2 := keep hb rp2
  replace rl14 := keep hb rl14
  replace rq := keep hb rq
  replace hw := Below.after hw hb
  clear hb
  refine hK_ _ _ (rp0) ?_
  simp only [Act.put, List.getElem_toArray, List.getElem_cons_succ, List.getElem_cons_zero, List.setIfInBounds_toArray, List.set_cons_succ, List.set_cons_zero]
  clear hK_
  refine wpAnyH_take (i := 8) (v := ?v120) rfl (by kernel_rfl) (by kernel_rfl) (by kernel_rfl) (fun _ _ _ h => h) (Or.inl ⟨by rfl, ?y120⟩) (rp0) ?r120
  case y120 =>
    intro w_ hS_
    go_simp
    try with_reducible rfl
  simp only [Act.put, List.getElem_toArray, List.getElem_cons_succ, List.getElem_cons_zero, List.setIfInBounds_toArray, List.set_cons_succ, List.set_cons_zero]
  refine wpAnyH_take (i := 9) (v := ?v121) rfl (by kernel_rfl) (by kernel_rfl) (by kernel_rfl) (fun _ _ _ h => h) (Or.inl ⟨by rfl, ?y121⟩) (rp0) ?r121
  case y121 =>
    intro w_ hS_
    go_simp
    try with_reducible rfl
  simp only [Act.put, List.getElem_toArray, List.getElem_cons_succ, List.getElem_cons_zero, List.setIfInBounds_toArray, List.set_cons_succ, List.set_cons_zero]
  refine wpAnyH_take (i := 10) (v := ?v122) rfl (by kernel_rfl) (by kernel_rfl) (by kernel_rfl) (fun _ _ _ h => h) (Or.inl ⟨by rfl, ?y122⟩) (rp0) ?r122
  case y122 =>
    intro w_ hS_
    go_simp
    try with_reducible rfl
  simp only [Act.put, List.getElem_toArray, List.getElem_cons_succ, List.getElem_cons_zero, List.setIfInBounds_toArray, List.set_cons_succ, List.set_cons_zero]
  refine wpAnyH_take (i := 11) (v := ?v123) rfl (by kernel_rfl) (by kernel_rfl) (by kernel_rfl) (fun _ _ _ h => h) (Or.inl ⟨by rfl, ?y123⟩) (rp0) ?r123
  case y123 =>
    intro w_ hS_
    go_simp
    try with_reducible rfl
  simp only [Act.put, List.getElem_toArray, List.getElem_cons_succ, List.getElem_cons_zero, List.setIfInBounds_toArray, List.set_cons_succ, List.set_cons_zero]
  refine eH_one (k := 12) (fuel := 2) (by kernel_rfl) rfl (by kernel_rfl) (fun K_ hK_ => ?_)
  refine wp_store_row 24 _ _ rfl (w.heap.size + 1) (irow .u8 A) rfl rfl 24 _ rp1 (infok8 _ hA) (((irow_size _ _).trans (zr_len 32)).trans ((irow_size _ _).trans hA).symm) (irow_one8 _) ?_
  have hN_ := setRow_heap wq119 (w.heap.size + 1) _ (irow .u8 A) _ _ rp1
  replace rp0 := (setRow_other wq119 (w.heap.size + 1) (w.heap.size) (irow .u8 A) (by omega)).trans rp0
  replace rp2 := (setRow_other wq119 (w.heap.size + 1) (w.heap.size + 1 + 1) (irow .u8 A) (by omega)).trans rp2
  replace rl14 := (setRow_other wq119 (w.heap.size + 1) (g14) (irow .u8 A) (by omega)).trans rl14
  replace hw := below_setRow hw (show w.heap.size ≤ w.heap.size + 1 by omega) (irow .u8 A)
  replace rq := (setRow_other wq119 (w.heap.size + 1) pg (irow .u8 A) (by omega)).trans rq
  generalize (wq119.setRow (w.heap.size + 1) (irow .u8 A)) = wq124 at *
  clear rp1
  have rp1 := hN_
  clear hN_
  refine hK_ _ _ (rp0) ?_
  simp only [Act.put]
  clear hK_
  refine eH_one (k := 13) (fuel := 1) (by kernel_rfl) rfl (by kernel_rfl) (fun K_ hK_ => ?_)
  refine wp_store_row 24 _ _ rfl (w.heap.size + 1 + 1) (irow .u8 B) rfl rfl 24 _ rp2 (infok8 _ hB) (((irow_size _ _).trans (zr_len 32)).trans ((irow_size _ _).trans hB).symm) (irow_one8 _) ?_
  have hN_ := setRow_heap wq124 (w.heap.size + 1 + 1) _ (irow .u8 B) _ _ rp2
  replace rp0 := (setRow_other wq124 (w.heap.size + 1 + 1) (w.heap.size) (irow .u8 B) (by omega)).trans rp0
  replace rp1 := (setRow_other wq124 (w.heap.size + 1 + 1) (w.heap.size + 1) (irow .u8 B) (by omega)).trans rp1
  replace rl14 := (setRow_other wq124 (w.heap.size + 1 + 1) (g14) (irow .u8 B) (by omega)).trans rl14
  replace hw := below_setRow hw (show w.heap.size ≤ w.heap.size + 1 + 1 by omega) (irow .u8 B)
  replace rq := (setRow_other wq124 (w.heap.size + 1 + 1) pg (irow .u8 B) (by omega)).trans rq
  generalize (wq124.setRow (w.heap.size + 1 + 1) (irow .u8 B)) = wq125 at *
  clear rp2
  have rp2 := hN_
  clear hN_
  refine hK_ _ _ (rp0) ?_
  simp only [Act.put]
  clear hK_
  refine wpAnyH_take (i := 14) (v := ?v126) rfl (by kernel_rfl) (by kernel_rfl) (by kernel_rfl) (fun _ _ _ h => h) (Or.inl ⟨by rfl, ?y126⟩) (rp0) ?r126
  case y126 =>
    intro w_ hS_
    go_simp
    try with_reducible rfl
  simp only [Act.put, List.getElem_toArray, List.getElem_cons_succ, List.getElem_cons_zero, List.setIfInBounds_toArray, List.set_cons_succ, List.set_cons_zero]
  refine wpAnyH_done (by kernel_rfl) ?_ _
  refine NoPanic.normal ?_
  go_wp2_with (fail)
  have hb : Below wq125.heap.size wq125 wq125.drew := below_drN (Below.refl _ _) 1
  replace rp0 := keep hb rp0
  replace rp1 := keep hb rp1
  replace rp2 := keep hb rp2
  replace rl14 := keep hb rl14
  replace rq := keep hb rq
  replace hw := Below.after hw hb
  clear hb
  refine wp_region_noPanic ?_
  refine wp_region_held (S := fun W_ => W_.heap[g14]? = some (.cells (irow .u8 E) 24 (0, 0))) (by kernel_rfl) ?_
  change wpAnyH _ _ _ _ _ _ _ _ (World.drew _)
  generalize wq125.drew = wd127 at *
  refine wpAnyH_take (i := 2) (v := .agg (irow .u8 E)) rfl (by kernel_rfl) (by kernel_rfl) (by kernel_rfl) (fun _ _ _ h => h) (Or.inl ⟨by rfl, ?y128⟩) (rl14) ?r128
  case y128 =>
    intro w_ hS_
    simp only [List.getElem_toArray, List.getElem_cons_succ, List.getElem_cons_zero]
    exact e_load_part 24 _ (by rfl) (g14) 0 (by rfl) 24 (irow .u8 E) (0, 0) (irow .u8 E) _ (hS_) (all_rowe _) Tryd.underlying24 rfl (infok8 _ hE)
  simp only [Act.put, List.getElem_toArray, List.getElem_cons_succ, List.getElem_cons_zero, List.setIfInBounds_toArray, List.set_cons_succ, List.set_cons_zero]
  refine wpAnyH_take (i := 4) (v := ?v129) rfl (by kernel_rfl) (by kernel_rfl) (by kernel_rfl) (fun _ _ _ h => h) (Or.inl ⟨by rfl, ?y129⟩) (rl14) ?r129
  case y129 =>
    intro w_ hS_
    go_simp
    try with_reducible rfl
  simp only [Act.put, List.getElem_toArray, List.getElem_cons_succ, List.getElem_cons_zero, List.setIfInBounds_toArray, List.set_cons_succ, List.set_cons_zero]
  refine eH_two (j := 0) (k := 1) (fuel := 5) (by kernel_rfl) rfl rfl (by kernel_rfl) (by kernel_rfl) (fun K_ hK_ => ?_) (fun K_ hK_ => ?_)
  · skip
    refine e_world_op (.agg (irow .u8 A)) _ (e_load_part 24 _ rfl (w.heap.size + 1) 0 rfl 24 (irow .u8 A) (0, 0) (irow .u8 A) _ rp1 (all_rowe _) Tryd.underlying24 rfl (infok8 _ hA)) ?_
    refine hK_ _ _ (rl14) ?_
    simp only [Act.put, List.getElem_toArray, List.getElem_cons_zero, List.setIfInBounds_toArray, List.set_cons_succ, List.set_cons_zero]
    clear hK_
    refine eH_one (k := 1) (fuel := 4) (by kernel_rfl) rfl (by kernel_rfl) (fun K_ hK_ => ?_)
    refine e_world_op (.agg (irow .u8 B)) _ (e_load_part 24 _ rfl (w.heap.size + 1 + 1) 0 rfl 24 (irow .u8 B) (0, 0) (irow .u8 B) _ rp2 (all_rowe _) Tryd.underlying24 rfl (infok8 _ hB)) ?_
    refine hK_ _ _ (rl14) ?_
    simp only [Act.put, List.getElem_toArray, List.getElem_cons_succ, List.getElem_cons_zero, List.setIfInBounds_toArray, List.set_cons_succ, List.set_cons_zero]
    clear hK_
    refine eH_one (k := 3) (fuel := 3) (by kernel_rfl) rfl (by kernel_rfl) (fun K_ hK_ => ?_)
    refine wp_call_ex (f := 15) (by kernel_rfl) (ex1e (cN2 _ hw)) (fun v_ wq130 hX_ => ?_)
    obtain ⟨rfl, hb⟩ := hX_
    replace rp0 := keep hb rp0
    replace rp1 := keep hb rp1
    replace rp2 := keep hb rp2
    replace rl14 := keep hb rl14
    replace rq := keep hb rq
    replace hw := Below.after hw hb
    clear hb
    refine hK_ _ _ (rl14) ?_
    simp only [Act.put, List.getElem_toArray, List.getElem_cons_succ, List.getElem_cons_zero, List.setIfInBounds_toArray, List.set_cons_succ, List.set_cons_zero]
    clear hK_
    refine eH_one (k := 5) (fuel := 2) (by kernel_rfl) rfl (by kernel_rfl) (fun K_ hK_ => ?_)
    refine wp_store_row 24 _ _ rfl (w.heap.size + 1) (irow .u8 A) rfl rfl 24 _ rp1 (infok8 _ hA) (((irow_size _ _).trans hA).trans ((irow_size _ _).trans hA).symm) (irow_one8 _) ?_
    have hN_ := setRow_heap wq130 (w.heap.size + 1) _ (irow .u8 A) _ _ rp1
    replace rp0 := (setRow_other wq130 (w.heap.size + 1) (w.heap.size) (irow .u8 A) (by omega)).trans rp0
    replace rp2 := (setRow_other wq130 (w.heap.size + 1) (w.heap.size + 1 + 1) (irow .u8 A) (by omega)).trans rp2
    replace rl14 := (setRow_other wq130 (w.heap.size + 1) (g14) (irow .u8 A) (by omega)).trans rl14
    replace hw := below_setRow hw (show w.heap.size ≤ w.heap.size + 1 by omega) (irow .u8 A)
    replace rq := (setRow_other wq130 (w.heap.size + 1) pg (irow .u8 A) (by omega)).trans rq
    generalize (wq130.setRow (w.heap.size + 1) (irow .u8 A)) = wq131 at *
    clear rp1
    have rp1 := hN_
    clear hN_
    refine hK_ _ _ (rl14) ?_
    simp only [Act.put]
    clear hK_
    refine eH_one (k := 6) (fuel := 1) (by kernel_rfl) rfl (by kernel_rfl) (fun K_ hK_ => ?_)
    refine wp_store_row 24 _ _ rfl (w.heap.size + 1 + 1) (irow .u8 R) rfl rfl 24 _ rp2 (infok8 _ hR) (((irow_size _ _).trans hB).trans ((irow_size _ _).trans hR).symm) (irow_one8 _) ?_
    have hN_ := setRow_heap wq131 (w.heap.size + 1 + 1) _ (irow .u8 R) _ _ rp2
    replace rp0 := (setRow_other wq131 (w.heap.size + 1 + 1) (w.heap.size) (irow .u8 R) (by omega)).trans rp0
    replace rp1 := (setRow_other wq131 (w.heap.size + 1 + 1) (w.heap.size + 1) (irow .u8 R) (by omega)).trans rp1
    replace rl14 := (setRow_other wq131 (w.heap.size + 1 + 1) (g14) (irow .u8 R) (by omega)).trans rl14
    replace hw := below_setRow hw (show w.heap.size ≤ w.heap.size + 1 + 1 by omega) (irow .u8 R)
    replace rq := (setRow_other wq131 (w.heap.size + 1 + 1) pg (irow .u8 R) (by omega)).trans rq
    generalize (wq131.setRow (w.heap.size + 1 + 1) (irow .u8 R)) = wq132 at *
    clear rp2
    have rp2 := hN_
    clear hN_
    refine hK_ _ _ (rl14) ?_
    simp only [Act.put]
    clear hK_
    refine wpAnyH_take (i := 7) (v := ?v133) rfl (by kernel_rfl) (by kernel_rfl) (by kernel_rfl) (fun _ _ _ h => h) (Or.inl ⟨by rfl, ?y133⟩) (rl14) ?r133
    case y133 =>
      intro w_ hS_
      go_simp
      try with_reducible rfl
    simp only [Act.put, List.getElem_toArray, List.getElem_cons_succ, List.getElem_cons_zero, List.setIfInBounds_toArray, List.set_cons_succ, List.set_cons_zero]
    refine wpAnyH_done (by kernel_rfl) ?_ _
    refine NoPanic.normal ?_
    go_wp2_with (fail)
    exact bodyPost_ret (v := .tuple #[.agg (irow .u8 A), .agg (irow .u8 R), .bool f]) (results_cell2_slot Tryd.results54 _ _ (w.heap.size + 1) (w.heap.size + 1 + 1) _ _ (irow .u8 A) (irow .u8 R) _ _ _ _ rfl rp1 rfl rp2 rfl Tryd.underlying24 rfl (infok8 _ hA) (infok8 _ hR)) rfl ⟨rfl, hw⟩
  · skip
    refine e_world_op (.agg (irow .u8 B)) _ (e_load_part 24 _ rfl (w.heap.size + 1 + 1) 0 rfl 24 (irow .u8 B) (0, 0) (irow .u8 B) _ rp2 (all_rowe _) Tryd.underlying24 rfl (infok8 _ hB)) ?_
    refine hK_ _ _ (rl14) ?_
    simp only [Act.put, List.getElem_toArray, List.getElem_cons_succ, List.getElem_cons_zero, List.setIfInBounds_toArray, List.set_cons_succ, List.set_cons_zero]
    clear hK_
    refine eH_two (j := 0) (k := 3) (fuel := 4) (by kernel_rfl) rfl rfl (by kernel_rfl) (by kernel_rfl) (fun K_ hK_ => ?_) (fun K_ hK_ => ?_)
    · skip
      refine e_world_op (.agg (irow .u8 A)) _ (e_load_part 24 _ rfl (w.heap.size + 1) 0 rfl 24 (irow .u8 A) (0, 0) (irow .u8 A) _ rp1 (all_rowe _) Tryd.underlying24 rfl (infok8 _ hA)) ?_
      refine hK_ _ _ (rl14) ?_
      simp only [Act.put, List.getElem_toArray, List.getElem_cons_zero, List.setIfInBounds_toArray, List.set_cons_succ, List.set_cons_zero]
      clear hK_
      refine eH_one (k := 3) (fuel := 3) (by kernel_rfl) rfl (by kernel_rfl) (fun K_ hK_ => ?_)
      refine wp_call_ex (f := 15) (by kernel_rfl) (ex1e (cN2 _ hw)) (fun v_ wq134 hX_ => ?_)
      obtain ⟨rfl, hb⟩ := hX_
      replace rp0 := keep hb rp0
      replace rp1 := keep hb rp1
      replace rp2 := keep hb rp2
      replace rl14 := keep hb rl14
      replace rq := keep hb rq
      replace hw := Below.after hw hb
      clear hb
      refine hK_ _ _ (rl14) ?_
      simp only [Act.put, List.getElem_toArray, List.getElem_cons_succ, List.getElem_cons_zero, List.setIfInBounds_toArray, List.set_cons_succ, List.set_cons_zero]
      clear hK_
      refine eH_one (k := 5) (fuel := 2) (by kernel_rfl) rfl (by kernel_rfl) (fun K_ hK_ => ?_)
      refine wp_store_row 24 _ _ rfl (w.heap.size + 1) (irow .u8 A) rfl rfl 24 _ rp1 (infok8 _ hA) (((irow_size _ _).trans hA).trans ((irow_size _ _).trans hA).symm) (irow_one8 _) ?_
      have hN_ := setRow_heap wq134 (w.heap.size + 1) _ (irow .u8 A) _ _ rp1
      replace rp0 := (setRow_other wq134 (w.heap.size + 1) (w.heap.size) (irow .u8 A) (by omega)).trans rp0
      replace rp2 := (setRow_other wq134 (w.heap.size + 1) (w.heap.size + 1 + 1) (irow .u8 A) (by omega)).trans rp2
      replace rl14 := (setRow_other wq134 (w.heap.size + 1) (g14) (irow .u8 A) (by omega)).trans rl14
      replace hw := below_setRow hw (show w.heap.size ≤ w.heap.size + 1 by omega) (irow .u8 A)
      replace rq := (setRow_other wq134 (w.heap.size + 1) pg (irow .u8 A) (by omega)).trans rq
      generalize (wq134.setRow (w.heap.size + 1) (irow .u8 A)) = wq135 at *
      clear rp1
      have rp1 := hN_
      clear hN_
      refine hK_ _ _ (rl14) ?_
      simp only [Act.put]
      clear hK_
      refine eH_one (k := 6) (fuel := 1) (by kernel_rfl) rfl (by kernel_rfl) (fun K_ hK_ => ?_)
      refine wp_store_row 24 _ _ rfl (w.heap.size + 1 + 1) (irow .u8 R) rfl rfl 24 _ rp2 (infok8 _ hR) (((irow_size _ _).trans hB).trans ((irow_size _ _).trans hR).symm) (irow_one8 _) ?_
      have hN_ := setRow_heap wq135 (w.heap.size + 1 + 1) _ (irow .u8 R) _ _ rp2
      replace rp0 := (setRow_other wq135 (w.heap.size + 1 + 1) (w.heap.size) (irow .u8 R) (by omega)).trans rp0
      replace rp1 := (setRow_other wq135 (w.heap.size + 1 + 1) (w.heap.size + 1) (irow .u8 R) (by omega)).trans rp1
      replace rl14 := (setRow_other wq135 (w.heap.size + 1 + 1) (g14) (irow .u8 R) (by omega)).trans rl14
      replace hw := below_setRow hw (show w.heap.size ≤ w.heap.size + 1 + 1 by omega) (irow .u8 R)
      replace rq := (setRow_other wq135 (w.heap.size + 1 + 1) pg (irow .u8 R) (by omega)).trans rq
      generalize (wq135.setRow (w.heap.size + 1 + 1) (irow .u8 R)) = wq136 at *
      clear rp2
      have rp2 := hN_
      clear hN_
      refine hK_ _ _ (rl14) ?_
      simp only [Act.put]
      clear hK_
      refine wpAnyH_take (i := 7) (v := ?v137) rfl (by kernel_rfl) (by kernel_rfl) (by kernel_rfl) (fun _ _ _ h => h) (Or.inl ⟨by rfl, ?y137⟩) (rl14) ?r137
      case y137 =>
        intro w_ hS_
        go_simp
        try with_reducible rfl
      simp only [Act.put, List.getElem_toArray, List.getElem_cons_succ, List.getElem_cons_zero, List.setIfInBounds_toArray, List.set_cons_succ, List.set_cons_zero]
      refine wpAnyH_done (by kernel_rfl) ?_ _
      refine NoPanic.normal ?_
      go_wp2_with (fail)
      exact bodyPost_ret (v := .tuple #[.agg (irow .u8 A), .agg (irow .u8 R), .bool f]) (results_cell2_slot Tryd.results54 _ _ (w.heap.size + 1) (w.heap.size + 1 + 1) _ _ (irow .u8 A) (irow .u8 R) _ _ _ _ rfl rp1 rfl rp2 rfl Tryd.underlying24 rfl (infok8 _ hA) (infok8 _ hR)) rfl ⟨rfl, hw⟩
    · skip
      refine wp_call_ex (f := 15) (by kernel_rfl) (ex1e (cN2 _ hw)) (fun v_ wq138 hX_ => ?_)
      obtain ⟨rfl, hb⟩ := hX_
      replace rp0 := keep hb rp0
      replace rp1 := keep hb rp1
      replace rp2 := keep hb rp2
      replace rl14 := keep hb rl14
      replace rq := keep hb rq
      replace hw := Below.after hw hb
      clear hb
      refine hK_ _ _ (rl14) ?_
      simp only [Act.put, List.getElem_toArray, List.getElem_cons_succ, List.getElem_cons_zero, List.setIfInBounds_toArray, List.set_cons_succ, List.set_cons_zero]
      clear hK_
      refine eH_one (k := 0) (fuel := 3) (by kernel_rfl) rfl (by kernel_rfl) (fun K_ hK_ => ?_)
      refine e_world_op (.agg (irow .u8 A)) _ (e_load_part 24 _ rfl (w.heap.size + 1) 0 rfl 24 (irow .u8 A) (0, 0) (irow .u8 A) _ rp1 (all_rowe _) Tryd.underlying24 rfl (infok8 _ hA)) ?_
      refine hK_ _ _ (rl14) ?_
      simp only [Act.put, List.getElem_toArray, List.getElem_cons_zero, List.setIfInBounds_toArray, List.set_cons_succ, List.set_cons_zero]
      clear hK_
      refine eH_one (k := 5) (fuel := 2) (by kernel_rfl) rfl (by kernel_rfl) (fun K_ hK_ => ?_)
      refine wp_store_row 24 _ _ rfl (w.heap.size + 1) (irow .u8 A) rfl rfl 24 _ rp1 (infok8 _ hA) (((irow_size _ _).trans hA).trans ((irow_size _ _).trans hA).symm) (irow_one8 _) ?_
      have hN_ := setRow_heap wq138 (w.heap.size + 1) _ (irow .u8 A) _ _ rp1
      replace rp0 := (setRow_other wq138 (w.heap.size + 1) (w.heap.size) (irow .u8 A) (by omega)).trans rp0
      replace rp2 := (setRow_other wq138 (w.heap.size + 1) (w.heap.size + 1 + 1) (irow .u8 A) (by omega)).trans rp2
      replace rl14 := (setRow_other wq138 (w.heap.size + 1) (g14) (irow .u8 A) (by omega)).trans rl14
      replace hw := below_setRow hw (show w.heap.size ≤ w.heap.size + 1 by omega) (irow .u8 A)
      replace rq := (setRow_other wq138 (w.heap.size + 1) pg (irow .u8 A) (by omega)).trans rq
      generalize (wq138.setRow (w.heap.size + 1) (irow .u8 A)) = wq139 at *
      clear rp1
      have rp1 := hN_
      clear hN_
      refine hK_ _ _ (rl14) ?_
      simp only [Act.put]
      clear hK_
      refine eH_one (k := 6) (fuel := 1) (by kernel_rfl) rfl (by kernel_rfl) (fun K_ hK_ => ?_)
      refine wp_store_row 24 _ _ rfl (w.heap.size + 1 + 1) (irow .u8 R) rfl rfl 24 _ rp2 (infok8 _ hR) (((irow_size _ _).trans hB).trans ((irow_size _ _).trans hR).symm) (irow_one8 _) ?_
      have hN_ := setRow_heap wq139 (w.heap.size + 1 + 1) _ (irow .u8 R) _ _ rp2
      replace rp0 := (setRow_other wq139 (w.heap.size + 1 + 1) (w.heap.size) (irow .u8 R) (by omega)).trans rp0
      replace rp1 := (setRow_other wq139 (w.heap.size + 1 + 1) (w.heap.size + 1) (irow .u8 R) (by omega)).trans rp1
      replace rl14 := (setRow_other wq139 (w.heap.size + 1 + 1) (g14) (irow .u8 R) (by omega)).trans rl14
      replace hw := below_setRow hw (show w.heap.size ≤ w.heap.size + 1 + 1 by omega) (irow .u8 R)
      replace rq := (setRow_other wq139 (w.heap.size + 1 + 1) pg (irow .u8 R) (by omega)).trans rq
      generalize (wq139.setRow (w.heap.size + 1 + 1) (irow .u8 R)) = wq140 at *
      clear rp2
      have rp2 := hN_
      clear hN_
      refine hK_ _ _ (rl14) ?_
      simp only [Act.put]
      clear hK_
      refine wpAnyH_take (i := 7) (v := ?v141) rfl (by kernel_rfl) (by kernel_rfl) (by kernel_rfl) (fun _ _ _ h => h) (Or.inl ⟨by rfl, ?y141⟩) (rl14) ?r141
      case y141 =>
        intro w_ hS_
        go_simp
        try with_reducible rfl
      simp only [Act.put, List.getElem_toArray, List.getElem_cons_succ, List.getElem_cons_zero, List.setIfInBounds_toArray, List.set_cons_succ, List.set_cons_zero]
      refine wpAnyH_done (by kernel_rfl) ?_ _
      refine NoPanic.normal ?_
      go_wp2_with (fail)
      exact bodyPost_ret (v := .tuple #[.agg (irow .u8 A), .agg (irow .u8 R), .bool f]) (results_cell2_slot Tryd.results54 _ _ (w.heap.size + 1) (w.heap.size + 1 + 1) _ _ (irow .u8 A) (irow .u8 R) _ _ _ _ rfl rp1 rfl rp2 rfl Tryd.underlying24 rfl (infok8 _ hA) (infok8 _ hR)) rfl ⟨rfl, hw⟩
set_option maxRecDepth 100000 in
set_option maxHeartbeats 8000000 in
theorem both_hi {x A B E Q R : List Int} {f : Bool} (hX : x.length = 32) (hA : A.length = 32) (hB : B.length = 32) (hE : E.length = 32) (hQ : Q.length = 32) (hR : R.length = 32) (w : World) (n k m j : Nat) (wh : Bool) (_hm : n ≤ 4398046511000) (_hk : k < n) (hi : ¬ m ≤ k) (hmn : m < n) (hjl : j ≤ 4398046511000) (pg po pc : Nat) (pcs : Array Value) (pt : TypeId) (pf : Nat × Nat) (hpg : w.heap[pg]? = some (.cells pcs pt pf)) (hmc : j + 1 ≤ pc) (hx : pcs.extract (po + j * 32) (po + j * 32 + (irow .u8 E).size) = irow .u8 E) (cC : Gives 44 #[.int .i64 (n : Int)] (.int .i64 (k : Int))) (cP : (∀ W, Below w.heap.size w W → Calls Tryd.prog 54 #[.slice (some ⟨pg, po, none⟩) j pc, .int .i64 ((m : Int) - (k : Int)), .int .i64 ((n : Int) - (k : Int)), .bool false, .agg (irow .u8 x)] W fun e w' => e = .returned (.tuple #[.agg (irow .u8 A), .agg (irow .u8 B), .bool f]) ∧ Below W.heap.size W w')) (cN1 : (∀ W, Below w.heap.size w W → Calls Tryd.prog 15 #[.agg (irow .u8 E), .agg (irow .u8 A)] W fun e w' => e = .returned (.agg (irow .u8 Q)) ∧ Below W.heap.size W w')) (cN2 : (∀ W, Below w.heap.size w W → Calls Tryd.prog 15 #[.agg (irow .u8 E), .agg (irow .u8 B)] W fun e w' => e = .returned (.agg (irow .u8 R)) ∧ Below W.heap.size W w')) : Calls Tryd.prog 54 #[.slice (some ⟨pg, po, none⟩) (j + 1) pc, .int .i64 (m : Int), .int .i64 (n : Int), .bool wh, .agg (irow .u8 x)] w fun e w' => e = .returned (.tuple #[.agg (irow .u8 Q), .agg (irow .u8 R), .bool f]) ∧ Below w.heap.size w w' := by
  have d1 : decide ((m : Int) = (n : Int)) = false := by simp; omega
  have d2 : decide ((m : Int) ≤ (k : Int)) = false := by simp; omega
  have jm : (j : Int) < (j : Int) + 1 := by omega
  have qm : IntKind.i64.wrap (j : Int) = (j : Int) := by rw [IntKind.wrap_i64]; omega
  have q1 : IntKind.i64.wrap ((n : Int) - (k : Int)) = (n : Int) - (k : Int) := by rw [IntKind.wrap_i64]; omega
  have q2 : IntKind.i64.wrap ((m : Int) - (k : Int)) = (m : Int) - (k : Int) := by rw [IntKind.wrap_i64]; omega
  have rp0 := hp3_0 w (.cells (irow .u8 x) 24) (.cells (irow .u8 (zr 32)) 24) (.cells (irow .u8 (zr 32)) 24)
  have rp1 := hp3_1 w (.cells (irow .u8 x) 24) (.cells (irow .u8 (zr 32)) 24) (.cells (irow .u8 (zr 32)) 24)
  have rp2 := hp3_2 w (.cells (irow .u8 x) 24) (.cells (irow .u8 (zr 32)) 24) (.cells (irow .u8 (zr 32)) 24)
  have hw : Below w.heap.size w (((w.alloc (.cells (irow .u8 x) 24)).alloc (.cells (irow .u8 (zr 32)) 24)).alloc (.cells (irow .u8 (zr 32)) 24)) := ((((Below.refl _ _).alloc (Nat.le_refl _) _).alloc (by simp) _).alloc (by simp; omega) _)
  go_enter Tryd.func54, Tryd.ntmps54
  iterate 12 go_step
  try rw [zk32]
  generalize (((w.alloc (.cells (irow .u8 x) 24)).alloc (.cells (irow .u8 (zr 32)) 24)).alloc (.cells (irow .u8 (zr 32)) 24)) = w0 at *
  have rq := keep hw hpg
  have lpg := lt_of_row hpg
  go_wp2_with (first | (refine wpList_store_row rfl 24 _ _ rfl (w0.heap.size) (irow .u8 E) rfl rfl 24 (irow .u8 (zr 32)) (hp1_0 w0 _) (infok8 _ hE) (((irow_size _ _).trans (zr_len 32)).trans ((irow_size _ _).trans hE).symm) (irow_one8 _) ?_; rw [setRow_alloc_new _ _ _ _ _ _ (by simp)]; refine wpList_stay ?_) | (refine wpList_load_part rfl 24 _ rfl pg (po + j * 32) rfl pt pcs pf (irow .u8 E) _ rq hx Tryd.underlying24 rfl (infok8 _ hE) ?_) | fail)
  unfold WpStay
  try simp only [Act.put]
  have rl14 : (w0.alloc (.cells (irow .u8 E) 24)).heap[w0.heap.size]? = some (.cells (irow .u8 E) 24 (0, 0)) := hp1_0 w0 _
  have hb : Below w0.heap.size w0 (w0.alloc (.cells (irow .u8 E) 24)) := ((Below.refl _ _).alloc (Nat.le_refl _) _)
  generalize (w0.alloc (.cells (irow .u8 E) 24)) = w1 at *
  have lt_g14_0 := lt_of_row rp0
  have lt_g14_1 := lt_of_row rp1
  have lt_g14_2 := lt_of_row rp2
  have sz_g14 := hw.size
  replace rp0 := keep hb rp0
  replace rp1 := keep hb rp1
  replace rp2 := keep hb rp2
  replace rq := keep hb rq
  replace hw := Below.after hw hb
  clear hb
  generalize w0.heap.size = g14 at *
  clear w0
  go_wp2_with (fail)
  refine (cC.at _).mono ?_
  rintro e_ w2 ⟨rfl, hb⟩
  replace rp0 := keep hb rp0
  replace rp1 := keep hb rp1
  replace rp2 := keep hb rp2
  replace rl14 := keep hb rl14
  replace rq := keep hb rq
  replace hw := Below.after hw hb
  clear hb
  clear cC
  go_wp2_with (fail)
  have hb : Below w2.heap.size w2 w2.drew := below_drN (Below.refl _ _) 1
  replace rp0 := keep hb rp0
  replace rp1 := keep hb rp1
  replace rp2 := keep hb rp2
  replace rl14 := keep hb rl14
  replace rq := keep hb rq
  replace hw := Below.after hw hb
  clear hb
  refine wp_region_noPanic ?_
  refine wp_region_held (S := fun W_ => W_.heap[w.heap.size]? = some (.cells (irow .u8 x) 24 (0, 0))) (by kernel_rfl) ?_
  change wpAnyH _ _ _ _ _ _ _ _ (World.drew _)
  generalize w2.drew = wd142 at *
  refine wpAnyH_take (i := 0) (v := ?v143) rfl (by kernel_rfl) (by kernel_rfl) (by kernel_rfl) (fun _ _ _ h => h) (Or.inl ⟨by rfl, ?y143⟩) (rp0) ?r143
  case y143 =>
    intro w_ hS_
    go_simp
    try with_reducible rfl
  simp only [Act.put, List.getElem_toArray, List.getElem_cons_zero, List.setIfInBounds_toArray, List.set_cons_succ, List.set_cons_zero]
  refine wpAnyH_take (i := 1) (v := ?v144) rfl (by kernel_rfl) (by kernel_rfl) (by kernel_rfl) (fun _ _ _ h => h) (Or.inl ⟨by rfl, ?y144⟩) (rp0) ?r144
  case y144 =>
    intro w_ hS_
    go_simp
    try with_reducible rfl
  simp only [Act.put, List.getElem_toArray, List.getElem_cons_succ, List.getElem_cons_zero, List.setIfInBounds_toArray, List.set_cons_succ, List.set_cons_zero]
  refine wpAnyH_take (i := 2) (v := .slice (some ⟨pg, po, none⟩) j pc) rfl (by kernel_rfl) (by kernel_rfl) (by kernel_rfl) (fun _ _ _ h => h) (Or.inl ⟨by rfl, ?y145⟩) (rp0) ?r145
  case y145 =>
    intro w_ hS_
    simp only [List.getElem_toArray, List.getElem_cons_succ, List.getElem_cons_zero]
    exact e_slice _ _ _ _ rfl _ (slk_head _ _ _ j (by omega) (by intro e; cases e) _)
  simp only [Act.put, List.getElem_toArray, List.getElem_cons_succ, List.getElem_cons_zero, List.setIfInBounds_toArray, List.set_cons_succ, List.set_cons_zero]
  refine wpAnyH_take (i := 3) (v := ?v146) rfl (by kernel_rfl) (by kernel_rfl) (by kernel_rfl) (fun _ _ _ h => h) (Or.inl ⟨by rfl, ?y146⟩) (rp0) ?r146
  case y146 =>
    intro w_ hS_
    go_simp
    try with_reducible rfl
  simp only [Act.put, List.getElem_toArray, List.getElem_cons_succ, List.getElem_cons_zero, List.setIfInBounds_toArray, List.set_cons_succ, List.set_cons_zero]
  refine wpAnyH_take (i := 4) (v := ?v147) rfl (by kernel_rfl) (by kernel_rfl) (by kernel_rfl) (fun _ _ _ h => h) (Or.inl ⟨by rfl, ?y147⟩) (rp0) ?r147
  case y147 =>
    intro w_ hS_
    go_simp
    try with_reducible rfl
  simp only [Act.put, List.getElem_toArray, List.getElem_cons_succ, List.getElem_cons_zero, List.setIfInBounds_toArray, List.set_cons_succ, List.set_cons_zero]
  refine wpAnyH_take (i := 5) (v := .int .i64 ((m : Int) - (k : Int))) rfl (by kernel_rfl) (by kernel_rfl) (by kernel_rfl) (fun _ _ _ h => h) (Or.inl ⟨by rfl, ?y148⟩) (rp0) ?r148
  case y148 =>
    intro w_ hS_
    first | (go_simp; done) | (go_simp; exact q2)
  simp only [Act.put, List.getElem_toArray, List.getElem_cons_succ, List.getElem_cons_zero, List.setIfInBounds_toArray, List.set_cons_succ, List.set_cons_zero]
  refine wpAnyH_take (i := 6) (v := ?v149) rfl (by kernel_rfl) (by kernel_rfl) (by kernel_rfl) (fun _ _ _ h => h) (Or.inl ⟨by rfl, ?y149⟩) (rp0) ?r149
  case y149 =>
    intro w_ hS_
    go_simp
    try with_reducible rfl
  simp only [Act.put, List.getElem_toArray, List.getElem_cons_succ, List.getElem_cons_zero, List.setIfInBounds_toArray, List.set_cons_succ, List.set_cons_zero]
  refine wpAnyH_take (i := 7) (v := ?v150) rfl (by kernel_rfl) (by kernel_rfl) (by kernel_rfl) (fun _ _ _ h => h) (Or.inl ⟨by rfl, ?y150⟩) (rp0) ?r150
  case y150 =>
    intro w_ hS_
    go_simp
    try with_reducible rfl
  simp only [Act.put, List.getElem_toArray, List.getElem_cons_succ, List.getElem_cons_zero, List.setIfInBounds_toArray, List.set_cons_succ, List.set_cons_zero]
  refine wpAnyH_take (i := 8) (v := .int .i64 ((n : Int) - (k : Int))) rfl (by kernel_rfl) (by kernel_rfl) (by kernel_rfl) (fun _ _ _ h => h) (Or.inl ⟨by rfl, ?y151⟩) (rp0) ?r151
  case y151 =>
    intro w_ hS_
    first | (go_simp; done) | (go_simp; exact q1)
  simp only [Act.put, List.getElem_toArray, List.getElem_cons_succ, List.getElem_cons_zero, List.setIfInBounds_toArray, List.set_cons_succ, List.set_cons_zero]
  refine wpAnyH_take (i := 9) (v := .agg (irow .u8 x)) rfl (by kernel_rfl) (by kernel_rfl) (by kernel_rfl) (fun _ _ _ h => h) (Or.inl ⟨by rfl, ?y152⟩) (rp0) ?r152
  case y152 =>
    intro w_ hS_
    simp only [List.getElem_toArray, List.getElem_cons_succ, List.getElem_cons_zero]
    exact e_load_part 24 _ (by rfl) (w.heap.size) 0 (by rfl) 24 (irow .u8 x) (0, 0) (irow .u8 x) _ (hS_) (all_rowe _) Tryd.underlying24 rfl (infok8 _ hX)
  simp only [Act.put, List.getElem_toArray, List.getElem_cons_succ, List.getElem_cons_zero, List.setIfInBounds_toArray, List.set_cons_succ, List.set_cons_zero]
  refine eH_one (k := 10) (fuel := 7) (by kernel_rfl) rfl (by kernel_rfl) (fun K_ hK_ => ?_)
  refine wp_call_ex (f := 54) (by kernel_rfl) (ex1e (cP _ hw)) (fun v_ wq153 hX_ => ?_)
  obtain ⟨rfl, hb⟩ := hX_
  replace rp0 := keep hb rp0
  replace rp1 := keep hb rp1
  replace rp2 := keep hb rp2
  replace rl14 := keep hb rl14
  replace rq := keep hb rq
  replace hw := Below.after hw hb
  clear hb
  refine hK_ _ _ (rp0) ?_
  simp only [Act.put, List.getElem_toArray, List.getElem_cons_succ, List.getElem_cons_zero, List.setIfInBounds_toArray, List.set_cons_succ, List.set_cons_zero]
  clear hK_
  refine wpAnyH_take (i := 11) (v := ?v154) rfl (by kernel_rfl) (by kernel_rfl) (by kernel_rfl) (fun _ _ _ h => h) (Or.inl ⟨by rfl, ?y154⟩) (rp0) ?r154
  case y154 =>
    intro w_ hS_
    go_simp
    try with_reducible rfl
  simp only [Act.put, List.getElem_toArray, List.getElem_cons_succ, List.getElem_cons_zero, List.setIfInBounds_toArray, List.set_cons_succ, List.set_cons_zero]
  refine wpAnyH_take (i := 12) (v := ?v155) rfl (by kernel_rfl) (by kernel_rfl) (by kernel_rfl) (fun _ _ _ h => h) (Or.inl ⟨by rfl, ?y155⟩) (rp0) ?r155
  case y155 =>
    intro w_ hS_
    go_simp
    try with_reducible rfl
  simp only [Act.put, List.getElem_toArray, List.getElem_cons_succ, List.getElem_cons_zero, List.setIfInBounds_toArray, List.set_cons_succ, List.set_cons_zero]
  refine wpAnyH_take (i := 13) (v := ?v156) rfl (by kernel_rfl) (by kernel_rfl) (by kernel_rfl) (fun _ _ _ h => h) (Or.inl ⟨by rfl, ?y156⟩) (rp0) ?r156
  case y156 =>
    intro w_ hS_
    go_simp
    try with_reducible rfl
  simp only [Act.put, List.getElem_toArray, List.getElem_cons_succ, List.getElem_cons_zero, List.setIfInBounds_toArray, List.set_cons_succ, List.set_cons_zero]
  refine wpAnyH_take (i := 14) (v := ?v157) rfl (by kernel_rfl) (by kernel_rfl) (by kernel_rfl) (fun _ _ _ h => h) (Or.inl ⟨by rfl, ?y157⟩) (rp0) ?r157
  case y157 =>
    intro w_ hS_
    go_simp
    try with_reducible rfl
  simp only [Act.put, List.getElem_toArray, List.getElem_cons_succ, List.getElem_cons_zero, List.setIfInBounds_toArray, List.set_cons_succ, List.set_cons_zero]
  refine eH_one (k := 15) (fuel := 2) (by kernel_rfl) rfl (by kernel_rfl) (fun K_ hK_ => ?_)
  refine wp_store_row 24 _ _ rfl (w.heap.size + 1) (irow .u8 A) rfl rfl 24 _ rp1 (infok8 _ hA) (((irow_size _ _).trans (zr_len 32)).trans ((irow_size _ _).trans hA).symm) (irow_one8 _) ?_
  have hN_ := setRow_heap wq153 (w.heap.size + 1) _ (irow .u8 A) _ _ rp1
  replace rp0 := (setRow_other wq153 (w.heap.size + 1) (w.heap.size) (irow .u8 A) (by omega)).trans rp0
  replace rp2 := (setRow_other wq153 (w.heap.size + 1) (w.heap.size + 1 + 1) (irow .u8 A) (by omega)).trans rp2
  replace rl14 := (setRow_other wq153 (w.heap.size + 1) (g14) (irow .u8 A) (by omega)).trans rl14
  replace hw := below_setRow hw (show w.heap.size ≤ w.heap.size + 1 by omega) (irow .u8 A)
  replace rq := (setRow_other wq153 (w.heap.size + 1) pg (irow .u8 A) (by omega)).trans rq
  generalize (wq153.setRow (w.heap.size + 1) (irow .u8 A)) = wq158 at *
  clear rp1
  have rp1 := hN_
  clear hN_
  refine hK_ _ _ (rp0) ?_
  simp only [Act.put]
  clear hK_
  refine eH_one (k := 16) (fuel := 1) (by kernel_rfl) rfl (by kernel_rfl) (fun K_ hK_ => ?_)
  refine wp_store_row 24 _ _ rfl (w.heap.size + 1 + 1) (irow .u8 B) rfl rfl 24 _ rp2 (infok8 _ hB) (((irow_size _ _).trans (zr_len 32)).trans ((irow_size _ _).trans hB).symm) (irow_one8 _) ?_
  have hN_ := setRow_heap wq158 (w.heap.size + 1 + 1) _ (irow .u8 B) _ _ rp2
  replace rp0 := (setRow_other wq158 (w.heap.size + 1 + 1) (w.heap.size) (irow .u8 B) (by omega)).trans rp0
  replace rp1 := (setRow_other wq158 (w.heap.size + 1 + 1) (w.heap.size + 1) (irow .u8 B) (by omega)).trans rp1
  replace rl14 := (setRow_other wq158 (w.heap.size + 1 + 1) (g14) (irow .u8 B) (by omega)).trans rl14
  replace hw := below_setRow hw (show w.heap.size ≤ w.heap.size + 1 + 1 by omega) (irow .u8 B)
  replace rq := (setRow_other wq158 (w.heap.size + 1 + 1) pg (irow .u8 B) (by omega)).trans rq
  generalize (wq158.setRow (w.heap.size + 1 + 1) (irow .u8 B)) = wq159 at *
  clear rp2
  have rp2 := hN_
  clear hN_
  refine hK_ _ _ (rp0) ?_
  simp only [Act.put]
  clear hK_
  refine wpAnyH_take (i := 17) (v := ?v160) rfl (by kernel_rfl) (by kernel_rfl) (by kernel_rfl) (fun _ _ _ h => h) (Or.inl ⟨by rfl, ?y160⟩) (rp0) ?r160
  case y160 =>
    intro w_ hS_
    go_simp
    try with_reducible rfl
  simp only [Act.put, List.getElem_toArray, List.getElem_cons_succ, List.getElem_cons_zero, List.setIfInBounds_toArray, List.set_cons_succ, List.set_cons_zero]
  refine wpAnyH_done (by kernel_rfl) ?_ _
  refine NoPanic.normal ?_
  go_wp2_with (fail)
  have hb : Below wq159.heap.size wq159 wq159.drew := below_drN (Below.refl _ _) 1
  replace rp0 := keep hb rp0
  replace rp1 := keep hb rp1
  replace rp2 := keep hb rp2
  replace rl14 := keep hb rl14
  replace rq := keep hb rq
  replace hw := Below.after hw hb
  clear hb
  refine wp_region_noPanic ?_
  refine wp_region_held (S := fun W_ => W_.heap[g14]? = some (.cells (irow .u8 E) 24 (0, 0))) (by kernel_rfl) ?_
  change wpAnyH _ _ _ _ _ _ _ _ (World.drew _)
  generalize wq159.drew = wd161 at *
  refine wpAnyH_take (i := 0) (v := .agg (irow .u8 E)) rfl (by kernel_rfl) (by kernel_rfl) (by kernel_rfl) (fun _ _ _ h => h) (Or.inl ⟨by rfl, ?y162⟩) (rl14) ?r162
  case y162 =>
    intro w_ hS_
    simp only [List.getElem_toArray, List.getElem_cons_zero]
    exact e_load_part 24 _ (by rfl) (g14) 0 (by rfl) 24 (irow .u8 E) (0, 0) (irow .u8 E) _ (hS_) (all_rowe _) Tryd.underlying24 rfl (infok8 _ hE)
  simp only [Act.put, List.getElem_toArray, List.getElem_cons_zero, List.setIfInBounds_toArray, List.set_cons_succ, List.set_cons_zero]
  refine wpAnyH_take (i := 3) (v := .agg (irow .u8 E)) rfl (by kernel_rfl) (by kernel_rfl) (by kernel_rfl) (fun _ _ _ h => h) (Or.inl ⟨by rfl, ?y163⟩) (rl14) ?r163
  case y163 =>
    intro w_ hS_
    simp only [List.getElem_toArray, List.getElem_cons_succ, List.getElem_cons_zero]
    exact e_load_part 24 _ (by rfl) (g14) 0 (by rfl) 24 (irow .u8 E) (0, 0) (irow .u8 E) _ (hS_) (all_rowe _) Tryd.underlying24 rfl (infok8 _ hE)
  simp only [Act.put, List.getElem_toArray, List.getElem_cons_succ, List.getElem_cons_zero, List.setIfInBounds_toArray, List.set_cons_succ, List.set_cons_zero]
  refine wpAnyH_take (i := 6) (v := ?v164) rfl (by kernel_rfl) (by kernel_rfl) (by kernel_rfl) (fun _ _ _ h => h) (Or.inl ⟨by rfl, ?y164⟩) (rl14) ?r164
  case y164 =>
    intro w_ hS_
    go_simp
    try with_reducible rfl
  simp only [Act.put, List.getElem_toArray, List.getElem_cons_succ, List.getElem_cons_zero, List.setIfInBounds_toArray, List.set_cons_succ, List.set_cons_zero]
  refine eH_two (j := 1) (k := 4) (fuel := 6) (by kernel_rfl) rfl rfl (by kernel_rfl) (by kernel_rfl) (fun K_ hK_ => ?_) (fun K_ hK_ => ?_)
  · skip
    refine e_world_op (.agg (irow .u8 A)) _ (e_load_part 24 _ rfl (w.heap.size + 1) 0 rfl 24 (irow .u8 A) (0, 0) (irow .u8 A) _ rp1 (all_rowe _) Tryd.underlying24 rfl (infok8 _ hA)) ?_
    refine hK_ _ _ (rl14) ?_
    simp only [Act.put, List.getElem_toArray, List.getElem_cons_succ, List.getElem_cons_zero, List.setIfInBounds_toArray, List.set_cons_succ, List.set_cons_zero]
    clear hK_
    refine eH_two (j := 2) (k := 4) (fuel := 5) (by kernel_rfl) rfl rfl (by kernel_rfl) (by kernel_rfl) (fun K_ hK_ => ?_) (fun K_ hK_ => ?_)
    · skip
      refine wp_call_ex (f := 15) (by kernel_rfl) (ex1e (cN1 _ hw)) (fun v_ wq165 hX_ => ?_)
      obtain ⟨rfl, hb⟩ := hX_
      replace rp0 := keep hb rp0
      replace rp1 := keep hb rp1
      replace rp2 := keep hb rp2
      replace rl14 := keep hb rl14
      replace rq := keep hb rq
      replace hw := Below.after hw hb
      clear hb
      refine hK_ _ _ (rl14) ?_
      simp only [Act.put, List.getElem_toArray, List.getElem_cons_succ, List.getElem_cons_zero, List.setIfInBounds_toArray, List.set_cons_succ, List.set_cons_zero]
      clear hK_
      refine eH_one (k := 4) (fuel := 4) (by kernel_rfl) rfl (by kernel_rfl) (fun K_ hK_ => ?_)
      refine e_world_op (.agg (irow .u8 B)) _ (e_load_part 24 _ rfl (w.heap.size + 1 + 1) 0 rfl 24 (irow .u8 B) (0, 0) (irow .u8 B) _ rp2 (all_rowe _) Tryd.underlying24 rfl (infok8 _ hB)) ?_
      refine hK_ _ _ (rl14) ?_
      simp only [Act.put, List.getElem_toArray, List.getElem_cons_succ, List.getElem_cons_zero, List.setIfInBounds_toArray, List.set_cons_succ, List.set_cons_zero]
      clear hK_
      refine eH_one (k := 5) (fuel := 3) (by kernel_rfl) rfl (by kernel_rfl) (fun K_ hK_ => ?_)
      refine wp_call_ex (f := 15) (by kernel_rfl) (ex1e (cN2 _ hw)) (fun v_ wq166 hX_ => ?_)
      obtain ⟨rfl, hb⟩ := hX_
      replace rp0 := keep hb rp0
      replace rp1 := keep hb rp1
      replace rp2 := keep hb rp2
      replace rl14 := keep hb rl14
      replace rq := keep hb rq
      replace hw := Below.after hw hb
      clear hb
      refine hK_ _ _ (rl14) ?_
      simp only [Act.put, List.getElem_toArray, List.getElem_cons_succ, List.getElem_cons_zero, List.setIfInBounds_toArray, List.set_cons_succ, List.set_cons_zero]
      clear hK_
      refine eH_one (k := 7) (fuel := 2) (by kernel_rfl) rfl (by kernel_rfl) (fun K_ hK_ => ?_)
      refine wp_store_row 24 _ _ rfl (w.heap.size + 1) (irow .u8 Q) rfl rfl 24 _ rp1 (infok8 _ hQ) (((irow_size _ _).trans hA).trans ((irow_size _ _).trans hQ).symm) (irow_one8 _) ?_
      have hN_ := setRow_heap wq166 (w.heap.size + 1) _ (irow .u8 Q) _ _ rp1
      replace rp0 := (setRow_other wq166 (w.heap.size + 1) (w.heap.size) (irow .u8 Q) (by omega)).trans rp0
      replace rp2 := (setRow_other wq166 (w.heap.size + 1) (w.heap.size + 1 + 1) (irow .u8 Q) (by omega)).trans rp2
      replace rl14 := (setRow_other wq166 (w.heap.size + 1) (g14) (irow .u8 Q) (by omega)).trans rl14
      replace hw := below_setRow hw (show w.heap.size ≤ w.heap.size + 1 by omega) (irow .u8 Q)
      replace rq := (setRow_other wq166 (w.heap.size + 1) pg (irow .u8 Q) (by omega)).trans rq
      generalize (wq166.setRow (w.heap.size + 1) (irow .u8 Q)) = wq167 at *
      clear rp1
      have rp1 := hN_
      clear hN_
      refine hK_ _ _ (rl14) ?_
      simp only [Act.put]
      clear hK_
      refine eH_one (k := 8) (fuel := 1) (by kernel_rfl) rfl (by kernel_rfl) (fun K_ hK_ => ?_)
      refine wp_store_row 24 _ _ rfl (w.heap.size + 1 + 1) (irow .u8 R) rfl rfl 24 _ rp2 (infok8 _ hR) (((irow_size _ _).trans hB).trans ((irow_size _ _).trans hR).symm) (irow_one8 _) ?_
      have hN_ := setRow_heap wq167 (w.heap.size + 1 + 1) _ (irow .u8 R) _ _ rp2
      replace rp0 := (setRow_other wq167 (w.heap.size + 1 + 1) (w.heap.size) (irow .u8 R) (by omega)).trans rp0
      replace rp1 := (setRow_other wq167 (w.heap.size + 1 + 1) (w.heap.size + 1) (irow .u8 R) (by omega)).trans rp1
      replace rl14 := (setRow_other wq167 (w.heap.size + 1 + 1) (g14) (irow .u8 R) (by omega)).trans rl14
      replace hw := below_setRow hw (show w.heap.size ≤ w.heap.size + 1 + 1 by omega) (irow .u8 R)
      replace rq := (setRow_other wq167 (w.heap.size + 1 + 1) pg (irow .u8 R) (by omega)).trans rq
      generalize (wq167.setRow (w.heap.size + 1 + 1) (irow .u8 R)) = wq168 at *
      clear rp2
      have rp2 := hN_
      clear hN_
      refine hK_ _ _ (rl14) ?_
      simp only [Act.put]
      clear hK_
      refine wpAnyH_take (i := 9) (v := ?v169) rfl (by kernel_rfl) (by kernel_rfl) (by kernel_rfl) (fun _ _ _ h => h) (Or.inl ⟨by rfl, ?y169⟩) (rl14) ?r169
      case y169 =>
        intro w_ hS_
        go_simp
        try with_reducible rfl
      simp only [Act.put, List.getElem_toArray, List.getElem_cons_succ, List.getElem_cons_zero, List.setIfInBounds_toArray, List.set_cons_succ, List.set_cons_zero]
      refine wpAnyH_done (by kernel_rfl) ?_ _
      refine NoPanic.normal ?_
      go_wp2_with (fail)
      exact bodyPost_ret (v := .tuple #[.agg (irow .u8 Q), .agg (irow .u8 R), .bool f]) (results_cell2_slot Tryd.results54 _ _ (w.heap.size + 1) (w.heap.size + 1 + 1) _ _ (irow .u8 Q) (irow .u8 R) _ _ _ _ rfl rp1 rfl rp2 rfl Tryd.underlying24 rfl (infok8 _ hQ) (infok8 _ hR)) rfl ⟨rfl, hw⟩
    · skip
      refine e_world_op (.agg (irow .u8 B)) _ (e_load_part 24 _ rfl (w.heap.size + 1 + 1) 0 rfl 24 (irow .u8 B) (0, 0) (irow .u8 B) _ rp2 (all_rowe _) Tryd.underlying24 rfl (infok8 _ hB)) ?_
      refine hK_ _ _ (rl14) ?_
      simp only [Act.put, List.getElem_toArray, List.getElem_cons_succ, List.getElem_cons_zero, List.setIfInBounds_toArray, List.set_cons_succ, List.set_cons_zero]
      clear hK_
      refine eH_one (k := 2) (fuel := 4) (by kernel_rfl) rfl (by kernel_rfl) (fun K_ hK_ => ?_)
      refine wp_call_ex (f := 15) (by kernel_rfl) (ex1e (cN1 _ hw)) (fun v_ wq170 hX_ => ?_)
      obtain ⟨rfl, hb⟩ := hX_
      replace rp0 := keep hb rp0
      replace rp1 := keep hb rp1
      replace rp2 := keep hb rp2
      replace rl14 := keep hb rl14
      replace rq := keep hb rq
      replace hw := Below.after hw hb
      clear hb
      refine hK_ _ _ (rl14) ?_
      simp only [Act.put, List.getElem_toArray, List.getElem_cons_succ, List.getElem_cons_zero, List.setIfInBounds_toArray, List.set_cons_succ, List.set_cons_zero]
      clear hK_
      refine eH_one (k := 5) (fuel := 3) (by kernel_rfl) rfl (by kernel_rfl) (fun K_ hK_ => ?_)
      refine wp_call_ex (f := 15) (by kernel_rfl) (ex1e (cN2 _ hw)) (fun v_ wq171 hX_ => ?_)
      obtain ⟨rfl, hb⟩ := hX_
      replace rp0 := keep hb rp0
      replace rp1 := keep hb rp1
      replace rp2 := keep hb rp2
      replace rl14 := keep hb rl14
      replace rq := keep hb rq
      replace hw := Below.after hw hb
      clear hb
      refine hK_ _ _ (rl14) ?_
      simp only [Act.put, List.getElem_toArray, List.getElem_cons_succ, List.getElem_cons_zero, List.setIfInBounds_toArray, List.set_cons_succ, List.set_cons_zero]
      clear hK_
      refine eH_one (k := 7) (fuel := 2) (by kernel_rfl) rfl (by kernel_rfl) (fun K_ hK_ => ?_)
      refine wp_store_row 24 _ _ rfl (w.heap.size + 1) (irow .u8 Q) rfl rfl 24 _ rp1 (infok8 _ hQ) (((irow_size _ _).trans hA).trans ((irow_size _ _).trans hQ).symm) (irow_one8 _) ?_
      have hN_ := setRow_heap wq171 (w.heap.size + 1) _ (irow .u8 Q) _ _ rp1
      replace rp0 := (setRow_other wq171 (w.heap.size + 1) (w.heap.size) (irow .u8 Q) (by omega)).trans rp0
      replace rp2 := (setRow_other wq171 (w.heap.size + 1) (w.heap.size + 1 + 1) (irow .u8 Q) (by omega)).trans rp2
      replace rl14 := (setRow_other wq171 (w.heap.size + 1) (g14) (irow .u8 Q) (by omega)).trans rl14
      replace hw := below_setRow hw (show w.heap.size ≤ w.heap.size + 1 by omega) (irow .u8 Q)
      replace rq := (setRow_other wq171 (w.heap.size + 1) pg (irow .u8 Q) (by omega)).trans rq
      generalize (wq171.setRow (w.heap.size + 1) (irow .u8 Q)) = wq172 at *
      clear rp1
      have rp1 := hN_
      clear hN_
      refine hK_ _ _ (rl14) ?_
      simp only [Act.put]
      clear hK_
      refine eH_one (k := 8) (fuel := 1) (by kernel_rfl) rfl (by kernel_rfl) (fun K_ hK_ => ?_)
      refine wp_store_row 24 _ _ rfl (w.heap.size + 1 + 1) (irow .u8 R) rfl rfl 24 _ rp2 (infok8 _ hR) (((irow_size _ _).trans hB).trans ((irow_size _ _).trans hR).symm) (irow_one8 _) ?_
      have hN_ := setRow_heap wq172 (w.heap.size + 1 + 1) _ (irow .u8 R) _ _ rp2
      replace rp0 := (setRow_other wq172 (w.heap.size + 1 + 1) (w.heap.size) (irow .u8 R) (by omega)).trans rp0
      replace rp1 := (setRow_other wq172 (w.heap.size + 1 + 1) (w.heap.size + 1) (irow .u8 R) (by omega)).trans rp1
      replace rl14 := (setRow_other wq172 (w.heap.size + 1 + 1) (g14) (irow .u8 R) (by omega)).trans rl14
      replace hw := below_setRow hw (show w.heap.size ≤ w.heap.size + 1 + 1 by omega) (irow .u8 R)
      replace rq := (setRow_other wq172 (w.heap.size + 1 + 1) pg (irow .u8 R) (by omega)).trans rq
      generalize (wq172.setRow (w.heap.size + 1 + 1) (irow .u8 R)) = wq173 at *
      clear rp2
      have rp2 := hN_
      clear hN_
      refine hK_ _ _ (rl14) ?_
      simp only [Act.put]
      clear hK_
      refine wpAnyH_take (i := 9) (v := ?v174) rfl (by kernel_rfl) (by kernel_rfl) (by kernel_rfl) (fun _ _ _ h => h) (Or.inl ⟨by rfl, ?y174⟩) (rl14) ?r174
      case y174 =>
        intro w_ hS_
        go_simp
        try with_reducible rfl
      simp only [Act.put, List.getElem_toArray, List.getElem_cons_succ, List.getElem_cons_zero, List.setIfInBounds_toArray, List.set_cons_succ, List.set_cons_zero]
      refine wpAnyH_done (by kernel_rfl) ?_ _
      refine NoPanic.normal ?_
      go_wp2_with (fail)
      exact bodyPost_ret (v := .tuple #[.agg (irow .u8 Q), .agg (irow .u8 R), .bool f]) (results_cell2_slot Tryd.results54 _ _ (w.heap.size + 1) (w.heap.size + 1 + 1) _ _ (irow .u8 Q) (irow .u8 R) _ _ _ _ rfl rp1 rfl rp2 rfl Tryd.underlying24 rfl (infok8 _ hQ) (infok8 _ hR)) rfl ⟨rfl, hw⟩
  · skip
    refine e_world_op (.agg (irow .u8 B)) _ (e_load_part 24 _ rfl (w.heap.size + 1 + 1) 0 rfl 24 (irow .u8 B) (0, 0) (irow .u8 B) _ rp2 (all_rowe _) Tryd.underlying24 rfl (infok8 _ hB)) ?_
    refine hK_ _ _ (rl14) ?_
    simp only [Act.put, List.getElem_toArray, List.getElem_cons_succ, List.getElem_cons_zero, List.setIfInBounds_toArray, List.set_cons_succ, List.set_cons_zero]
    clear hK_
    refine eH_one (k := 1) (fuel := 5) (by kernel_rfl) rfl (by kernel_rfl) (fun K_ hK_ => ?_)
    refine e_world_op (.agg (irow .u8 A)) _ (e_load_part 24 _ rfl (w.heap.size + 1) 0 rfl 24 (irow .u8 A) (0, 0) (irow .u8 A) _ rp1 (all_rowe _) Tryd.underlying24 rfl (infok8 _ hA)) ?_
    refine hK_ _ _ (rl14) ?_
    simp only [Act.put, List.getElem_toArray, List.getElem_cons_succ, List.getElem_cons_zero, List.setIfInBounds_toArray, List.set_cons_succ, List.set_cons_zero]
    clear hK_
    refine eH_one (k := 2) (fuel := 4) (by kernel_rfl) rfl (by kernel_rfl) (fun K_ hK_ => ?_)
    refine wp_call_ex (f := 15) (by kernel_rfl) (ex1e (cN1 _ hw)) (fun v_ wq175 hX_ => ?_)
    obtain ⟨rfl, hb⟩ := hX_
    replace rp0 := keep hb rp0
    replace rp1 := keep hb rp1
    replace rp2 := keep hb rp2
    replace rl14 := keep hb rl14
    replace rq := keep hb rq
    replace hw := Below.after hw hb
    clear hb
    refine hK_ _ _ (rl14) ?_
    simp only [Act.put, List.getElem_toArray, List.getElem_cons_succ, List.getElem_cons_zero, List.setIfInBounds_toArray, List.set_cons_succ, List.set_cons_zero]
    clear hK_
    refine eH_one (k := 5) (fuel := 3) (by kernel_rfl) rfl (by kernel_rfl) (fun K_ hK_ => ?_)
    refine wp_call_ex (f := 15) (by kernel_rfl) (ex1e (cN2 _ hw)) (fun v_ wq176 hX_ => ?_)
    obtain ⟨rfl, hb⟩ := hX_
    replace rp0 := keep hb rp0
    replace rp1 := keep hb rp1
    replace rp2 := keep hb rp2
    replace rl14 := keep hb rl14
    replace rq := keep hb rq
    replace hw := Below.after hw hb
    clear hb
    refine hK_ _ _ (rl14) ?_
    simp only [Act.put, List.getElem_toArray, List.getElem_cons_succ, List.getElem_cons_zero, List.setIfInBounds_toArray, List.set_cons_succ, List.set_cons_zero]
    clear hK_
    refine eH_one (k := 7) (fuel := 2) (by kernel_rfl) rfl (by kernel_rfl) (fun K_ hK_ => ?_)
    refine wp_store_row 24 _ _ rfl (w.heap.size + 1) (irow .u8 Q) rfl rfl 24 _ rp1 (infok8 _ hQ) (((irow_size _ _).trans hA).trans ((irow_size _ _).trans hQ).symm) (irow_one8 _) ?_
    have hN_ := setRow_heap wq176 (w.heap.size + 1) _ (irow .u8 Q) _ _ rp1
    replace rp0 := (setRow_other wq176 (w.heap.size + 1) (w.heap.size) (irow .u8 Q) (by omega)).trans rp0
    replace rp2 := (setRow_other wq176 (w.heap.size + 1) (w.heap.size + 1 + 1) (irow .u8 Q) (by omega)).trans rp2
    replace rl14 := (setRow_other wq176 (w.heap.size + 1) (g14) (irow .u8 Q) (by omega)).trans rl14
    replace hw := below_setRow hw (show w.heap.size ≤ w.heap.size + 1 by omega) (irow .u8 Q)
    replace rq := (setRow_other wq176 (w.heap.size + 1) pg (irow .u8 Q) (by omega)).trans rq
    generalize (wq176.setRow (w.heap.size + 1) (irow .u8 Q)) = wq177 at *
    clear rp1
    have rp1 := hN_
    clear hN_
    refine hK_ _ _ (rl14) ?_
    simp only [Act.put]
    clear hK_
    refine eH_one (k := 8) (fuel := 1) (by kernel_rfl) rfl (by kernel_rfl) (fun K_ hK_ => ?_)
    refine wp_store_row 24 _ _ rfl (w.heap.size + 1 + 1) (irow .u8 R) rfl rfl 24 _ rp2 (infok8 _ hR) (((irow_size _ _).trans hB).trans ((irow_size _ _).trans hR).symm) (irow_one8 _) ?_
    have hN_ := setRow_heap wq177 (w.heap.size + 1 + 1) _ (irow .u8 R) _ _ rp2
    replace rp0 := (setRow_other wq177 (w.heap.size + 1 + 1) (w.heap.size) (irow .u8 R) (by omega)).trans rp0
    replace rp1 := (setRow_other wq177 (w.heap.size + 1 + 1) (w.heap.size + 1) (irow .u8 R) (by omega)).trans rp1
    replace rl14 := (setRow_other wq177 (w.heap.size + 1 + 1) (g14) (irow .u8 R) (by omega)).trans rl14
    replace hw := below_setRow hw (show w.heap.size ≤ w.heap.size + 1 + 1 by omega) (irow .u8 R)
    replace rq := (setRow_other wq177 (w.heap.size + 1 + 1) pg (irow .u8 R) (by omega)).trans rq
    generalize (wq177.setRow (w.heap.size + 1 + 1) (irow .u8 R)) = wq178 at *
    clear rp2
    have rp2 := hN_
    clear hN_
    refine hK_ _ _ (rl14) ?_
    simp only [Act.put]
    clear hK_
    refine wpAnyH_take (i := 9) (v := ?v179) rfl (by kernel_rfl) (by kernel_rfl) (by kernel_rfl) (fun _ _ _ h => h) (Or.inl ⟨by rfl, ?y179⟩) (rl14) ?r179
    case y179 =>
      intro w_ hS_
      go_simp
      try with_reducible rfl
    simp only [Act.put, List.getElem_toArray, List.getElem_cons_succ, List.getElem_cons_zero, List.setIfInBounds_toArray, List.set_cons_succ, List.set_cons_zero]
    refine wpAnyH_done (by kernel_rfl) ?_ _
    refine NoPanic.normal ?_
    go_wp2_with (fail)
    exact bodyPost_ret (v := .tuple #[.agg (irow .u8 Q), .agg (irow .u8 R), .bool f]) (results_cell2_slot Tryd.results54 _ _ (w.heap.size + 1) (w.heap.size + 1 + 1) _ _ (irow .u8 Q) (irow .u8 R) _ _ _ _ rfl rp1 rfl rp2 rfl Tryd.underlying24 rfl (infok8 _ hQ) (infok8 _ hR)) rfl ⟨rfl, hw⟩
theorem Ky.bth : ∀ (n m : Nat) (wh : Bool) (x : List Int) (p : List (List Int)), Ky x → Kok p → 1 ≤ m → Ky (bth sumL m n wh x p).1 ∧ Ky (bth sumL m n wh x p).2.1 := by
  intro n
  induction n using Nat.strongRecOn with
  | ind n ih =>
    intro m wh x p hx hp hm
    have hlast : ¬ p.length = 0 → Ky (p.getLastD []) := fun h0 => by
      have e : p.getD (p.length - 1) [] = p.getLastD [] := by rw [List.getLastD_eq_getLast?, List.getLast?_eq_getElem?, List.getD_eq_getElem?_getD]
      rw [← e]; exact hp.at (by omega)
    by_cases h : n ≤ m
    · rw [bth_end sumL h]
      cases wh with
      | true => exact ⟨hx, hx⟩
      | false =>
        by_cases h0 : p.length = 0
        · simp only [Bool.false_eq_true, if_false, h0, if_true]; exact ⟨Ky.zero, Ky.zero⟩
        · simp only [Bool.false_eq_true, if_false, h0]; exact ⟨hlast h0, hlast h0⟩
    · by_cases h0 : p.length = 0
      · rw [bth_nil sumL hm (by omega) wh x h0]; exact ⟨Ky.zero, Ky.zero⟩
      · by_cases hi : m ≤ ctN n
        · rw [bth_lo sumL hm (by omega) hi wh x h0]
          exact ⟨(ih _ (ct_lt (by omega)) m wh x p.dropLast hx (fun k hk => hp k (List.dropLast_subset _ hk)) hm).1, Ky.nd _ _⟩
        · rw [bth_hi sumL hm (by omega) hi wh x h0]; exact ⟨Ky.nd _ _, Ky.nd _ _⟩
theorem a_both : ∀ (n m : Nat) (wh : Bool) (x : List Int) (p : List (List Int)) (w : World) (v : Value), 1 ≤ m → m ≤ n → n ≤ 4398046511000 → Ky x → Sta w → Kon w → Ksl w v p → Calls Tryd.prog 54 #[v, .int .i64 (m : Int), .int .i64 (n : Int), .bool wh, .agg (irow .u8 x)] w fun e w' => e = .returned (.tuple #[.agg (irow .u8 (bth sumL m n wh x p).1), .agg (irow .u8 (bth sumL m n wh x p).2.1), .bool (bth sumL m n wh x p).2.2]) ∧ Below w.heap.size w w' := by
  intro n
  induction n using Nat.strongRecOn with
  | ind n ih =>
    intro m wh x p w v h1 hmn hn hx hS hK hP
    have hle := hP.le
    by_cases h : n ≤ m
    · obtain rfl : m = n := by omega
      rw [bth_end sumL h]
      cases wh with
      | true =>
        obtain ⟨ao, cap, rfl, _, _⟩ := hP.slc
        exact both_end hx.1 w ao p.length cap m hle
      | false =>
        by_cases h0 : p.length = 0
        · obtain ⟨ao, cap, rfl, _, _⟩ := hP.slc
          simp only [Bool.false_eq_true, if_false, h0, if_true]
          exact both_nilf hx.1 w ao cap m
        · obtain ⟨g, off, cs, t, fr, j, cap, hm, rfl, hc, hg, hE, kE, hD⟩ := hP.last h0
          have e : decide (p.length = 1) = decide (j = 0) := by congr 1; apply propext; omega
          simp only [Bool.false_eq_true, if_false, h0, e]
          exact both_last hx.1 kE.1 w m j (by omega) g off cap cs t fr hg hc hE
    · have h2 : ¬ n < 2 := by omega
      have a := ct_lt h2
      have b := ct_pos n
      by_cases h0 : p.length = 0
      · obtain ⟨ao, cap, rfl, _, _⟩ := hP.slc
        rw [bth_nil sumL h1 (by omega) wh x h0, h0]
        exact both_nil hx.1 w ao cap m n (by omega) wh
      · obtain ⟨g, off, cs, t, fr, j, cap, hm, rfl, hc, hg, hE, kE, hD⟩ := hP.last h0
        have hpd : Kok p.dropLast := fun k hk => hP.ok k (List.dropLast_subset _ hk)
        by_cases hk : m ≤ ctN n
        · obtain ⟨kA, kB⟩ := Ky.bth (ctN n) m wh x p.dropLast hx hpd h1
          rw [bth_lo sumL h1 (by omega) hk wh x h0]
          exact both_lo hx.1 kA.1 kB.1 kE.1 (Ky.nd _ _).1 w n (ctN n) m j wh hn a hk (by omega) (by omega) g off cap cs t fr hg hc hE (a_cut _ h2 hn) (fun W hW => ih _ a _ _ _ _ _ _ h1 hk (by omega) hx (hS.below hW) (hK.below hW) (hD W hW)) (fun W hW => a_Node _ _ kB.1 kE.1 kB.2 kE.2 W (hS.below hW) (hK.below hW))
        · obtain ⟨kA, kB⟩ := Ky.bth (n - ctN n) (m - ctN n) false x p.dropLast hx hpd (by omega)
          rw [bth_hi sumL h1 (by omega) hk wh x h0]
          have e1 : (n : Int) - (ctN n : Int) = ((n - ctN n : Nat) : Int) := by omega
          have e2 : (m : Int) - (ctN n : Int) = ((m - ctN n : Nat) : Int) := by omega
          exact both_hi hx.1 kA.1 kB.1 kE.1 (Ky.nd _ _).1 (Ky.nd _ _).1 w n (ctN n) m j wh hn a hk (by omega) (by omega) g off cap cs t fr hg hc hE (a_cut _ h2 hn) (fun W hW => by rw [e1, e2]; exact ih (n - ctN n) (by omega) _ _ _ _ _ _ (by omega) (by omega) (by omega) hx (hS.below hW) (hK.below hW) (hD W hW)) (fun W hW => a_Node _ _ kE.1 kA.1 kE.2 kA.2 W (hS.below hW) (hK.below hW)) (fun W hW => a_Node _ _ kE.1 kB.1 kE.2 kB.2 W (hS.below hW) (hK.below hW))
end Go.Proofs.YtgfeacnhdlgpoaaDoor
