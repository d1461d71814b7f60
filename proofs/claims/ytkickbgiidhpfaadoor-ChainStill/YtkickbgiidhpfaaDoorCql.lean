import Derived.Test.YtkickbgiidhpfaaDoorProg
import Derived.WalkKit
import Derived.WalkSpells
import Derived.WalkLawsBesides
import Derived.Lib.QuietBelow
import Derived.BigQuiet
import Derived.OrdersHeld
import Derived.Laws.Tables
import Derived.RangeFuncNested
import Derived.RangeFuncBound
import Derived.RangeFuncCalls
import Derived.RangeFuncLeaves
import Derived.Shelf.Abstract
import Derived.Shelf.RegionOpen
import Derived.OwnWalkIn
import Derived.TacticsInMore
import Derived.LoopNIn
import Derived.LoopIn
import Derived.OwnWalk
import Derived.Deep.RegionHeld3
import Derived.Test.YtkickbgiidhpfaaDoorKa
import Derived.Test.YtkickbgiidhpfaaDoorCqj
namespace Go.Proofs.YtkickbgiidhpfaaDoor
open Go Go.RowKit Go.Sort
attribute [local go_sem] setCell_drewN alloc_drewN

theorem wrap32 (x : Int) (h0 : 0 ≤ x) (h1 : x ≤ 4294967295) : IntKind.u32.wrap x = x := by
  have e : x % 2 ^ IntKind.u32.bits = x := Int.emod_eq_of_lt h0 (by show x < 2 ^ 32; omega)
  unfold IntKind.wrap
  simp only [e, IntKind.signed]
  simp
theorem results_c2s {P : Program} {fn : Func} {p q r : Tmp} {ty tz : TypeId} (h : fn.results = #[.cell p ty, .cell q tz, .tmp r]) (tmps : Array Value) (w : World) (g k : Nat) (t u : TypeId) (cs ds : Array Value) (fr gr : Nat × Nat) (d d2 : TypeDesc)
    (hp : tmps.getD p undef = .pointer (some ⟨g, 0, none⟩)) (hq : tmps.getD q undef = .pointer (some ⟨k, 0, none⟩)) (hg : w.heap[g]? = some (.cells cs t fr)) (hk : w.heap[k]? = some (.cells ds u gr))
    (hu : P.underlying ty = some d) (hd : (match d with | .struct _ | .array _ _ => true | _ => false) = true) (hu2 : P.underlying tz = some d2) (hd2 : (match d2 with | .struct _ | .array _ _ => true | _ => false) = true) (hi : (P.info? ty).map (·.size) = some cs.size) (hj : (P.info? tz).map (·.size) = some ds.size) :
    (results fn tmps).run P w = .ok (.tuple #[.agg cs, .agg ds, tmps.getD r undef]) w := by
  have hp' : tmps[p]?.getD undef = .pointer (some ⟨g, 0, none⟩) := by simpa using hp
  have hq' : tmps[q]?.getD undef = .pointer (some ⟨k, 0, none⟩) := by simpa using hq
  simp [results, h, hp', hq', asAddr, run_loadVar_row w g t ty cs fr d hg hu hd hi, run_loadVar_row w k u tz ds gr d2 hk hu2 hd2 hj]
set_option maxRecDepth 100000 in
set_option maxHeartbeats 4000000 in
theorem r_Next_end (key : List Int) (hkl : key.length = 32) (w : World) : Calls Tryd.prog 8 #[.agg (chc key 4294967295)] w fun e w' => e = .returned (.tuple #[.agg (chc key 4294967295), .agg (irow .u8 (zr 32)), .int .i64 110]) ∧ Below w.heap.size w w' := by
  have R0 := hp3_0 w (.cells (chc key 4294967295) 28) (.cells (chc (zr 32) 0) 28) (.cells (irow .u8 (zr 32)) 23)
  have R1 := hp3_1 w (.cells (chc key 4294967295) 28) (.cells (chc (zr 32) 0) 28) (.cells (irow .u8 (zr 32)) 23)
  have R2 := hp3_2 w (.cells (chc key 4294967295) 28) (.cells (chc (zr 32) 0) 28) (.cells (irow .u8 (zr 32)) 23)
  have hw : Below w.heap.size w (((w.alloc (.cells (chc key 4294967295) 28)).alloc (.cells (chc (zr 32) 0) 28)).alloc (.cells (irow .u8 (zr 32)) 23)) := ((((Below.refl _ _).alloc (Nat.le_refl _) _).alloc (by simp) _).alloc (by simp; omega) _)
  have c0 := cell_n key hkl R0
  have k1 := setRow_heap _ (w.heap.size + 1) _ (chc key 4294967295) _ _ R1
  have k2 := (setRow_other (((w.alloc (.cells (chc key 4294967295) 28)).alloc (.cells (chc (zr 32) 0) 28)).alloc (.cells (irow .u8 (zr 32)) 23)) (w.heap.size + 1) (w.heap.size + 1 + 1) (chc key 4294967295) (by omega)).trans R2
  go_enter Tryd.func8, Tryd.ntmps8
  go_wp2_with (first | (refine wpList_box rfl 28 _ rfl _ rfl (bR _) ?_) | (refine wpList_alloc rfl 28 rfl (chc (zr 32) 0) zchr ?_) | (refine wpList_alloc rfl 23 rfl (irow .u8 (zr 32)) zkey ?_) | (refine wpList_load_want rfl 28 _ rfl (w.heap.size) rfl 28 (chc key 4294967295) (0, 0) _ R0 Tryd.underlying28 rfl (infoR _ hkl _) ?_) | (refine wpList_build_as rfl 23 _ rfl [] rfl (irow .u8 (zr 32)) zbt11 ?_) | (refine wpList_store_row rfl 28 _ _ rfl (w.heap.size + 1) (chc key 4294967295) rfl rfl 28 _ R1 (infoR _ hkl _) (by rw [chc_size _ (zr_len 32), chc_size _ hkl]) (chc_one _ _) ?_; refine wpList_stay ?_) | fail)
  unfold WpStay
  go_wp2_with (first | (refine wpList_store_row rfl 23 _ _ rfl (w.heap.size + 1 + 1) (irow .u8 (zr 32)) rfl rfl 23 _ k2 (infok8 _ (zr_len 32)) rfl (irow_one _ _) ?_) | fail)
  exact bodyPost_ret (results_c2s Tryd.results8 _ _ (w.heap.size + 1) (w.heap.size + 1 + 1) _ _ _ _ _ _ _ _ rfl rfl ((setRow_other _ (w.heap.size + 1 + 1) (w.heap.size + 1) _ (by omega)).trans k1) (setRow_heap _ (w.heap.size + 1 + 1) _ (irow .u8 (zr 32)) _ _ k2) Tryd.underlying28 rfl Tryd.underlying23 rfl (infoR _ hkl _) (infok8 _ (zr_len 32))) rfl ⟨rfl, below_setRow (below_setRow hw (show w.heap.size ≤ w.heap.size + 1 by omega) _) (show w.heap.size ≤ w.heap.size + 1 + 1 by omega) _⟩
set_option maxRecDepth 100000 in
set_option maxHeartbeats 4000000 in
theorem r_Next_aux (key A2 A1 : List Int) (hkl : key.length = 32) (l2 : A2.length = 32) (l1 : A1.length = 32) (n : Int) (hn0 : 0 ≤ n) (hn1 : n ≤ 4294967294) (w : World)
    (cS : ∀ V, Calls Tryd.prog 12 #[.agg (irow .u8 key)] V fun e w' => e = .returned (.tuple #[.agg (irow .u8 A2), .agg (irow .u8 A1)]) ∧ Below V.heap.size V w') :
    Calls Tryd.prog 8 #[.agg (chc key n)] w fun e w' => e = .returned (.tuple #[.agg (chc A2 (n + 1)), .agg (irow .u8 A1), .int .i64 0]) ∧ Below w.heap.size w w' := by
  have R0 := hp3_0 w (.cells (chc key n) 28) (.cells (chc (zr 32) 0) 28) (.cells (irow .u8 (zr 32)) 23)
  have R1 := hp3_1 w (.cells (chc key n) 28) (.cells (chc (zr 32) 0) 28) (.cells (irow .u8 (zr 32)) 23)
  have R2 := hp3_2 w (.cells (chc key n) 28) (.cells (chc (zr 32) 0) 28) (.cells (irow .u8 (zr 32)) 23)
  have hw : Below w.heap.size w (((w.alloc (.cells (chc key n) 28)).alloc (.cells (chc (zr 32) 0) 28)).alloc (.cells (irow .u8 (zr 32)) 23)) := ((((Below.refl _ _).alloc (Nat.le_refl _) _).alloc (by simp) _).alloc (by simp; omega) _)
  have c0 := cell_n key hkl R0
  have hd : (n == 4294967295) = false := by simp; omega
  have hd2 : decide (n = 4294967295) = false := by simp; omega
  have hwr := wrap32 (n + 1) (by omega) (by omega)
  go_enter Tryd.func8, Tryd.ntmps8
  go_wp2_with (first | (refine wpList_box rfl 28 _ rfl _ rfl (bR _) ?_) | (refine wpList_alloc rfl 28 rfl (chc (zr 32) 0) zchr ?_) | (refine wpList_alloc rfl 23 rfl (irow .u8 (zr 32)) zkey ?_) | (refine wpList_load_part rfl 23 _ rfl (w.heap.size) 0 rfl 28 (chc key n) (0, 0) (irow .u8 key) _ R0 (chc_key _ hkl _) Tryd.underlying23 rfl (infok8 _ hkl) ?_) | fail)
  try simp only [size_alloc1, Act.put, List.setIfInBounds_toArray, List.set_cons_succ, List.set_cons_zero]
  clear hd hd2 c0
  generalize (((w.alloc (.cells (chc key n) 28)).alloc (.cells (chc (zr 32) 0) 28)).alloc (.cells (irow .u8 (zr 32)) 23)) = w0 at *
  refine (cS w0).mono ?_
  rintro e_ w1 ⟨rfl, hb⟩
  replace R0 := keep hb R0
  replace R1 := keep hb R1
  replace R2 := keep hb R2
  have lR2 := lt_of_row R2
  replace hw := Below.after hw hb
  clear hb cS
  have zc0 := hp2_0 w1 (.cells (irow .u8 (zr 32)) 23) (.cells (irow .u8 (zr 32)) 23)
  have zc1 := hp2_1 w1 (.cells (irow .u8 (zr 32)) 23) (.cells (irow .u8 (zr 32)) 23)
  have yc00 := setRow_heap ((w1.alloc (.cells (irow .u8 (zr 32)) 23)).alloc (.cells (irow .u8 (zr 32)) 23)) (w1.heap.size) _ (irow .u8 A2) _ _ zc0
  have yc01 := (setRow_other ((w1.alloc (.cells (irow .u8 (zr 32)) 23)).alloc (.cells (irow .u8 (zr 32)) 23)) (w1.heap.size) (w1.heap.size + 1) (irow .u8 A2) (by omega)).trans zc1
  have yc10 := (setRow_other (((w1.alloc (.cells (irow .u8 (zr 32)) 23)).alloc (.cells (irow .u8 (zr 32)) 23)).setRow (w1.heap.size) (irow .u8 A2)) (w1.heap.size + 1) (w1.heap.size) (irow .u8 A1) (by omega)).trans yc00
  have yc11 := setRow_heap (((w1.alloc (.cells (irow .u8 (zr 32)) 23)).alloc (.cells (irow .u8 (zr 32)) 23)).setRow (w1.heap.size) (irow .u8 A2)) (w1.heap.size + 1) _ (irow .u8 A1) _ _ yc01
  have hbF : Below w1.heap.size w1 ((((w1.alloc (.cells (irow .u8 (zr 32)) 23)).alloc (.cells (irow .u8 (zr 32)) 23)).setRow (w1.heap.size) (irow .u8 A2)).setRow (w1.heap.size + 1) (irow .u8 A1)) := (below_setRow (below_setRow (((Below.refl _ _).alloc (Nat.le_refl _) _).alloc (by simp) _) (show w1.heap.size ≤ w1.heap.size by omega) (irow .u8 A2)) (show w1.heap.size ≤ w1.heap.size + 1 by omega) (irow .u8 A1))
  go_wp2_with (first | (refine wpList_alloc rfl 23 rfl (irow .u8 (zr 32)) zkey ?_) | (refine wpList_store_row rfl 23 _ _ rfl (w1.heap.size) (irow .u8 A2) rfl rfl 23 _ zc0 (infok8 _ l2) (fit32 _ _ (zr_len 32) l2) (irow_one _ _) ?_; refine wpList_stay ?_) | fail)
  unfold WpStay
  go_wp2_with (first | (refine wpList_store_row rfl 23 _ _ rfl (w1.heap.size + 1) (irow .u8 A1) rfl rfl 23 _ yc01 (infok8 _ l1) (fit32 _ _ (zr_len 32) l1) (irow_one _ _) ?_; refine wpList_stay ?_) | fail)
  unfold WpStay
  replace R0 := keep hbF R0
  replace R1 := keep hbF R1
  replace R2 := keep hbF R2
  replace hw := Below.after hw hbF
  clear hbF zc0 zc1 yc00 yc01
  generalize ((((w1.alloc (.cells (irow .u8 (zr 32)) 23)).alloc (.cells (irow .u8 (zr 32)) 23)).setRow (w1.heap.size) (irow .u8 A2)).setRow (w1.heap.size + 1) (irow .u8 A1)) = w2 at *
  generalize w1.heap.size = g1 at *
  go_wp2_with (fail)
  have hbd : Below w2.heap.size w2 w2.drew := below_drN (Below.refl _ _) 1
  replace R0 := keep hbd R0
  replace R1 := keep hbd R1
  replace R2 := keep hbd R2
  replace yc10 := keep hbd yc10
  replace yc11 := keep hbd yc11
  replace hw := Below.after hw hbd
  clear hbd
  refine wp_region_noPanic ?_
  refine wp_region_held (S := fun W => W.heap[w.heap.size]? = some (.cells (chc key n) 28 (0, 0)) ∧ W.heap[g1]? = some (.cells (irow .u8 A2) 23 (0, 0)) ∧ W.heap[g1 + 1]? = some (.cells (irow .u8 A1) 23 (0, 0))) (by kernel_rfl) ?_
  change wpAnyH _ _ _ _ _ _ _ _ (World.drew _)
  generalize w2.drew = w3 at *
  refine wpAnyH_take (i := 0) (v := .agg (irow .u8 A2)) rfl (by kernel_rfl) (by kernel_rfl) (by kernel_rfl) (fun _ _ _ h => h) (Or.inl ⟨by rfl, ?y3⟩) (⟨R0, yc10, yc11⟩) ?r3
  case y3 =>
    intro w_ hS_
    simp only [List.getElem_toArray, List.getElem_cons_zero]
    exact run_load_part 23 _ (by rfl) (g1) 0 (by rfl) 23 (irow .u8 A2) (0, 0) (irow .u8 A2) _ (hS_.2.1) (all_row _) Tryd.underlying23 rfl (infok8 _ l2)
  simp only [Act.put, List.getElem_toArray, List.getElem_cons_zero, List.setIfInBounds_toArray, List.set_cons_succ, List.set_cons_zero]
  refine wpAnyH_take (i := 1) (v := ?v4) rfl (by kernel_rfl) (by kernel_rfl) (by kernel_rfl) (fun _ _ _ h => h) (Or.inl ⟨by rfl, ?y4⟩) (⟨R0, yc10, yc11⟩) ?r4
  case y4 =>
    intro w_ hS_
    go_simp
    try with_reducible rfl
  simp only [Act.put, List.getElem_toArray, List.getElem_cons_succ, List.getElem_cons_zero, List.setIfInBounds_toArray, List.set_cons_succ, List.set_cons_zero]
  refine wpAnyH_take (i := 2) (v := .int .u32 n) rfl (by kernel_rfl) (by kernel_rfl) (by kernel_rfl) (fun _ _ _ h => h) (Or.inl ⟨by rfl, ?y5⟩) (⟨R0, yc10, yc11⟩) ?r5
  case y5 =>
    intro w_ hS_
    have c_ := cell_n key hkl hS_.1
    go_simp
    try with_reducible rfl
  simp only [Act.put, List.getElem_toArray, List.getElem_cons_succ, List.getElem_cons_zero, List.setIfInBounds_toArray, List.set_cons_succ, List.set_cons_zero]
  refine wpAnyH_take (i := 3) (v := ?v6) rfl (by kernel_rfl) (by kernel_rfl) (by kernel_rfl) (fun _ _ _ h => h) (Or.inl ⟨by rfl, ?y6⟩) (⟨R0, yc10, yc11⟩) ?r6
  case y6 =>
    intro w_ hS_
    go_simp
    try with_reducible rfl
  simp only [Act.put, List.getElem_toArray, List.getElem_cons_succ, List.getElem_cons_zero, List.setIfInBounds_toArray, List.set_cons_succ, List.set_cons_zero]
  refine wpAnyH_take (i := 4) (v := .agg (chc A2 (n + 1))) rfl (by kernel_rfl) (by kernel_rfl) (by kernel_rfl) (fun _ _ _ h => h) (Or.inl ⟨by rfl, ?y7⟩) (⟨R0, yc10, yc11⟩) ?r7
  case y7 =>
    intro w_ hS_
    have h_ := run_build (P := Tryd.prog) w_ 28 #[(0, .agg (irow .u8 A2)), (1, .int .u32 (n + 1))] (chc A2 (n + 1)) (builtR A2 l2 (n + 1))
    simp [execOp, Act.eval, h_, Result.andThen]
  simp only [Act.put, List.getElem_toArray, List.getElem_cons_succ, List.getElem_cons_zero, List.setIfInBounds_toArray, List.set_cons_succ, List.set_cons_zero]
  refine wpAnyH_take (i := 5) (v := .agg (irow .u8 A1)) rfl (by kernel_rfl) (by kernel_rfl) (by kernel_rfl) (fun _ _ _ h => h) (Or.inl ⟨by rfl, ?y8⟩) (⟨R0, yc10, yc11⟩) ?r8
  case y8 =>
    intro w_ hS_
    simp only [List.getElem_toArray, List.getElem_cons_succ, List.getElem_cons_zero]
    exact run_load_part 23 _ (by rfl) (g1 + 1) 0 (by rfl) 23 (irow .u8 A1) (0, 0) (irow .u8 A1) _ (hS_.2.2) (all_row _) Tryd.underlying23 rfl (infok8 _ l1)
  simp only [Act.put, List.getElem_toArray, List.getElem_cons_succ, List.getElem_cons_zero, List.setIfInBounds_toArray, List.set_cons_succ, List.set_cons_zero]
  refine wpAnyH_one (k := 6) (fuel := 2) (by kernel_rfl) rfl (by kernel_rfl) (fun K_ hK_ => ?_)
  refine wp_store_row 28 _ _ rfl (w.heap.size + 1) (chc A2 (n + 1)) rfl rfl 28 _ R1 (infoR _ l2 _) (by rw [chc_size _ (zr_len 32), chc_size _ l2]) (chc_one _ _) ?_
  replace R0 := (setRow_other w3 (w.heap.size + 1) (w.heap.size) (chc A2 (n + 1)) (by omega)).trans R0
  replace R2 := (setRow_other w3 (w.heap.size + 1) (w.heap.size + 1 + 1) (chc A2 (n + 1)) (by omega)).trans R2
  replace yc10 := (setRow_other w3 (w.heap.size + 1) (g1) (chc A2 (n + 1)) (by omega)).trans yc10
  replace yc11 := (setRow_other w3 (w.heap.size + 1) (g1 + 1) (chc A2 (n + 1)) (by omega)).trans yc11
  replace R1 := setRow_heap w3 (w.heap.size + 1) _ (chc A2 (n + 1)) _ _ R1
  replace hw := below_setRow hw (show w.heap.size ≤ w.heap.size + 1 by omega) (chc A2 (n + 1))
  refine hK_ _ _ (⟨R0, yc10, yc11⟩) ?_
  simp only [Act.put]
  clear hK_
  generalize w3.setRow (w.heap.size + 1) (chc A2 (n + 1)) = q1 at *
  refine wpAnyH_one (k := 7) (fuel := 1) (by kernel_rfl) rfl (by kernel_rfl) (fun K_ hK_ => ?_)
  refine wp_store_row 23 _ _ rfl (w.heap.size + 1 + 1) (irow .u8 A1) rfl rfl 23 _ R2 (infok8 _ l1) (fit32 _ _ (zr_len 32) l1) (irow_one _ _) ?_
  replace R0 := (setRow_other q1 (w.heap.size + 1 + 1) (w.heap.size) (irow .u8 A1) (by omega)).trans R0
  replace R1 := (setRow_other q1 (w.heap.size + 1 + 1) (w.heap.size + 1) (irow .u8 A1) (by omega)).trans R1
  replace yc10 := (setRow_other q1 (w.heap.size + 1 + 1) (g1) (irow .u8 A1) (by omega)).trans yc10
  replace yc11 := (setRow_other q1 (w.heap.size + 1 + 1) (g1 + 1) (irow .u8 A1) (by omega)).trans yc11
  replace R2 := setRow_heap q1 (w.heap.size + 1 + 1) _ (irow .u8 A1) _ _ R2
  replace hw := below_setRow hw (show w.heap.size ≤ w.heap.size + 1 + 1 by omega) (irow .u8 A1)
  refine hK_ _ _ (⟨R0, yc10, yc11⟩) ?_
  simp only [Act.put]
  clear hK_
  generalize q1.setRow (w.heap.size + 1 + 1) (irow .u8 A1) = q2 at *
  refine wpAnyH_take (i := 8) (v := ?v9) rfl (by kernel_rfl) (by kernel_rfl) (by kernel_rfl) (fun _ _ _ h => h) (Or.inl ⟨by rfl, ?y9⟩) (⟨R0, yc10, yc11⟩) ?r9
  case y9 =>
    intro w_ hS_
    go_simp
    try with_reducible rfl
  simp only [Act.put, List.getElem_toArray, List.getElem_cons_succ, List.getElem_cons_zero, List.setIfInBounds_toArray, List.set_cons_succ, List.set_cons_zero]
  refine wpAnyH_done (by kernel_rfl) ?_ _
  refine NoPanic.normal ?_
  go_wp2
  exact bodyPost_ret (results_c2s Tryd.results8 _ _ (w.heap.size + 1) (w.heap.size + 1 + 1) _ _ _ _ _ _ _ _ rfl rfl R1 R2 Tryd.underlying28 rfl Tryd.underlying23 rfl (infoR _ l2 _) (infok8 _ l1)) rfl ⟨rfl, hw⟩
theorem r_Next (key : List Int) (hkl : key.length = 32) (hkz : ∀ z ∈ key, 0 ≤ z ∧ z < 256) (n : Int) (hn0 : 0 ≤ n) (hn1 : n ≤ 4294967294) (w : World) :
    Calls Tryd.prog 8 #[.agg (chc key n)] w fun e w' => e = .returned (.tuple #[.agg (chc (hm key [2]) (n + 1)), .agg (irow .u8 (hm key [1])), .int .i64 0]) ∧ Below w.heap.size w w' :=
  r_Next_aux key (hm key [2]) (hm key [1]) hkl (hm_len _ _) (hm_len _ _) n hn0 hn1 w (fun V => r_Step key hkl hkz V)
def nums (n : Int) (m : Nat) : List Int := (List.range m).map fun i : Nat => n + (i : Int)
theorem nums_succ (n : Int) (m : Nat) : nums n (m + 1) = nums n m ++ [n + (m : Int)] := by simp [nums, List.range_succ]
theorem nums_len (n : Int) (m : Nat) : (nums n m).length = m := by simp [nums]
theorem nums_get (n : Int) (m i : Nat) (h : i < m) : (nums n m).getD i 0 = n + (i : Int) := by simp [nums, List.getD_eq_getElem?_getD, h]
/-- A list of numbers in a block of its own. -/
def OwnU (W : World) (b : Nat) (v : Value) (ns : List Int) : Prop := W.ownsRow b 24 1 v ns.length (ns.map (Value.int .u32))
theorem OwnU.move {W W' : World} {b : Nat} {v : Value} {ks : List Int} (h : OwnU W b v ks) (hm : ∀ g o, v.ownBlock = some g → W.heap[g]? = some o → W'.heap[g]? = some o) : OwnU W' b v ks := by
  obtain ⟨h1, h2⟩ := h
  refine ⟨h1, ?_⟩
  rcases h2 with h2 | ⟨g, cap, cur, rfl, hb, hg, rest⟩
  · exact .inl h2
  · exact .inr ⟨g, cap, cur, rfl, hb, hm g _ rfl hg, rest⟩
theorem OwnU.keep {W W' : World} {b : Nat} {v : Value} {ks : List Int} (h : OwnU W b v ks) (hb : Below W.heap.size W W') : OwnU W' b v ks := h.move (fun _ _ _ hg => Go.Proofs.YtkickbgiidhpfaaDoor.keep hb hg)
theorem OwnU.lt {W : World} {b : Nat} {v : Value} {ks : List Int} (h : OwnU W b v ks) : ∀ k, v.ownBlock = some k → b ≤ k ∧ k < W.heap.size := World.ownsRow.lt h
theorem ownU_empty {W : World} {g : Nat} (r : W.heap[g]? = some (.cells #[] 24 (0, 0))) : OwnU W g (.slice (some ⟨g, 0, none⟩) 0 0) [] := ⟨rfl, .inr ⟨g, 0, #[], rfl, Nat.le_refl _, r, Nat.le_refl _, by decide, rfl, rfl⟩⟩
theorem OwnU.down {W : World} {b c : Nat} {v : Value} {ks : List Int} (h : OwnU W b v ks) (hc : c ≤ b) : OwnU W c v ks := by
  obtain ⟨h1, h2 | ⟨g, cap, cur, rfl, hb, rest⟩⟩ := h
  · exact ⟨h1, .inl h2⟩
  · exact ⟨h1, .inr ⟨g, cap, cur, rfl, by omega, rest⟩⟩
theorem OwnK.down {W : World} {b c : Nat} {v : Value} {ks : List (List Int)} (h : OwnK W b v ks) (hc : c ≤ b) : OwnK W c v ks := by
  obtain ⟨h1, h2 | ⟨g, cap, cur, rfl, hb, rest⟩⟩ := h
  · exact ⟨h1, .inl h2⟩
  · exact ⟨h1, .inr ⟨g, cap, cur, rfl, by omega, rest⟩⟩
theorem infoUu : ∃ i, Tryd.prog.info? 24 = some i ∧ i.zero = some (.int .u32 0) ∧ i.size = 1 ∧ i.bytes = 4 := ⟨_, rfl, rfl, rfl, rfl⟩
theorem wpList_append_U {w : World} {ops : Array Oper} {rest : List Oper} {o : Oper} {a : Act} {Q : Exit → Act → World → Prop} (hgd : o.guard = none) (s x : Operand) (ho : o.op = .call { callee := .builtin .append, args := #[s, x], argTypes := #[29, 29] })
    (base : Nat) (v : Value) (ks : List Int) (hs : a.eval s = v) (hI : OwnU w base v ks) (g : Nat) (z : Int) (hx : a.eval x = .slice (some ⟨g, 0, none⟩) 1 1) (rg : w.heap[g]? = some (.cells #[.int .u32 z] 24 (0, 0))) (hlen : ks.length ≤ 1000000) (hbase : base ≤ w.heap.size)
    (h : ∀ v' w', OwnU w' base v' (ks ++ [z]) → w.grownBy w' v.ownBlock → Nx w v v' → wpList Tryd.prog ops Q rest (a.put o.dst v') w') : wpList Tryd.prog ops Q (o :: rest) a w := by
  obtain ⟨i0, hi, hz0, hz1, hz2⟩ := infoUu
  refine wpList_plain hgd fun _ hK => wp_append_nx s x 29 ho base 24 i0 (.int .u32 0) 1 4 Tryd.underlying29 hi hz0 hz1 hz2 rfl (by decide) v ks.length (ks.map (Value.int .u32)) hs hI ⟨g, 0, none⟩ 1 1 [.int .u32 z] hx rfl ?_ (by simp [Value.oneCell']) (by unfold maxLen; omega) (by omega) hbase (fun v' w' h1 h2 h3 => hK _ _ (h v' w' ?_ h2 h3))
  · intro j u hu
    match j, hu with
    | 0, hu => cases hu; rw [addr_add, cell_of_row _ _ _ _ _ _ rg]; rfl
    | (j + 1), hu => simp at hu
  · unfold OwnU
    rw [List.map_append, List.length_append]
    exact h1
def Apart (v u : Value) : Prop := ∀ k k', v.ownBlock = some k → u.ownBlock = some k' → k ≠ k'
set_option maxRecDepth 100000 in
set_option maxHeartbeats 4000000 in
theorem r_Ahead (key : List Int) (hkl : key.length = 32) (hkz : ∀ z ∈ key, 0 ≤ z ∧ z < 256) (n : Int) (hn0 : 0 ≤ n) (hn1 : n ≤ 4294967295) (k : Int) (hk : k ≤ 100000) (w : World) : Calls Tryd.prog 5 #[.agg (chc key n), .int .i64 k] w fun e w' => ∃ v u, e = .returned (.tuple #[v, u]) ∧ OwnU w' w.heap.size v (nums n (ahm n k)) ∧ OwnK w' w.heap.size u (msgs key (ahm n k)) ∧ Apart v u ∧ Below w.heap.size w w' := by
  have hmx : ∀ i : Nat, i < ahm n k ↔ ((i : Int) < k ∧ n + (i : Int) < 4294967295) := by intro i; unfold ahm; omega
  have hm5 : ahm n k ≤ 100000 := by unfold ahm; omega
  have hm6 : n + (ahm n k : Int) ≤ 4294967295 := by unfold ahm; omega
  generalize ahm n k = m at *
  have R0 := hp3_0 w (.cells (chc key n) 28) (.cells #[] 24) (.cells #[] 23)
  have R1 := hp3_1 w (.cells (chc key n) 28) (.cells #[] 24) (.cells #[] 23)
  have R2 := hp3_2 w (.cells (chc key n) 28) (.cells #[] 24) (.cells #[] 23)
  have hw0 : Below w.heap.size w (((w.alloc (.cells (chc key n) 28)).alloc (.cells #[] 24)).alloc (.cells #[] 23)) := (((Below.refl _ _).alloc (Nat.le_refl _) _).alloc (by simp) _).alloc (by simp; omega) _
  go_enter Tryd.func5, Tryd.ntmps5
  go_wp2_with (first | (refine wpList_box rfl 28 _ rfl _ rfl (bR _) ?_) | fail)
  try simp only [size_alloc1, Act.put, List.setIfInBounds_toArray, List.set_cons_succ, List.set_cons_zero]
  generalize ((w.alloc (.cells (chc key n) 28)).alloc (.cells #[] 24)).alloc (.cells #[] 23) = w0 at *
  go_loopw [6, 7, 8] (fun a6 a7 a8 wr => ∃ i : Nat, i ≤ m ∧ a8 = .int .i64 (i : Int) ∧ wr.heap[w.heap.size]? = some (.cells (chc (kat key i) (n + (i : Int))) 28 (0, 0)) ∧ OwnU wr (w.heap.size + 1) a6 (nums n i) ∧ OwnK wr (w.heap.size + 1) a7 (msgs key i) ∧ Apart a6 a7 ∧ Below w.heap.size w wr) (fun _ _ a8 _ => m - (intOf a8).toNat)
  case atStart => exact ⟨0, by omega, rfl, by rw [R0]; simp [kat], ownU_empty R1, (ownK_empty R2).down (by omega), (fun k k' h1 h2 => by cases h1; cases h2; exact Nat.ne_of_lt (Nat.lt_succ_self _)), hw0⟩
  case round =>
    clear R0 R1 R2 hw0
    obtain ⟨i, hi, rfl, R0, hU, hO, hap, hw⟩ := hrel
    have hk0 := kat_len hkl i
    have c0 := cell_n _ hk0 R0
    by_cases hlt : i < m
    · obtain ⟨q1, q2⟩ := (hmx i).1 hlt
      have hd : decide ((i : Int) < k) = true := by simp; omega
      have hd2 : decide (n + (i : Int) < 4294967295) = true := by simp; omega
      have cX := fun V => r_Next (kat key i) hk0 (kat_bd hkz i) (n + (i : Int)) (by omega) (by omega) V
      rw [show hm (kat key i) [1] = mat key i from rfl, show hm (kat key i) [2] = kat key (i + 1) from rfl] at cX
      have hk1 := kat_len hkl (i + 1)
      have hXl := mat_len key i
      have hms := msgs_succ key i
      have hns := nums_succ n i
      have hll : (msgs key i).length = i := msgs_len key i
      have hlu : (nums n i).length = i := nums_len n i
      generalize mat key i = X at *
      go_wp2_with (first | (refine wpList_load_want rfl 28 _ rfl (w.heap.size) rfl 28 (chc (kat key i) (n + (i : Int))) (0, 0) _ R0 Tryd.underlying28 rfl (infoR _ hk0 _) ?_) | fail)
      have hUl := hU.lt
      have hOl := hO.lt
      have lR0 := lt_of_row R0
      refine (cX wr).mono ?_
      rintro e_ w1 ⟨rfl, hb⟩
      have hs1 := hb.size
      replace R0 := keep hb R0
      replace hU := hU.keep hb
      replace hO := hO.keep hb
      replace hw := Below.after hw hb
      clear hb cX c0 hd hd2
      have zd0 := hp2_0 w1 (.cells (chc (zr 32) 0) 28) (.cells (irow .u8 (zr 32)) 23)
      have zd1 := hp2_1 w1 (.cells (chc (zr 32) 0) 28) (.cells (irow .u8 (zr 32)) 23)
      have yd00 := setRow_heap ((w1.alloc (.cells (chc (zr 32) 0) 28)).alloc (.cells (irow .u8 (zr 32)) 23)) (w1.heap.size) _ (chc (kat key (i + 1)) (n + (i : Int) + 1)) _ _ zd0
      have yd01 := (setRow_other ((w1.alloc (.cells (chc (zr 32) 0) 28)).alloc (.cells (irow .u8 (zr 32)) 23)) (w1.heap.size) (w1.heap.size + 1) (chc (kat key (i + 1)) (n + (i : Int) + 1)) (by omega)).trans zd1
      have yd10 := (setRow_other (((w1.alloc (.cells (chc (zr 32) 0) 28)).alloc (.cells (irow .u8 (zr 32)) 23)).setRow (w1.heap.size) (chc (kat key (i + 1)) (n + (i : Int) + 1))) (w1.heap.size + 1) (w1.heap.size) (irow .u8 X) (by omega)).trans yd00
      have yd11 := setRow_heap (((w1.alloc (.cells (chc (zr 32) 0) 28)).alloc (.cells (irow .u8 (zr 32)) 23)).setRow (w1.heap.size) (chc (kat key (i + 1)) (n + (i : Int) + 1))) (w1.heap.size + 1) _ (irow .u8 X) _ _ yd01
      have hbF : Below w1.heap.size w1 ((((w1.alloc (.cells (chc (zr 32) 0) 28)).alloc (.cells (irow .u8 (zr 32)) 23)).setRow (w1.heap.size) (chc (kat key (i + 1)) (n + (i : Int) + 1))).setRow (w1.heap.size + 1) (irow .u8 X)) := (below_setRow (below_setRow (((Below.refl _ _).alloc (Nat.le_refl _) _).alloc (by simp) _) (show w1.heap.size ≤ w1.heap.size by omega) (chc (kat key (i + 1)) (n + (i : Int) + 1))) (show w1.heap.size ≤ w1.heap.size + 1 by omega) (irow .u8 X))
      go_wp2_with (first | (refine wpList_alloc rfl 23 rfl (irow .u8 (zr 32)) zkey ?_) | (refine wpList_alloc rfl 28 rfl (chc (zr 32) 0) zchr ?_) | (refine wpList_store_row rfl 28 _ _ rfl (w1.heap.size) (chc (kat key (i + 1)) (n + (i : Int) + 1)) rfl rfl 28 _ zd0 (infoR _ hk1 _) (by rw [chc_size _ (zr_len 32), chc_size _ hk1]) (chc_one _ _) ?_; refine wpList_stay ?_) | fail)
      unfold WpStay
      go_wp2_with (first | (refine wpList_store_row rfl 23 _ _ rfl (w1.heap.size + 1) (irow .u8 X) rfl rfl 23 _ yd01 (infok8 _ hXl) (fit32 _ _ (zr_len 32) hXl) (irow_one _ _) ?_; refine wpList_stay ?_) | fail)
      unfold WpStay
      replace R0 := keep hbF R0
      replace hU := hU.keep hbF
      replace hO := hO.keep hbF
      replace hw := Below.after hw hbF
      clear hbF zd0 zd1 yd00 yd01
      generalize ((((w1.alloc (.cells (chc (zr 32) 0) 28)).alloc (.cells (irow .u8 (zr 32)) 23)).setRow (w1.heap.size) (chc (kat key (i + 1)) (n + (i : Int) + 1))).setRow (w1.heap.size + 1) (irow .u8 X)) = w2 at *
      generalize w1.heap.size = g1 at *
      have c0 := cell_n _ hk0 R0
      have lg1 := lt_of_row yd11
      have rU := hp1_0 w2 (.cells #[.int .u32 (n + (i : Int))] 24)
      have hba : Below w2.heap.size w2 (w2.alloc (.cells #[.int .u32 (n + (i : Int))] 24)) := (Below.refl _ _).alloc (Nat.le_refl _) _
      go_wp2_with (at_builtin; refine wpList_append_U rfl (.tmp 30) (.tmp 33) rfl (w.heap.size + 1) _ (nums n i) rfl (hU.keep hba) w2.heap.size _ rfl rU (by omega) (by rw [size_alloc1]; omega) ?_)
      intro v' w3 hU3 hgr hnx
      have hs3 := hgr.size
      rw [size_alloc1] at hs3
      have hoth : ∀ k, k < w2.heap.size → (∀ k', u6.ownBlock = some k' → k ≠ k') → w3.heap[k]? = w2.heap[k]? := fun k hk2 hne => (hgr.block k (by rw [size_alloc1]; omega) (fun e => hne k e.symm rfl)).trans (hba.block k hk2)
      have hvb : ∀ k, v'.ownBlock = some k → (u6.ownBlock = some k ∨ w2.heap.size ≤ k) ∧ k < w3.heap.size := fun k e => ⟨by
        rcases hnx with h | ⟨k', h, hk'⟩
        · exact .inl (h ▸ e)
        · rw [h] at e; cases e; rw [size_alloc1] at hk'; exact .inr (by omega), (hU3.lt k e).2⟩
      replace R0 := (hoth _ (by omega) (fun k' e => by have := hUl k' e; omega)).trans R0
      replace yd10 := (hoth _ (by omega) (fun k' e => by have := hUl k' e; omega)).trans yd10
      replace yd11 := (hoth _ (by omega) (fun k' e => by have := hUl k' e; omega)).trans yd11
      replace hO := hO.move (fun k o e h => (hoth k (lt_of_heap h) (fun k' e' => fun h' => hap k' k e' e h'.symm)).trans h)
      replace hw := (Below.after hw hba).grown hgr (by rw [size_alloc1]; have := hw.size; omega) (fun k e => by have := hUl k e; omega)
      clear hoth hgr hnx hba rU hU c0
      have rK := hp1_0 w3 (.cells (irow .u8 X) 23)
      have hbk : Below w3.heap.size w3 (w3.alloc (.cells (irow .u8 X) 23)) := (Below.refl _ _).alloc (Nat.le_refl _) _
      go_wp2_with (first | (refine wpList_load_want rfl 23 _ rfl (g1 + 1) rfl 23 (irow .u8 X) (0, 0) _ yd11 Tryd.underlying23 rfl (infok8 _ hXl) ?_) | (refine wpList_bslK rfl _ rfl X hXl rfl ?_) | (at_builtin; refine wpList_append_K rfl (.tmp 35) (.tmp 37) rfl (w.heap.size + 1) _ (msgs key i) rfl (hO.keep hbk) w3.heap.size X hXl rfl rK (by omega) (by rw [size_alloc1]; omega) ?_) | fail)
      intro u' w4 hO4 hgr hnx
      have hs4 := hgr.size
      rw [size_alloc1] at hs4
      have hoth : ∀ k, k < w3.heap.size → (∀ k', u7.ownBlock = some k' → k ≠ k') → w4.heap[k]? = w3.heap[k]? := fun k hk2 hne => (hgr.block k (by rw [size_alloc1]; omega) (fun e => hne k e.symm rfl)).trans (hbk.block k hk2)
      replace R0 := (hoth _ (by omega) (fun k' e => by have := hOl k' e; omega)).trans R0
      replace yd10 := (hoth _ (by omega) (fun k' e => by have := hOl k' e; omega)).trans yd10
      replace hU3 := hU3.move (fun k o e h => (hoth k (lt_of_heap h) (fun k' e' => fun h' => by
        rcases (hvb k e).1 with h1 | h1
        · exact hap k k' h1 e' h'
        · have := hOl k' e'; omega)).trans h)
      replace hw := (Below.after hw hbk).grown hgr (by rw [size_alloc1]; have := hw.size; omega) (fun k e => by have := hOl k e; omega)
      have hap2 : Apart v' u' := fun k k' e e' h' => by
        rcases hnx with h | ⟨k2, h, hk2⟩
        · rw [h] at e'
          rcases (hvb k e).1 with h1 | h1
          · exact hap k k' h1 e' h'
          · have := hOl k' e'; omega
        · rw [h] at e'; cases e'
          have := (hvb k e).2
          rw [size_alloc1] at hk2; omega
      clear hoth hgr hnx hbk rK hO yd11 hap hvb
      have k0 := setRow_heap w4 w.heap.size _ (chc (kat key (i + 1)) (n + (i : Int) + 1)) _ _ R0
      have hU5 : OwnU (w4.setRow w.heap.size (chc (kat key (i + 1)) (n + (i : Int) + 1))) (w.heap.size + 1) v' (nums n i ++ [n + (i : Int)]) := hU3.move (fun k o e h => (setRow_other w4 w.heap.size k _ (by have := hU3.lt k e; omega)).trans h)
      have hO5 : OwnK (w4.setRow w.heap.size (chc (kat key (i + 1)) (n + (i : Int) + 1))) (w.heap.size + 1) u' (msgs key i ++ [X]) := hO4.move (fun k o e h => (setRow_other w4 w.heap.size k _ (by have := hO4.lt k e; omega)).trans h)
      have hw5 := below_setRow hw (Nat.le_refl _) (chc (kat key (i + 1)) (n + (i : Int) + 1))
      go_wp2_with (first | (refine wpList_load_want rfl 28 _ rfl (g1) rfl 28 (chc (kat key (i + 1)) (n + (i : Int) + 1)) (0, 0) _ yd10 Tryd.underlying28 rfl (infoR _ hk1 _) ?_) | (refine wpList_store_row rfl 28 _ _ rfl (w.heap.size) (chc (kat key (i + 1)) (n + (i : Int) + 1)) rfl rfl 28 _ R0 (infoR _ hk1 _) (by rw [chc_size _ hk0, chc_size _ hk1]) (chc_one _ _) ?_) | fail)
      refine ⟨⟨i + 1, by omega, by go_num, by rw [k0]; simp [Int.add_assoc], by rw [hns]; exact hU5, by rw [hms]; exact hO5, hap2, hw5⟩, ?_⟩
      simp [intOf]; omega
    · obtain rfl : i = m := by omega
      have hno : ¬ ((i : Int) < k ∧ n + (i : Int) < 4294967295) := fun h => hlt ((hmx i).2 h)
      by_cases q1 : (i : Int) < k
      · have hd : decide ((i : Int) < k) = true := by simp; omega
        have hd2 : decide (n + (i : Int) < 4294967295) = false := by simp; omega
        clear hno
        go_wp2_with (fail)
        refine bodyPost_ret (results_tmp2 rfl _ _ _) rfl ?_
        exact ⟨_, _, rfl, hU.down (by omega), hO.down (by omega), hap, hw⟩
      · have hd : decide ((i : Int) < k) = false := by simp; omega
        clear hno
        go_wp2_with (fail)
        refine bodyPost_ret (results_tmp2 rfl _ _ _) rfl ?_
        exact ⟨_, _, rfl, hU.down (by omega), hO.down (by omega), hap, hw⟩

end Go.Proofs.YtkickbgiidhpfaaDoor
