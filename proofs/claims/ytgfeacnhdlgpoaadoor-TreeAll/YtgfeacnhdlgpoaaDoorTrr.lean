import Derived.Test.YtgfeacnhdlgpoaaDoorProg
import Derived.WalkKit
import Derived.WalkSpells
import Derived.WalkLawsBesides
import Derived.Lib.QuietBelow
import Derived.BigQuiet
import Derived.OrdersHeld
import Derived.OwnWalk
import Derived.Deep.RegionHeld3
import Derived.Deep.Cut
import Derived.Deep.CutRange
import Derived.Test.YtgfeacnhdlgpoaaDoorTrq
namespace Go.Proofs.YtgfeacnhdlgpoaaDoor
set_option maxRecDepth 100000
open Go Go.RowKit Go.Sort
attribute [local go_sem] setCell_drewN alloc_drewN
/-- 0 where there is no key, the old root is none's, and, of no leaves, the new one too. -/
def gnE (pz e1 nz e2 : Bool) : Int := match pz, e1, nz, e2 with
  | false, _, _, _ => 211
  | true, false, _, _ => 211
  | true, true, false, _ => 0
  | true, true, true, true => 0
  | true, true, true, false => 211
theorem gnE_eq (pz e1 nz e2 : Bool) : gnE pz e1 nz e2 = if pz = true ∧ e1 = true ∧ (nz = true → e2 = true) then 0 else 211 := by cases pz <;> cases e1 <;> cases nz <;> cases e2 <;> rfl
def gwE (f e1 e2 : Bool) : Int := match f, e1, e2 with
  | true, true, true => 0
  | false, _, _ => 211
  | true, false, _ => 211
  | true, true, false => 211
theorem gwE_eq (f e1 e2 : Bool) : gwE f e1 e2 = if f = true ∧ e1 = true ∧ e2 = true then 0 else 211 := by cases f <;> cases e1 <;> cases e2 <;> rfl
set_option maxRecDepth 100000 in
set_option maxHeartbeats 8000000 in
theorem a_gon {o r S : List Int} {pz e1 nz e2 : Bool} (ho : o.length = 32) (hr : r.length = 32) (hS32 : S.length = 32) (eS : Hid (sumL [] = S)) (w : World) (n : Int) (ao : Option Addr) (pl pc : Nat) (hS : Sta w) (hK : Kon w) (dp : Hid ((pl == 0) = pz)) (dn : (n == 0) = nz) (q1 : ∀ W, (Op.equalIn 10000 24 (.agg (irow .u8 o)) (.agg (irow .u8 S))).run Tryd.prog W = .ok e1 W) (q2 : ∀ W, (Op.equalIn 10000 24 (.agg (irow .u8 r)) (.agg (irow .u8 S))).run Tryd.prog W = .ok e2 W) : Calls Tryd.prog 53 #[.agg (irow .u8 o), .agg (irow .u8 r), .int .i64 n, .slice ao pl pc] w fun e w' => e = .returned (.int .i64 (gnE pz e1 nz e2)) ∧ Below w.heap.size w w' := by
  have rp0 := hp2_0 w (.cells (irow .u8 o) 24) (.cells (irow .u8 r) 24)
  have rp1 := hp2_1 w (.cells (irow .u8 o) 24) (.cells (irow .u8 r) 24)
  have hw : Below w.heap.size w ((w.alloc (.cells (irow .u8 o) 24)).alloc (.cells (irow .u8 r) 24)) := (((Below.refl _ _).alloc (Nat.le_refl _) _).alloc (by simp) _)
  go_enter Tryd.func53, Tryd.ntmps53
  iterate 9 go_step
  generalize ((w.alloc (.cells (irow .u8 o) 24)).alloc (.cells (irow .u8 r) 24)) = w0 at *
  go_wp2_with (fail)
  refine (a_root0 hS32 eS _ none 0 (hS.below hw) (hK.below hw)).mono ?_
  rintro e_ w1 ⟨rfl, hb⟩
  replace rp0 := keep hb rp0
  replace rp1 := keep hb rp1
  replace hw := Below.after hw hb
  clear hb
  go_wp2_with (first | (refine wpList_store_row rfl 24 _ _ rfl (w1.heap.size) (irow .u8 S) rfl rfl 24 (irow .u8 (zr 32)) (hp1_0 w1 _) (infok8 _ hS32) (((irow_size _ _).trans (zr_len 32)).trans ((irow_size _ _).trans hS32).symm) (irow_one8 _) ?_; rw [setRow_alloc_new _ _ _ _ _ _ (by simp)]; refine wpList_stay ?_) | fail)
  unfold WpStay
  try simp only [Act.put]
  have rl9 : (w1.alloc (.cells (irow .u8 S) 24)).heap[w1.heap.size]? = some (.cells (irow .u8 S) 24 (0, 0)) := hp1_0 w1 _
  have hb : Below w1.heap.size w1 (w1.alloc (.cells (irow .u8 S) 24)) := ((Below.refl _ _).alloc (Nat.le_refl _) _)
  generalize (w1.alloc (.cells (irow .u8 S) 24)) = w2 at *
  have lt_g9_0 := lt_of_row rp0
  have lt_g9_1 := lt_of_row rp1
  have sz_g9 := hw.size
  replace rp0 := keep hb rp0
  replace rp1 := keep hb rp1
  replace hw := Below.after hw hb
  clear hb
  generalize w1.heap.size = g9 at *
  clear w1
  cases pz
  · skip
    have hpl : 0 < pl := by have := dp.out; cases pl <;> simp at this ⊢
    have d1 : decide (0 < pl) = true := by simp; omega
    have d1i : decide ((pl : Int) > 0) = true := by simp; omega
    go_wp2_with (first | (refine wpList_load_part rfl 24 _ rfl (w.heap.size) 0 rfl 24 (irow .u8 o) (0, 0) (irow .u8 o) _ rp0 (all_rowe _) Tryd.underlying24 rfl (infok8 _ ho) ?_) | (refine wpList_load_part rfl 24 _ rfl (w.heap.size + 1) 0 rfl 24 (irow .u8 r) (0, 0) (irow .u8 r) _ rp1 (all_rowe _) Tryd.underlying24 rfl (infok8 _ hr) ?_) | (refine wpList_load_part rfl 24 _ rfl (g9) 0 rfl 24 (irow .u8 S) (0, 0) (irow .u8 S) _ rl9 (all_rowe _) Tryd.underlying24 rfl (infok8 _ hS32) ?_) | fail)
    go_ret
    exact ⟨rfl, hw⟩
  · obtain rfl : pl = 0 := by have := dp.out; simpa using this
    clear dp
    cases e1
    · skip
      go_wp2_with (first | (refine wpList_load_part rfl 24 _ rfl (w.heap.size) 0 rfl 24 (irow .u8 o) (0, 0) (irow .u8 o) _ rp0 (all_rowe _) Tryd.underlying24 rfl (infok8 _ ho) ?_) | (refine wpList_load_part rfl 24 _ rfl (w.heap.size + 1) 0 rfl 24 (irow .u8 r) (0, 0) (irow .u8 r) _ rp1 (all_rowe _) Tryd.underlying24 rfl (infok8 _ hr) ?_) | (refine wpList_load_part rfl 24 _ rfl (g9) 0 rfl 24 (irow .u8 S) (0, 0) (irow .u8 S) _ rl9 (all_rowe _) Tryd.underlying24 rfl (infok8 _ hS32) ?_) | fail)
      go_ret
      exact ⟨rfl, hw⟩
    · cases nz
      · skip
        go_wp2_with (first | (refine wpList_load_part rfl 24 _ rfl (w.heap.size) 0 rfl 24 (irow .u8 o) (0, 0) (irow .u8 o) _ rp0 (all_rowe _) Tryd.underlying24 rfl (infok8 _ ho) ?_) | (refine wpList_load_part rfl 24 _ rfl (w.heap.size + 1) 0 rfl 24 (irow .u8 r) (0, 0) (irow .u8 r) _ rp1 (all_rowe _) Tryd.underlying24 rfl (infok8 _ hr) ?_) | (refine wpList_load_part rfl 24 _ rfl (g9) 0 rfl 24 (irow .u8 S) (0, 0) (irow .u8 S) _ rl9 (all_rowe _) Tryd.underlying24 rfl (infok8 _ hS32) ?_) | fail)
        go_ret
        exact ⟨rfl, hw⟩
      · cases e2
        · skip
          go_wp2_with (first | (refine wpList_load_part rfl 24 _ rfl (w.heap.size) 0 rfl 24 (irow .u8 o) (0, 0) (irow .u8 o) _ rp0 (all_rowe _) Tryd.underlying24 rfl (infok8 _ ho) ?_) | (refine wpList_load_part rfl 24 _ rfl (w.heap.size + 1) 0 rfl 24 (irow .u8 r) (0, 0) (irow .u8 r) _ rp1 (all_rowe _) Tryd.underlying24 rfl (infok8 _ hr) ?_) | (refine wpList_load_part rfl 24 _ rfl (g9) 0 rfl 24 (irow .u8 S) (0, 0) (irow .u8 S) _ rl9 (all_rowe _) Tryd.underlying24 rfl (infok8 _ hS32) ?_) | fail)
          go_ret
          exact ⟨rfl, hw⟩
        · skip
          go_wp2_with (first | (refine wpList_load_part rfl 24 _ rfl (w.heap.size) 0 rfl 24 (irow .u8 o) (0, 0) (irow .u8 o) _ rp0 (all_rowe _) Tryd.underlying24 rfl (infok8 _ ho) ?_) | (refine wpList_load_part rfl 24 _ rfl (w.heap.size + 1) 0 rfl 24 (irow .u8 r) (0, 0) (irow .u8 r) _ rp1 (all_rowe _) Tryd.underlying24 rfl (infok8 _ hr) ?_) | (refine wpList_load_part rfl 24 _ rfl (g9) 0 rfl 24 (irow .u8 S) (0, 0) (irow .u8 S) _ rl9 (all_rowe _) Tryd.underlying24 rfl (infok8 _ hS32) ?_) | fail)
          go_ret
          exact ⟨rfl, hw⟩
set_option maxRecDepth 100000 in
set_option maxHeartbeats 8000000 in
theorem a_Gr_bad {o r : List Int} (_ho : o.length = 32) (_hr : r.length = 32) (w : World) (n m : Int) (v : Value) (hn : n < 0 ∨ (¬ n < 0 ∧ 65536 < n) ∨ (¬ n < 0 ∧ ¬ 65536 < n ∧ m < 0) ∨ (¬ n < 0 ∧ ¬ 65536 < n ∧ ¬ m < 0 ∧ n < m)) : Calls Tryd.prog 31 #[.agg (irow .u8 o), .int .i64 m, .agg (irow .u8 r), .int .i64 n, v] w fun e w' => e = .returned (.int .i64 210) ∧ Below w.heap.size w w' := by
  have rp0 := hp2_0 w (.cells (irow .u8 o) 24) (.cells (irow .u8 r) 24)
  have rp1 := hp2_1 w (.cells (irow .u8 o) 24) (.cells (irow .u8 r) 24)
  have hw : Below w.heap.size w ((w.alloc (.cells (irow .u8 o) 24)).alloc (.cells (irow .u8 r) 24)) := (((Below.refl _ _).alloc (Nat.le_refl _) _).alloc (by simp) _)
  go_enter Tryd.func31, Tryd.ntmps31
  iterate 9 go_step
  generalize ((w.alloc (.cells (irow .u8 o) 24)).alloc (.cells (irow .u8 r) 24)) = w0 at *
  rcases hn with h | ⟨h, h1⟩ | ⟨h, h0, h1⟩ | ⟨h, h0, h1, h2⟩
  · skip
    have d0 : decide (n < 0) = true := by simp <;> omega
    go_wp2_with (fail)
    go_ret
    exact ⟨rfl, hw⟩
  · skip
    have d0 : decide (n < 0) = false := by simp <;> omega
    have d1 : decide (n > 65536) = true := by simp <;> omega
    go_wp2_with (fail)
    go_ret
    exact ⟨rfl, hw⟩
  · skip
    have d0 : decide (n < 0) = false := by simp <;> omega
    have d1 : decide (n > 65536) = false := by simp <;> omega
    have d2 : decide (m < 0) = true := by simp <;> omega
    go_wp2_with (fail)
    go_ret
    exact ⟨rfl, hw⟩
  · skip
    have d0 : decide (n < 0) = false := by simp <;> omega
    have d1 : decide (n > 65536) = false := by simp <;> omega
    have d2 : decide (m < 0) = false := by simp <;> omega
    have d3 : decide (m > n) = true := by simp <;> omega
    go_wp2_with (fail)
    go_ret
    exact ⟨rfl, hw⟩
set_option maxRecDepth 100000 in
set_option maxHeartbeats 8000000 in
theorem a_Gr_none {o r : List Int} {E : Int} (ho : o.length = 32) (hr : r.length = 32) (w : World) (n : Nat) (v : Value) (h6 : n ≤ 65536) (cG : ∀ W, Below w.heap.size w W → Calls Tryd.prog 53 #[.agg (irow .u8 o), .agg (irow .u8 r), .int .i64 (n : Int), v] W fun e w' => e = .returned (.int .i64 E) ∧ Below W.heap.size W w') : Calls Tryd.prog 31 #[.agg (irow .u8 o), .int .i64 0, .agg (irow .u8 r), .int .i64 (n : Int), v] w fun e w' => e = .returned (.int .i64 E) ∧ Below w.heap.size w w' := by
  have d0 : decide ((n : Int) < 0) = false := by simp <;> omega
  have d1 : decide ((n : Int) > 65536) = false := by simp <;> omega
  have d2 : decide ((0 : Int) > (n : Int)) = false := by simp <;> omega
  have rp0 := hp2_0 w (.cells (irow .u8 o) 24) (.cells (irow .u8 r) 24)
  have rp1 := hp2_1 w (.cells (irow .u8 o) 24) (.cells (irow .u8 r) 24)
  have hw : Below w.heap.size w ((w.alloc (.cells (irow .u8 o) 24)).alloc (.cells (irow .u8 r) 24)) := (((Below.refl _ _).alloc (Nat.le_refl _) _).alloc (by simp) _)
  go_enter Tryd.func31, Tryd.ntmps31
  iterate 9 go_step
  generalize ((w.alloc (.cells (irow .u8 o) 24)).alloc (.cells (irow .u8 r) 24)) = w0 at *
  go_wp2_with (first | (refine wpList_load_part rfl 24 _ rfl (w.heap.size) 0 rfl 24 (irow .u8 o) (0, 0) (irow .u8 o) _ rp0 (all_rowe _) Tryd.underlying24 rfl (infok8 _ ho) ?_) | (refine wpList_load_part rfl 24 _ rfl (w.heap.size + 1) 0 rfl 24 (irow .u8 r) (0, 0) (irow .u8 r) _ rp1 (all_rowe _) Tryd.underlying24 rfl (infok8 _ hr) ?_) | fail)
  refine (cG _ hw).mono ?_
  rintro e_ w1 ⟨rfl, hb⟩
  replace rp0 := keep hb rp0
  replace rp1 := keep hb rp1
  replace hw := Below.after hw hb
  clear hb
  go_wp2_with (fail)
  go_ret
  exact ⟨rfl, hw⟩
set_option maxRecDepth 100000 in
set_option maxHeartbeats 8000000 in
theorem a_Gr_go {o r A B : List Int} {f e1 e2 : Bool} (ho : o.length = 32) (hr : r.length = 32) (hA : A.length = 32) (hB : B.length = 32) (w : World) (m n : Nat) (v : Value) (h1 : 1 ≤ m) (hmn : m ≤ n) (h6 : n ≤ 65536) (cB : (∀ W, Below w.heap.size w W → Calls Tryd.prog 54 #[v, .int .i64 (m : Int), .int .i64 (n : Int), .bool true, .agg (irow .u8 o)] W fun e w' => e = .returned (.tuple #[.agg (irow .u8 A), .agg (irow .u8 B), .bool f]) ∧ Below W.heap.size W w')) (q1 : ∀ W, (Op.equalIn 10000 24 (.agg (irow .u8 A)) (.agg (irow .u8 o))).run Tryd.prog W = .ok e1 W) (q2 : ∀ W, (Op.equalIn 10000 24 (.agg (irow .u8 B)) (.agg (irow .u8 r))).run Tryd.prog W = .ok e2 W) : Calls Tryd.prog 31 #[.agg (irow .u8 o), .int .i64 (m : Int), .agg (irow .u8 r), .int .i64 (n : Int), v] w fun e w' => e = .returned (.int .i64 (gwE f e1 e2)) ∧ Below w.heap.size w w' := by
  have d0 : decide ((n : Int) < 0) = false := by simp <;> omega
  have d1 : decide ((n : Int) > 65536) = false := by simp <;> omega
  have d2 : decide ((m : Int) < 0) = false := by simp <;> omega
  have d3 : decide ((m : Int) > (n : Int)) = false := by simp <;> omega
  have d4 : decide ((m : Int) = 0) = false := by simp; omega
  have rp0 := hp2_0 w (.cells (irow .u8 o) 24) (.cells (irow .u8 r) 24)
  have rp1 := hp2_1 w (.cells (irow .u8 o) 24) (.cells (irow .u8 r) 24)
  have hw : Below w.heap.size w ((w.alloc (.cells (irow .u8 o) 24)).alloc (.cells (irow .u8 r) 24)) := (((Below.refl _ _).alloc (Nat.le_refl _) _).alloc (by simp) _)
  go_enter Tryd.func31, Tryd.ntmps31
  iterate 9 go_step
  generalize ((w.alloc (.cells (irow .u8 o) 24)).alloc (.cells (irow .u8 r) 24)) = w0 at *
  go_wp2_with (first | (refine wpList_load_part rfl 24 _ rfl (w.heap.size) 0 rfl 24 (irow .u8 o) (0, 0) (irow .u8 o) _ rp0 (all_rowe _) Tryd.underlying24 rfl (infok8 _ ho) ?_) | (refine wpList_load_part rfl 24 _ rfl (w.heap.size + 1) 0 rfl 24 (irow .u8 r) (0, 0) (irow .u8 r) _ rp1 (all_rowe _) Tryd.underlying24 rfl (infok8 _ hr) ?_) | fail)
  refine (cB _ hw).mono ?_
  rintro e_ w1 ⟨rfl, hb⟩
  replace rp0 := keep hb rp0
  replace rp1 := keep hb rp1
  replace hw := Below.after hw hb
  clear hb
  go_wp2_with (first | (refine wpList_store_row rfl 24 _ _ rfl (w1.heap.size) (irow .u8 A) rfl rfl 24 (irow .u8 (zr 32)) (hp2_0 w1 _ _) (infok8 _ hA) (((irow_size _ _).trans (zr_len 32)).trans ((irow_size _ _).trans hA).symm) (irow_one8 _) ?_; rw [setRow_alloc_old _ _ _ _ (by simp), setRow_alloc_new _ _ _ _ _ _ (by simp)]) | (refine wpList_store_row rfl 24 _ _ rfl (w1.heap.size + 1) (irow .u8 B) rfl rfl 24 (irow .u8 (zr 32)) (hp2_1 w1 _ _) (infok8 _ hB) (((irow_size _ _).trans (zr_len 32)).trans ((irow_size _ _).trans hB).symm) (irow_one8 _) ?_; rw [setRow_alloc_new _ _ _ _ _ _ (by simp)]; refine wpList_stay ?_) | fail)
  unfold WpStay
  try simp only [Act.put]
  have rl11 : ((w1.alloc (.cells (irow .u8 A) 24)).alloc (.cells (irow .u8 B) 24)).heap[w1.heap.size]? = some (.cells (irow .u8 A) 24 (0, 0)) := hp2_0 w1 _ _
  have rl12 : ((w1.alloc (.cells (irow .u8 A) 24)).alloc (.cells (irow .u8 B) 24)).heap[w1.heap.size + 1]? = some (.cells (irow .u8 B) 24 (0, 0)) := hp2_1 w1 _ _
  have hb : Below w1.heap.size w1 ((w1.alloc (.cells (irow .u8 A) 24)).alloc (.cells (irow .u8 B) 24)) := (((Below.refl _ _).alloc (Nat.le_refl _) _).alloc (by simp) _)
  generalize ((w1.alloc (.cells (irow .u8 A) 24)).alloc (.cells (irow .u8 B) 24)) = w2 at *
  have lt_g11_0 := lt_of_row rp0
  have lt_g11_1 := lt_of_row rp1
  have sz_g11 := hw.size
  replace rp0 := keep hb rp0
  replace rp1 := keep hb rp1
  replace hw := Below.after hw hb
  clear hb
  generalize w1.heap.size = g11 at *
  clear w1
  cases f
  · skip
    go_wp2_with (first | (refine wpList_load_part rfl 24 _ rfl (w.heap.size) 0 rfl 24 (irow .u8 o) (0, 0) (irow .u8 o) _ rp0 (all_rowe _) Tryd.underlying24 rfl (infok8 _ ho) ?_) | (refine wpList_load_part rfl 24 _ rfl (w.heap.size + 1) 0 rfl 24 (irow .u8 r) (0, 0) (irow .u8 r) _ rp1 (all_rowe _) Tryd.underlying24 rfl (infok8 _ hr) ?_) | (refine wpList_load_part rfl 24 _ rfl (g11) 0 rfl 24 (irow .u8 A) (0, 0) (irow .u8 A) _ rl11 (all_rowe _) Tryd.underlying24 rfl (infok8 _ hA) ?_) | (refine wpList_load_part rfl 24 _ rfl (g11 + 1) 0 rfl 24 (irow .u8 B) (0, 0) (irow .u8 B) _ rl12 (all_rowe _) Tryd.underlying24 rfl (infok8 _ hB) ?_) | fail)
    go_ret
    exact ⟨rfl, hw⟩
  · skip
    cases e1
    · skip
      go_wp2_with (first | (refine wpList_load_part rfl 24 _ rfl (w.heap.size) 0 rfl 24 (irow .u8 o) (0, 0) (irow .u8 o) _ rp0 (all_rowe _) Tryd.underlying24 rfl (infok8 _ ho) ?_) | (refine wpList_load_part rfl 24 _ rfl (w.heap.size + 1) 0 rfl 24 (irow .u8 r) (0, 0) (irow .u8 r) _ rp1 (all_rowe _) Tryd.underlying24 rfl (infok8 _ hr) ?_) | (refine wpList_load_part rfl 24 _ rfl (g11) 0 rfl 24 (irow .u8 A) (0, 0) (irow .u8 A) _ rl11 (all_rowe _) Tryd.underlying24 rfl (infok8 _ hA) ?_) | (refine wpList_load_part rfl 24 _ rfl (g11 + 1) 0 rfl 24 (irow .u8 B) (0, 0) (irow .u8 B) _ rl12 (all_rowe _) Tryd.underlying24 rfl (infok8 _ hB) ?_) | fail)
      go_ret
      exact ⟨rfl, hw⟩
    · cases e2
      · skip
        go_wp2_with (first | (refine wpList_load_part rfl 24 _ rfl (w.heap.size) 0 rfl 24 (irow .u8 o) (0, 0) (irow .u8 o) _ rp0 (all_rowe _) Tryd.underlying24 rfl (infok8 _ ho) ?_) | (refine wpList_load_part rfl 24 _ rfl (w.heap.size + 1) 0 rfl 24 (irow .u8 r) (0, 0) (irow .u8 r) _ rp1 (all_rowe _) Tryd.underlying24 rfl (infok8 _ hr) ?_) | (refine wpList_load_part rfl 24 _ rfl (g11) 0 rfl 24 (irow .u8 A) (0, 0) (irow .u8 A) _ rl11 (all_rowe _) Tryd.underlying24 rfl (infok8 _ hA) ?_) | (refine wpList_load_part rfl 24 _ rfl (g11 + 1) 0 rfl 24 (irow .u8 B) (0, 0) (irow .u8 B) _ rl12 (all_rowe _) Tryd.underlying24 rfl (infok8 _ hB) ?_) | fail)
        go_ret
        exact ⟨rfl, hw⟩
      · skip
        go_wp2_with (first | (refine wpList_load_part rfl 24 _ rfl (w.heap.size) 0 rfl 24 (irow .u8 o) (0, 0) (irow .u8 o) _ rp0 (all_rowe _) Tryd.underlying24 rfl (infok8 _ ho) ?_) | (refine wpList_load_part rfl 24 _ rfl (w.heap.size + 1) 0 rfl 24 (irow .u8 r) (0, 0) (irow .u8 r) _ rp1 (all_rowe _) Tryd.underlying24 rfl (infok8 _ hr) ?_) | (refine wpList_load_part rfl 24 _ rfl (g11) 0 rfl 24 (irow .u8 A) (0, 0) (irow .u8 A) _ rl11 (all_rowe _) Tryd.underlying24 rfl (infok8 _ hA) ?_) | (refine wpList_load_part rfl 24 _ rfl (g11 + 1) 0 rfl 24 (irow .u8 B) (0, 0) (irow .u8 B) _ rl12 (all_rowe _) Tryd.underlying24 rfl (infok8 _ hB) ?_) | fail)
        go_ret
        exact ⟨rfl, hw⟩
/-- What Grown answers. -/
def grE (o : List Int) (m : Int) (r : List Int) (n : Int) (p : List (List Int)) : Int :=
  if n < 0 ∨ 65536 < n ∨ m < 0 ∨ n < m then 210 else
  if m = 0 then (if p.length = 0 ∧ o = sumL [] ∧ (n = 0 → r = sumL []) then 0 else 211) else
  if p.length = kys n.toNat m.toNat true ∧ (bde sumL m.toNat n.toNat true o p).1 = o ∧ (bde sumL m.toNat n.toNat true o p).2 = r then 0 else 211
theorem a_Grown (o r : List Int) (m n : Int) (p : List (List Int)) (w : World) (v : Value) (ho : Ky o) (hr : Ky r) (hS : Sta w) (hK : Kon w) (hP : Ksl w v p) : Calls Tryd.prog 31 #[.agg (irow .u8 o), .int .i64 m, .agg (irow .u8 r), .int .i64 n, v] w fun e w' => e = .returned (.int .i64 (grE o m r n p)) ∧ Below w.heap.size w w' := by
  unfold grE
  by_cases hb : n < 0 ∨ 65536 < n ∨ m < 0 ∨ n < m
  · rw [if_pos hb]
    exact a_Gr_bad ho.1 hr.1 w n m v (by omega)
  · rw [if_neg hb]
    obtain ⟨N, rfl⟩ := Int.eq_ofNat_of_zero_le (show 0 ≤ n by omega)
    obtain ⟨M, rfl⟩ := Int.eq_ofNat_of_zero_le (show 0 ≤ m by omega)
    by_cases h0 : (M : Int) = 0
    · rw [if_pos h0, h0]
      refine a_Gr_none ho.1 hr.1 w N v (by omega) (fun W hW => ?_)
      have hP2 := hP.keep hW
      obtain ⟨ao, cap, rfl, _, _⟩ := hP2.slc
      refine (a_gon (pz := (p.length == 0)) (nz := ((N : Int) == 0)) ho.1 hr.1 (sumL_len []) (hide rfl) W (N : Int) ao p.length cap (hS.below hW) (hK.below hW) (hide rfl) rfl (eqK _ _ ho.1 (sumL_len _)) (eqK _ _ hr.1 (sumL_len _))).mono fun e w' ⟨q1, q2⟩ => ⟨?_, q2⟩
      rw [q1, gnE_eq]
      simp
    · rw [if_neg h0, Int.toNat_natCast, Int.toNat_natCast]
      have hm1 : 1 ≤ M := by omega
      obtain ⟨kA, kB⟩ := Ky.bth N M true o p ho hP.ok hm1
      obtain ⟨m1, m2⟩ := bth_bde sumL N M true o p hm1
      refine (a_Gr_go ho.1 hr.1 kA.1 kB.1 w M N v hm1 (by omega) (by omega) (fun W hW => a_both N M true o p W v hm1 (by omega) (by omega) ho (hS.below hW) (hK.below hW) (hP.keep hW)) (eqK _ _ kA.1 ho.1) (eqK _ _ kB.1 hr.1)).mono fun e w' ⟨q1, q2⟩ => ⟨?_, q2⟩
      rw [q1, gwE_eq, m1]
      by_cases hf : p.length = kys N M true
      · obtain ⟨z1, z2⟩ := m2 hf
        rw [z1, z2]; simp [hf]
      · simp [hf]
end Go.Proofs.YtgfeacnhdlgpoaaDoor
