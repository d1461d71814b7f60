import Derived.Test.YtamieopjigjfiabDoorProg
import Derived.WalkKit
import Derived.WalkSpells
import Derived.WalkLawsBesides
import Derived.Lib.QuietBelow
import Derived.BigQuiet
import Derived.OrdersHeld
import Derived.OwnWalk
import Derived.Deep.RegionHeld3
import Derived.Test.YtamieopjigjfiabDoorKa
import Derived.Test.YtamieopjigjfiabDoorSn
namespace Go.Proofs.YtamieopjigjfiabDoor
set_option maxRecDepth 100000
open Go Go.RowKit Go.Sort
attribute [local go_sem] setCell_drewN alloc_drewN

set_option maxRecDepth 100000 in
set_option maxHeartbeats 4000000 in
theorem slong_in (key nonce : List B) (hk : key.length = 32) (hno : nonce.length = 16) (w : World) (hS : Sta w) (hK : Kon w) (n : Nat) (hn : n ≤ 100) : Calls Tryd.prog 5 #[.agg (irow .u8 (bl key)), .agg (irow .u8 (bl nonce)), .int .i64 (n : Int)] w fun e w' => e = .returned (.bool true) ∧ Below w.heap.size w w' := by
  have q1 : decide ((n : Int) < 0) = false := by simp
  have q2 : decide ((100 : Int) < (n : Int)) = false := by simp; omega
  have hkl : (bl key).length = 32 := by rw [bl_len, hk]
  have hiN := info_bl infoN nonce hno
  have R0 := hp2_0 w (.cells (irow .u8 (bl key)) 23) (.cells (irow .u8 (bl nonce)) 25)
  have R1 := hp2_1 w (.cells (irow .u8 (bl key)) 23) (.cells (irow .u8 (bl nonce)) 25)
  have hw : Below w.heap.size w ((w.alloc (.cells (irow .u8 (bl key)) 23)).alloc (.cells (irow .u8 (bl nonce)) 25)) := (((Below.refl _ _).alloc (Nat.le_refl _) _).alloc (by simp) _)
  go_enter Tryd.func5, Tryd.ntmps5
  go_wp2_with (first | (refine wpList_box rfl 23 _ rfl _ rfl (bK _) ?_) | (refine wpList_box rfl 25 _ rfl _ rfl (bNo _) ?_) | fail)
  try simp only [size_alloc1, Act.put, List.setIfInBounds_toArray, List.set_cons_succ, List.set_cons_zero]
  generalize ((w.alloc (.cells (irow .u8 (bl key)) 23)).alloc (.cells (irow .u8 (bl nonce)) 25)) = w0 at *
  refine (l_lives w0 (hS.below hw) (hK.below hw)).mono ?_
  rintro e_ w1 ⟨rfl, hb⟩
  replace R0 := keep hb R0
  replace R1 := keep hb R1
  replace hw := Below.after hw hb
  clear hb
  have m1 := make_len (2097217 + n) (by omega) w1
  obtain ⟨LT, eLT, hLt⟩ : ∃ L : List B, zr (2097217 + n) = bl L ∧ L.length = (2097217 + n) := ⟨List.replicate _ _, (bl_zr _).symm, List.length_replicate⟩
  obtain ⟨LB, eLB, hLb⟩ : ∃ L : List B, zr (2097233 + n) = bl L ∧ L.length = (2097233 + n) := ⟨List.replicate _ _, (bl_zr _).symm, List.length_replicate⟩
  rw [eLT] at m1
  replace hLt := hide hLt
  replace hLb := hide hLb
  rw [show (((2097217 + n) : Nat) : Int) = (2097217 + (n : Int)) by omega] at m1
  have hwr1 : IntKind.i64.wrap (2097217 + (n : Int)) = (2097217 + (n : Int)) := by rw [IntKind.wrap_i64]; omega
  have hwr2 : IntKind.i64.wrap (2097233 + (n : Int)) = (2097233 + (n : Int)) := by rw [IntKind.wrap_i64]; omega
  have r1 := hp1_0 w1 (.cells (irow .u8 (bl LT)) 5)
  have hb1 : Below w1.heap.size w1 (w1.alloc (.cells (irow .u8 (bl LT)) 5)) := (Below.refl _ _).alloc (Nat.le_refl _) _
  have m2 := make_len (2097233 + n) (by omega) (w1.alloc (.cells (irow .u8 (bl LT)) 5))
  rw [size_alloc1, eLB] at m2
  rw [show (((2097233 + n) : Nat) : Int) = (2097233 + (n : Int)) by omega] at m2
  clear eLT eLB
  have r2 := hp1_0 (w1.alloc (.cells (irow .u8 (bl LT)) 5)) (.cells (irow .u8 (bl LB)) 5)
  rw [size_alloc1] at r2
  have hb2 : Below (w1.alloc (.cells (irow .u8 (bl LT)) 5)).heap.size (w1.alloc (.cells (irow .u8 (bl LT)) 5)) ((w1.alloc (.cells (irow .u8 (bl LT)) 5)).alloc (.cells (irow .u8 (bl LB)) 5)) := (Below.refl _ _).alloc (Nat.le_refl _) _
  replace r1 := keep hb2 r1
  replace R0 := keep hb2 (keep hb1 R0)
  replace R1 := keep hb2 (keep hb1 R1)
  replace hw := Below.after (Below.after hw hb1) hb2
  clear hb1 hb2
  go_wp2_with (first | (refine wpList_load_want rfl 23 _ rfl (w.heap.size) rfl 23 (irow .u8 (bl key)) (0, 0) _ R0 Tryd.underlying23 rfl (infok8 _ hkl) ?_) | (refine wpList_load_want rfl 25 _ rfl (w.heap.size + 1) rfl 25 (irow .u8 (bl nonce)) (0, 0) _ R1 Tryd.underlying25 rfl hiN ?_) | fail)
  clear m1 m2
  generalize (w1.alloc (.cells (irow .u8 (bl LT)) 5)).alloc (.cells (irow .u8 (bl LB)) 5) = w2 at *
  generalize w1.heap.size = g1 at *
  have hTh : Hid (∀ V, Below w2.heap.size w2 V → BysB V (.slice (some ⟨g1, 0, none⟩) (2097217 + n) (2097217 + n)) LT) := hide (fun V h => row_bysB (keep h r1) hLt.out (by omega) _)
  have hBh : Hid (∀ V, Below w2.heap.size w2 V → BysB V (.slice (some ⟨g1 + 1, 0, none⟩) (2097233 + n) (2097233 + n)) LB) := hide (fun V h => row_bysB (keep h r2) hLb.out (by omega) _)
  have hRh : Hid (∀ V, Below w2.heap.size w2 V → BysB V (.slice (some ⟨g1 + 1, 0, none⟩) (n % 16) (2097233 + n)) (LB.take (n % 16))) := hide (fun V h => by
    have h1 := hBh.out V h
    rw [← hLb.out] at h1
    have h2 := bysB_take (m := (n % 16)) h1 (by rw [hLb.out]; omega)
    rw [hLb.out] at h2
    exact h2)
  have hRl : (LB.take (n % 16)).length < 16 := by rw [List.length_take]; omega
  have hq := Below.refl w2.heap.size w2
  clear r1 r2
  refine (a_seal_long key nonce [] LT w2 _ _ (nil_bysB _) (hTh.out _ hq) (.inr (by rw [hLt.out]; omega))).mono ?_
  rintro e_ w3 ⟨rfl, hb⟩
  replace hq := Below.after hq hb
  replace R0 := keep hb R0
  replace R1 := keep hb R1
  replace hw := Below.after hw hb
  clear hb
  go_wp2_with (first | (refine wpList_load_want rfl 23 _ rfl (w.heap.size) rfl 23 (irow .u8 (bl key)) (0, 0) _ R0 Tryd.underlying23 rfl (infok8 _ hkl) ?_) | (refine wpList_load_want rfl 25 _ rfl (w.heap.size + 1) rfl 25 (irow .u8 (bl nonce)) (0, 0) _ R1 Tryd.underlying25 rfl hiN ?_) | fail)
  refine (a_seal_long key nonce LT [] w3 _ _ (hTh.out _ hq) (nil_bysB _) (.inl (by rw [hLt.out]; omega))).mono ?_
  rintro e_ w4 ⟨rfl, hb⟩
  replace hq := Below.after hq hb
  replace R0 := keep hb R0
  replace R1 := keep hb R1
  replace hw := Below.after hw hb
  clear hb
  go_wp2_with (first | (refine wpList_load_want rfl 23 _ rfl (w.heap.size) rfl 23 (irow .u8 (bl key)) (0, 0) _ R0 Tryd.underlying23 rfl (infok8 _ hkl) ?_) | (refine wpList_load_want rfl 25 _ rfl (w.heap.size + 1) rfl 25 (irow .u8 (bl nonce)) (0, 0) _ R1 Tryd.underlying25 rfl hiN ?_) | fail)
  refine (a_open_long key nonce [] LB w4 _ _ (nil_bysB _) (hBh.out _ hq) (.inr (by rw [hLb.out]; omega))).mono ?_
  rintro e_ w5 ⟨rfl, hb⟩
  replace hq := Below.after hq hb
  replace R0 := keep hb R0
  replace R1 := keep hb R1
  replace hw := Below.after hw hb
  clear hb
  have slR := slice_to (some ⟨g1 + 1, 0, none⟩) (2097233 + n) (2097233 + n) (n % 16) (by omega)
  have hrm : ((n % 16 : Nat) : Int) = ((n : Int) % 16) := by omega
  rw [hrm] at slR
  have hrt : Int.tmod (n : Int) 16 = ((n : Int) % 16) := by rw [Int.tmod_eq_emod_of_nonneg (by omega)]
  clear hrm
  go_wp2_with (fail)
  have hbd : Below w5.heap.size w5 w5.drew := below_drN (Below.refl _ _) 1
  replace R0 := keep hbd R0
  replace R1 := keep hbd R1
  replace hq := Below.after hq hbd
  replace hw := Below.after hw hbd
  clear hbd
  refine wp_region_noPanic ?_
  refine wp_region_held (S := fun W => W.heap[w.heap.size]? = some (.cells (irow .u8 (bl key)) 23 (0, 0)) ∧ W.heap[w.heap.size + 1]? = some (.cells (irow .u8 (bl nonce)) 25 (0, 0))) (by kernel_rfl) ?_
  change wpAnyH _ _ _ _ _ _ _ _ (World.drew _)
  generalize w5.drew = wa at *
  refine wpAnyH_take (i := 0) (v := .agg (irow .u8 (bl key))) rfl (by kernel_rfl) (by kernel_rfl) (by kernel_rfl) (fun _ _ _ h => h) (Or.inl ⟨by rfl, ?y1⟩) (⟨R0, R1⟩) ?r1
  case y1 =>
    intro w_ hS_
    simp only [List.getElem_toArray, List.getElem_cons_zero]
    exact run_load_part 23 _ (by rfl) (w.heap.size) 0 (by rfl) 23 (irow .u8 (bl key)) (0, 0) (irow .u8 (bl key)) _ (hS_.1) (all_row _) Tryd.underlying23 rfl (infok8 _ hkl)
  simp only [Act.put, List.getElem_toArray, List.getElem_cons_zero, List.setIfInBounds_toArray, List.set_cons_succ, List.set_cons_zero]
  refine wpAnyH_take (i := 1) (v := .agg (irow .u8 (bl nonce))) rfl (by kernel_rfl) (by kernel_rfl) (by kernel_rfl) (fun _ _ _ h => h) (Or.inl ⟨by rfl, ?y2⟩) (⟨R0, R1⟩) ?r2
  case y2 =>
    intro w_ hS_
    simp only [List.getElem_toArray, List.getElem_cons_succ, List.getElem_cons_zero]
    exact run_load_part 25 _ (by rfl) (w.heap.size + 1) 0 (by rfl) 25 (irow .u8 (bl nonce)) (0, 0) (irow .u8 (bl nonce)) _ (hS_.2) (all_row _) Tryd.underlying25 rfl hiN
  simp only [Act.put, List.getElem_toArray, List.getElem_cons_succ, List.getElem_cons_zero, List.setIfInBounds_toArray, List.set_cons_succ, List.set_cons_zero]
  refine wpAnyH_take (i := 2) (v := ?v3) rfl (by kernel_rfl) (by kernel_rfl) (by kernel_rfl) (fun _ _ _ h => h) (Or.inl ⟨by rfl, ?y3⟩) (⟨R0, R1⟩) ?r3
  case y3 =>
    intro w_ hS_
    go_simp
    try with_reducible rfl
  simp only [Act.put, List.getElem_toArray, List.getElem_cons_succ, List.getElem_cons_zero, List.setIfInBounds_toArray, List.set_cons_succ, List.set_cons_zero]
  refine wpAnyH_take (i := 3) (v := ?v4) rfl (by kernel_rfl) (by kernel_rfl) (by kernel_rfl) (fun _ _ _ h => h) (Or.inl ⟨by rfl, ?y4⟩) (⟨R0, R1⟩) ?r4
  case y4 =>
    intro w_ hS_
    go_simp
    try with_reducible rfl
  simp only [Act.put, List.getElem_toArray, List.getElem_cons_succ, List.getElem_cons_zero, List.setIfInBounds_toArray, List.set_cons_succ, List.set_cons_zero]
  refine wpAnyH_take (i := 4) (v := ?v5) rfl (by kernel_rfl) (by kernel_rfl) (by kernel_rfl) (fun _ _ _ h => h) (Or.inl ⟨by rfl, ?y5⟩) (⟨R0, R1⟩) ?r5
  case y5 =>
    intro w_ hS_
    go_simp
    try with_reducible rfl
  simp only [Act.put, List.getElem_toArray, List.getElem_cons_succ, List.getElem_cons_zero, List.setIfInBounds_toArray, List.set_cons_succ, List.set_cons_zero]
  refine wpAnyH_take (i := 5) (v := ?v6) rfl (by kernel_rfl) (by kernel_rfl) (by kernel_rfl) (fun _ _ _ h => h) (Or.inl ⟨by rfl, ?y6⟩) (⟨R0, R1⟩) ?r6
  case y6 =>
    intro w_ hS_
    go_simp
    try with_reducible rfl
  simp only [Act.put, List.getElem_toArray, List.getElem_cons_succ, List.getElem_cons_zero, List.setIfInBounds_toArray, List.set_cons_succ, List.set_cons_zero]
  refine wpAnyH_take (i := 6) (v := ?v7) rfl (by kernel_rfl) (by kernel_rfl) (by kernel_rfl) (fun _ _ _ h => h) (Or.inl ⟨by rfl, ?y7⟩) (⟨R0, R1⟩) ?r7
  case y7 =>
    intro w_ hS_
    go_simp
    try with_reducible rfl
  simp only [Act.put, List.getElem_toArray, List.getElem_cons_succ, List.getElem_cons_zero, List.setIfInBounds_toArray, List.set_cons_succ, List.set_cons_zero]
  refine wpAnyH_one (k := 7) (fuel := 5) (by kernel_rfl) rfl (by kernel_rfl) (fun K_ hK_ => ?_)
  have cX := a_open_long key nonce LT (LB.take (n % 16)) wa _ _ (hTh.out _ hq) (hRh.out _ hq) (.inl (by rw [hLt.out]; omega))
  refine wp_call_ex (f := 9) (by kernel_rfl) (ex1s cX) (fun v_ q1 hX_ => ?_)
  obtain ⟨rfl, hb_⟩ := hX_
  replace R0 := keep hb_ R0
  replace R1 := keep hb_ R1
  replace hq := Below.after hq hb_
  replace hw := Below.after hw hb_
  clear hb_
  clear cX
  refine hK_ _ _ (⟨R0, R1⟩) ?_
  simp only [Act.put, List.getElem_toArray, List.getElem_cons_succ, List.getElem_cons_zero, List.setIfInBounds_toArray, List.set_cons_succ, List.set_cons_zero]
  clear hK_
  refine wpAnyH_take (i := 8) (v := ?v8) rfl (by kernel_rfl) (by kernel_rfl) (by kernel_rfl) (fun _ _ _ h => h) (Or.inl ⟨by rfl, ?y8⟩) (⟨R0, R1⟩) ?r8
  case y8 =>
    intro w_ hS_
    go_simp
    try with_reducible rfl
  simp only [Act.put, List.getElem_toArray, List.getElem_cons_succ, List.getElem_cons_zero, List.setIfInBounds_toArray, List.set_cons_succ, List.set_cons_zero]
  refine wpAnyH_take (i := 9) (v := ?v9) rfl (by kernel_rfl) (by kernel_rfl) (by kernel_rfl) (fun _ _ _ h => h) (Or.inl ⟨by rfl, ?y9⟩) (⟨R0, R1⟩) ?r9
  case y9 =>
    intro w_ hS_
    go_simp
    try with_reducible rfl
  simp only [Act.put, List.getElem_toArray, List.getElem_cons_succ, List.getElem_cons_zero, List.setIfInBounds_toArray, List.set_cons_succ, List.set_cons_zero]
  refine wpAnyH_take (i := 10) (v := ?v10) rfl (by kernel_rfl) (by kernel_rfl) (by kernel_rfl) (fun _ _ _ h => h) (Or.inl ⟨by rfl, ?y10⟩) (⟨R0, R1⟩) ?r10
  case y10 =>
    intro w_ hS_
    go_simp
    try with_reducible rfl
  simp only [Act.put, List.getElem_toArray, List.getElem_cons_succ, List.getElem_cons_zero, List.setIfInBounds_toArray, List.set_cons_succ, List.set_cons_zero]
  refine wpAnyH_take (i := 11) (v := ?v11) rfl (by kernel_rfl) (by kernel_rfl) (by kernel_rfl) (fun _ _ _ h => h) (Or.inl ⟨by rfl, ?y11⟩) (⟨R0, R1⟩) ?r11
  case y11 =>
    intro w_ hS_
    go_simp
    try with_reducible rfl
  simp only [Act.put, List.getElem_toArray, List.getElem_cons_succ, List.getElem_cons_zero, List.setIfInBounds_toArray, List.set_cons_succ, List.set_cons_zero]
  refine wpAnyH_take (i := 12) (v := ?v12) rfl (by kernel_rfl) (by kernel_rfl) (by kernel_rfl) (fun _ _ _ h => h) (Or.inl ⟨by rfl, ?y12⟩) (⟨R0, R1⟩) ?r12
  case y12 =>
    intro w_ hS_
    go_simp
    try with_reducible rfl
  simp only [Act.put, List.getElem_toArray, List.getElem_cons_succ, List.getElem_cons_zero, List.setIfInBounds_toArray, List.set_cons_succ, List.set_cons_zero]
  refine wpAnyH_done (by kernel_rfl) ?_ _
  refine NoPanic.normal ?_
  go_wp2_with (fail)
  have hbd : Below q1.heap.size q1 q1.drew := below_drN (Below.refl _ _) 1
  replace R0 := keep hbd R0
  replace R1 := keep hbd R1
  replace hq := Below.after hq hbd
  replace hw := Below.after hw hbd
  clear hbd
  refine wp_region_noPanic ?_
  refine wp_region_held (S := fun W => W.heap[w.heap.size]? = some (.cells (irow .u8 (bl key)) 23 (0, 0)) ∧ W.heap[w.heap.size + 1]? = some (.cells (irow .u8 (bl nonce)) 25 (0, 0))) (by kernel_rfl) ?_
  change wpAnyH _ _ _ _ _ _ _ _ (World.drew _)
  generalize q1.drew = wb at *
  refine wpAnyH_take (i := 0) (v := .agg (irow .u8 (bl key))) rfl (by kernel_rfl) (by kernel_rfl) (by kernel_rfl) (fun _ _ _ h => h) (Or.inl ⟨by rfl, ?y13⟩) (⟨R0, R1⟩) ?r13
  case y13 =>
    intro w_ hS_
    simp only [List.getElem_toArray, List.getElem_cons_zero]
    exact run_load_part 23 _ (by rfl) (w.heap.size) 0 (by rfl) 23 (irow .u8 (bl key)) (0, 0) (irow .u8 (bl key)) _ (hS_.1) (all_row _) Tryd.underlying23 rfl (infok8 _ hkl)
  simp only [Act.put, List.getElem_toArray, List.getElem_cons_zero, List.setIfInBounds_toArray, List.set_cons_succ, List.set_cons_zero]
  refine wpAnyH_take (i := 1) (v := .agg (irow .u8 (bl nonce))) rfl (by kernel_rfl) (by kernel_rfl) (by kernel_rfl) (fun _ _ _ h => h) (Or.inl ⟨by rfl, ?y14⟩) (⟨R0, R1⟩) ?r14
  case y14 =>
    intro w_ hS_
    simp only [List.getElem_toArray, List.getElem_cons_succ, List.getElem_cons_zero]
    exact run_load_part 25 _ (by rfl) (w.heap.size + 1) 0 (by rfl) 25 (irow .u8 (bl nonce)) (0, 0) (irow .u8 (bl nonce)) _ (hS_.2) (all_row _) Tryd.underlying25 rfl hiN
  simp only [Act.put, List.getElem_toArray, List.getElem_cons_succ, List.getElem_cons_zero, List.setIfInBounds_toArray, List.set_cons_succ, List.set_cons_zero]
  refine wpAnyH_take (i := 2) (v := ?v15) rfl (by kernel_rfl) (by kernel_rfl) (by kernel_rfl) (fun _ _ _ h => h) (Or.inl ⟨by rfl, ?y15⟩) (⟨R0, R1⟩) ?r15
  case y15 =>
    intro w_ hS_
    go_simp
    try with_reducible rfl
  simp only [Act.put, List.getElem_toArray, List.getElem_cons_succ, List.getElem_cons_zero, List.setIfInBounds_toArray, List.set_cons_succ, List.set_cons_zero]
  refine wpAnyH_take (i := 3) (v := ?v16) rfl (by kernel_rfl) (by kernel_rfl) (by kernel_rfl) (fun _ _ _ h => h) (Or.inl ⟨by rfl, ?y16⟩) (⟨R0, R1⟩) ?r16
  case y16 =>
    intro w_ hS_
    go_simp
    try with_reducible rfl
  simp only [Act.put, List.getElem_toArray, List.getElem_cons_succ, List.getElem_cons_zero, List.setIfInBounds_toArray, List.set_cons_succ, List.set_cons_zero]
  refine wpAnyH_take (i := 4) (v := ?v17) rfl (by kernel_rfl) (by kernel_rfl) (by kernel_rfl) (fun _ _ _ h => h) (Or.inl ⟨by rfl, ?y17⟩) (⟨R0, R1⟩) ?r17
  case y17 =>
    intro w_ hS_
    go_simp
    try with_reducible rfl
  simp only [Act.put, List.getElem_toArray, List.getElem_cons_succ, List.getElem_cons_zero, List.setIfInBounds_toArray, List.set_cons_succ, List.set_cons_zero]
  refine wpAnyH_take (i := 5) (v := ?v18) rfl (by kernel_rfl) (by kernel_rfl) (by kernel_rfl) (fun _ _ _ h => h) (Or.inl ⟨by rfl, ?y18⟩) (⟨R0, R1⟩) ?r18
  case y18 =>
    intro w_ hS_
    go_simp
    try with_reducible rfl
  simp only [Act.put, List.getElem_toArray, List.getElem_cons_succ, List.getElem_cons_zero, List.setIfInBounds_toArray, List.set_cons_succ, List.set_cons_zero]
  refine wpAnyH_one (k := 6) (fuel := 5) (by kernel_rfl) rfl (by kernel_rfl) (fun K_ hK_ => ?_)
  have cX := a_open_short key nonce [] (LB.take (n % 16)) wb _ _ (nil_bysB _) (hRh.out _ hq) (Nat.zero_le _) hRl
  refine wp_call_ex (f := 9) (by kernel_rfl) (ex1s cX) (fun v_ q2 hX_ => ?_)
  obtain ⟨rfl, hb_⟩ := hX_
  replace R0 := keep hb_ R0
  replace R1 := keep hb_ R1
  replace hq := Below.after hq hb_
  replace hw := Below.after hw hb_
  clear hb_
  clear cX
  refine hK_ _ _ (⟨R0, R1⟩) ?_
  simp only [Act.put, List.getElem_toArray, List.getElem_cons_succ, List.getElem_cons_zero, List.setIfInBounds_toArray, List.set_cons_succ, List.set_cons_zero]
  clear hK_
  refine wpAnyH_take (i := 7) (v := ?v19) rfl (by kernel_rfl) (by kernel_rfl) (by kernel_rfl) (fun _ _ _ h => h) (Or.inl ⟨by rfl, ?y19⟩) (⟨R0, R1⟩) ?r19
  case y19 =>
    intro w_ hS_
    go_simp
    try with_reducible rfl
  simp only [Act.put, List.getElem_toArray, List.getElem_cons_succ, List.getElem_cons_zero, List.setIfInBounds_toArray, List.set_cons_succ, List.set_cons_zero]
  refine wpAnyH_take (i := 8) (v := ?v20) rfl (by kernel_rfl) (by kernel_rfl) (by kernel_rfl) (fun _ _ _ h => h) (Or.inl ⟨by rfl, ?y20⟩) (⟨R0, R1⟩) ?r20
  case y20 =>
    intro w_ hS_
    go_simp
    try with_reducible rfl
  simp only [Act.put, List.getElem_toArray, List.getElem_cons_succ, List.getElem_cons_zero, List.setIfInBounds_toArray, List.set_cons_succ, List.set_cons_zero]
  refine wpAnyH_take (i := 9) (v := ?v21) rfl (by kernel_rfl) (by kernel_rfl) (by kernel_rfl) (fun _ _ _ h => h) (Or.inl ⟨by rfl, ?y21⟩) (⟨R0, R1⟩) ?r21
  case y21 =>
    intro w_ hS_
    go_simp
    try with_reducible rfl
  simp only [Act.put, List.getElem_toArray, List.getElem_cons_succ, List.getElem_cons_zero, List.setIfInBounds_toArray, List.set_cons_succ, List.set_cons_zero]
  refine wpAnyH_take (i := 10) (v := ?v22) rfl (by kernel_rfl) (by kernel_rfl) (by kernel_rfl) (fun _ _ _ h => h) (Or.inl ⟨by rfl, ?y22⟩) (⟨R0, R1⟩) ?r22
  case y22 =>
    intro w_ hS_
    go_simp
    try with_reducible rfl
  simp only [Act.put, List.getElem_toArray, List.getElem_cons_succ, List.getElem_cons_zero, List.setIfInBounds_toArray, List.set_cons_succ, List.set_cons_zero]
  refine wpAnyH_take (i := 11) (v := ?v23) rfl (by kernel_rfl) (by kernel_rfl) (by kernel_rfl) (fun _ _ _ h => h) (Or.inl ⟨by rfl, ?y23⟩) (⟨R0, R1⟩) ?r23
  case y23 =>
    intro w_ hS_
    go_simp
    try with_reducible rfl
  simp only [Act.put, List.getElem_toArray, List.getElem_cons_succ, List.getElem_cons_zero, List.setIfInBounds_toArray, List.set_cons_succ, List.set_cons_zero]
  refine wpAnyH_done (by kernel_rfl) ?_ _
  refine NoPanic.normal ?_
  go_wp2
  go_ret
  exact ⟨rfl, hw⟩
set_option maxRecDepth 100000 in
set_option maxHeartbeats 4000000 in
theorem slong_low (key nonce : List B) (hk : key.length = 32) (hno : nonce.length = 16) (w : World) (hS : Sta w) (hK : Kon w) (m : Int) (hm : m < 0) : Calls Tryd.prog 5 #[.agg (irow .u8 (bl key)), .agg (irow .u8 (bl nonce)), .int .i64 m] w fun e w' => e = .returned (.bool true) ∧ Below w.heap.size w w' := by
  have q1 : decide (m < 0) = true := decide_eq_true hm
  have hkl : (bl key).length = 32 := by rw [bl_len, hk]
  have hiN := info_bl infoN nonce hno
  have R0 := hp2_0 w (.cells (irow .u8 (bl key)) 23) (.cells (irow .u8 (bl nonce)) 25)
  have R1 := hp2_1 w (.cells (irow .u8 (bl key)) 23) (.cells (irow .u8 (bl nonce)) 25)
  have hw : Below w.heap.size w ((w.alloc (.cells (irow .u8 (bl key)) 23)).alloc (.cells (irow .u8 (bl nonce)) 25)) := (((Below.refl _ _).alloc (Nat.le_refl _) _).alloc (by simp) _)
  go_enter Tryd.func5, Tryd.ntmps5
  go_wp2_with (first | (refine wpList_box rfl 23 _ rfl _ rfl (bK _) ?_) | (refine wpList_box rfl 25 _ rfl _ rfl (bNo _) ?_) | fail)
  try simp only [size_alloc1, Act.put, List.setIfInBounds_toArray, List.set_cons_succ, List.set_cons_zero]
  generalize ((w.alloc (.cells (irow .u8 (bl key)) 23)).alloc (.cells (irow .u8 (bl nonce)) 25)) = w0 at *
  refine (l_lives w0 (hS.below hw) (hK.below hw)).mono ?_
  rintro e_ w1 ⟨rfl, hb⟩
  replace R0 := keep hb R0
  replace R1 := keep hb R1
  replace hw := Below.after hw hb
  clear hb
  have m1 := make_len 2097217 (by omega) w1
  obtain ⟨LT, eLT, hLt⟩ : ∃ L : List B, zr 2097217 = bl L ∧ L.length = 2097217 := ⟨List.replicate _ _, (bl_zr _).symm, List.length_replicate⟩
  obtain ⟨LB, eLB, hLb⟩ : ∃ L : List B, zr 2097233 = bl L ∧ L.length = 2097233 := ⟨List.replicate _ _, (bl_zr _).symm, List.length_replicate⟩
  rw [eLT] at m1
  replace hLt := hide hLt
  replace hLb := hide hLb
  rw [show ((2097217 : Nat) : Int) = 2097217 from rfl] at m1
  have r1 := hp1_0 w1 (.cells (irow .u8 (bl LT)) 5)
  have hb1 : Below w1.heap.size w1 (w1.alloc (.cells (irow .u8 (bl LT)) 5)) := (Below.refl _ _).alloc (Nat.le_refl _) _
  have m2 := make_len 2097233 (by omega) (w1.alloc (.cells (irow .u8 (bl LT)) 5))
  rw [size_alloc1, eLB] at m2
  rw [show ((2097233 : Nat) : Int) = 2097233 from rfl] at m2
  clear eLT eLB
  have r2 := hp1_0 (w1.alloc (.cells (irow .u8 (bl LT)) 5)) (.cells (irow .u8 (bl LB)) 5)
  rw [size_alloc1] at r2
  have hb2 : Below (w1.alloc (.cells (irow .u8 (bl LT)) 5)).heap.size (w1.alloc (.cells (irow .u8 (bl LT)) 5)) ((w1.alloc (.cells (irow .u8 (bl LT)) 5)).alloc (.cells (irow .u8 (bl LB)) 5)) := (Below.refl _ _).alloc (Nat.le_refl _) _
  replace r1 := keep hb2 r1
  replace R0 := keep hb2 (keep hb1 R0)
  replace R1 := keep hb2 (keep hb1 R1)
  replace hw := Below.after (Below.after hw hb1) hb2
  clear hb1 hb2
  go_wp2_with (first | (refine wpList_load_want rfl 23 _ rfl (w.heap.size) rfl 23 (irow .u8 (bl key)) (0, 0) _ R0 Tryd.underlying23 rfl (infok8 _ hkl) ?_) | (refine wpList_load_want rfl 25 _ rfl (w.heap.size + 1) rfl 25 (irow .u8 (bl nonce)) (0, 0) _ R1 Tryd.underlying25 rfl hiN ?_) | fail)
  clear m1 m2
  generalize (w1.alloc (.cells (irow .u8 (bl LT)) 5)).alloc (.cells (irow .u8 (bl LB)) 5) = w2 at *
  generalize w1.heap.size = g1 at *
  have hTh : Hid (∀ V, Below w2.heap.size w2 V → BysB V (.slice (some ⟨g1, 0, none⟩) 2097217 2097217) LT) := hide (fun V h => row_bysB (keep h r1) hLt.out (by omega) _)
  have hBh : Hid (∀ V, Below w2.heap.size w2 V → BysB V (.slice (some ⟨g1 + 1, 0, none⟩) 2097233 2097233) LB) := hide (fun V h => row_bysB (keep h r2) hLb.out (by omega) _)
  have hRh : Hid (∀ V, Below w2.heap.size w2 V → BysB V (.slice (some ⟨g1 + 1, 0, none⟩) 0 2097233) (LB.take 0)) := hide (fun V h => by
    have h1 := hBh.out V h
    rw [← hLb.out] at h1
    have h2 := bysB_take (m := 0) h1 (by rw [hLb.out]; omega)
    rw [hLb.out] at h2
    exact h2)
  have hRl : (LB.take 0).length < 16 := by rw [List.length_take]; omega
  have hq := Below.refl w2.heap.size w2
  clear r1 r2
  refine (a_seal_long key nonce [] LT w2 _ _ (nil_bysB _) (hTh.out _ hq) (.inr (by rw [hLt.out]; omega))).mono ?_
  rintro e_ w3 ⟨rfl, hb⟩
  replace hq := Below.after hq hb
  replace R0 := keep hb R0
  replace R1 := keep hb R1
  replace hw := Below.after hw hb
  clear hb
  go_wp2_with (first | (refine wpList_load_want rfl 23 _ rfl (w.heap.size) rfl 23 (irow .u8 (bl key)) (0, 0) _ R0 Tryd.underlying23 rfl (infok8 _ hkl) ?_) | (refine wpList_load_want rfl 25 _ rfl (w.heap.size + 1) rfl 25 (irow .u8 (bl nonce)) (0, 0) _ R1 Tryd.underlying25 rfl hiN ?_) | fail)
  refine (a_seal_long key nonce LT [] w3 _ _ (hTh.out _ hq) (nil_bysB _) (.inl (by rw [hLt.out]; omega))).mono ?_
  rintro e_ w4 ⟨rfl, hb⟩
  replace hq := Below.after hq hb
  replace R0 := keep hb R0
  replace R1 := keep hb R1
  replace hw := Below.after hw hb
  clear hb
  go_wp2_with (first | (refine wpList_load_want rfl 23 _ rfl (w.heap.size) rfl 23 (irow .u8 (bl key)) (0, 0) _ R0 Tryd.underlying23 rfl (infok8 _ hkl) ?_) | (refine wpList_load_want rfl 25 _ rfl (w.heap.size + 1) rfl 25 (irow .u8 (bl nonce)) (0, 0) _ R1 Tryd.underlying25 rfl hiN ?_) | fail)
  refine (a_open_long key nonce [] LB w4 _ _ (nil_bysB _) (hBh.out _ hq) (.inr (by rw [hLb.out]; omega))).mono ?_
  rintro e_ w5 ⟨rfl, hb⟩
  replace hq := Below.after hq hb
  replace R0 := keep hb R0
  replace R1 := keep hb R1
  replace hw := Below.after hw hb
  clear hb
  have slR := slice_to (some ⟨g1 + 1, 0, none⟩) 2097233 2097233 0 (by omega)
  go_wp2_with (fail)
  have hbd : Below w5.heap.size w5 w5.drew := below_drN (Below.refl _ _) 1
  replace R0 := keep hbd R0
  replace R1 := keep hbd R1
  replace hq := Below.after hq hbd
  replace hw := Below.after hw hbd
  clear hbd
  refine wp_region_noPanic ?_
  refine wp_region_held (S := fun W => W.heap[w.heap.size]? = some (.cells (irow .u8 (bl key)) 23 (0, 0)) ∧ W.heap[w.heap.size + 1]? = some (.cells (irow .u8 (bl nonce)) 25 (0, 0))) (by kernel_rfl) ?_
  change wpAnyH _ _ _ _ _ _ _ _ (World.drew _)
  generalize w5.drew = wa at *
  refine wpAnyH_take (i := 0) (v := .agg (irow .u8 (bl key))) rfl (by kernel_rfl) (by kernel_rfl) (by kernel_rfl) (fun _ _ _ h => h) (Or.inl ⟨by rfl, ?y24⟩) (⟨R0, R1⟩) ?r24
  case y24 =>
    intro w_ hS_
    simp only [List.getElem_toArray, List.getElem_cons_zero]
    exact run_load_part 23 _ (by rfl) (w.heap.size) 0 (by rfl) 23 (irow .u8 (bl key)) (0, 0) (irow .u8 (bl key)) _ (hS_.1) (all_row _) Tryd.underlying23 rfl (infok8 _ hkl)
  simp only [Act.put, List.getElem_toArray, List.getElem_cons_zero, List.setIfInBounds_toArray, List.set_cons_succ, List.set_cons_zero]
  refine wpAnyH_take (i := 1) (v := .agg (irow .u8 (bl nonce))) rfl (by kernel_rfl) (by kernel_rfl) (by kernel_rfl) (fun _ _ _ h => h) (Or.inl ⟨by rfl, ?y25⟩) (⟨R0, R1⟩) ?r25
  case y25 =>
    intro w_ hS_
    simp only [List.getElem_toArray, List.getElem_cons_succ, List.getElem_cons_zero]
    exact run_load_part 25 _ (by rfl) (w.heap.size + 1) 0 (by rfl) 25 (irow .u8 (bl nonce)) (0, 0) (irow .u8 (bl nonce)) _ (hS_.2) (all_row _) Tryd.underlying25 rfl hiN
  simp only [Act.put, List.getElem_toArray, List.getElem_cons_succ, List.getElem_cons_zero, List.setIfInBounds_toArray, List.set_cons_succ, List.set_cons_zero]
  refine wpAnyH_take (i := 2) (v := ?v26) rfl (by kernel_rfl) (by kernel_rfl) (by kernel_rfl) (fun _ _ _ h => h) (Or.inl ⟨by rfl, ?y26⟩) (⟨R0, R1⟩) ?r26
  case y26 =>
    intro w_ hS_
    go_simp
    try with_reducible rfl
  simp only [Act.put, List.getElem_toArray, List.getElem_cons_succ, List.getElem_cons_zero, List.setIfInBounds_toArray, List.set_cons_succ, List.set_cons_zero]
  refine wpAnyH_take (i := 3) (v := ?v27) rfl (by kernel_rfl) (by kernel_rfl) (by kernel_rfl) (fun _ _ _ h => h) (Or.inl ⟨by rfl, ?y27⟩) (⟨R0, R1⟩) ?r27
  case y27 =>
    intro w_ hS_
    go_simp
    try with_reducible rfl
  simp only [Act.put, List.getElem_toArray, List.getElem_cons_succ, List.getElem_cons_zero, List.setIfInBounds_toArray, List.set_cons_succ, List.set_cons_zero]
  refine wpAnyH_take (i := 4) (v := ?v28) rfl (by kernel_rfl) (by kernel_rfl) (by kernel_rfl) (fun _ _ _ h => h) (Or.inl ⟨by rfl, ?y28⟩) (⟨R0, R1⟩) ?r28
  case y28 =>
    intro w_ hS_
    go_simp
    try with_reducible rfl
  simp only [Act.put, List.getElem_toArray, List.getElem_cons_succ, List.getElem_cons_zero, List.setIfInBounds_toArray, List.set_cons_succ, List.set_cons_zero]
  refine wpAnyH_take (i := 5) (v := ?v29) rfl (by kernel_rfl) (by kernel_rfl) (by kernel_rfl) (fun _ _ _ h => h) (Or.inl ⟨by rfl, ?y29⟩) (⟨R0, R1⟩) ?r29
  case y29 =>
    intro w_ hS_
    go_simp
    try with_reducible rfl
  simp only [Act.put, List.getElem_toArray, List.getElem_cons_succ, List.getElem_cons_zero, List.setIfInBounds_toArray, List.set_cons_succ, List.set_cons_zero]
  refine wpAnyH_take (i := 6) (v := ?v30) rfl (by kernel_rfl) (by kernel_rfl) (by kernel_rfl) (fun _ _ _ h => h) (Or.inl ⟨by rfl, ?y30⟩) (⟨R0, R1⟩) ?r30
  case y30 =>
    intro w_ hS_
    go_simp
    try with_reducible rfl
  simp only [Act.put, List.getElem_toArray, List.getElem_cons_succ, List.getElem_cons_zero, List.setIfInBounds_toArray, List.set_cons_succ, List.set_cons_zero]
  refine wpAnyH_one (k := 7) (fuel := 5) (by kernel_rfl) rfl (by kernel_rfl) (fun K_ hK_ => ?_)
  have cX := a_open_long key nonce LT (LB.take 0) wa _ _ (hTh.out _ hq) (hRh.out _ hq) (.inl (by rw [hLt.out]; omega))
  refine wp_call_ex (f := 9) (by kernel_rfl) (ex1s cX) (fun v_ q3 hX_ => ?_)
  obtain ⟨rfl, hb_⟩ := hX_
  replace R0 := keep hb_ R0
  replace R1 := keep hb_ R1
  replace hq := Below.after hq hb_
  replace hw := Below.after hw hb_
  clear hb_
  clear cX
  refine hK_ _ _ (⟨R0, R1⟩) ?_
  simp only [Act.put, List.getElem_toArray, List.getElem_cons_succ, List.getElem_cons_zero, List.setIfInBounds_toArray, List.set_cons_succ, List.set_cons_zero]
  clear hK_
  refine wpAnyH_take (i := 8) (v := ?v31) rfl (by kernel_rfl) (by kernel_rfl) (by kernel_rfl) (fun _ _ _ h => h) (Or.inl ⟨by rfl, ?y31⟩) (⟨R0, R1⟩) ?r31
  case y31 =>
    intro w_ hS_
    go_simp
    try with_reducible rfl
  simp only [Act.put, List.getElem_toArray, List.getElem_cons_succ, List.getElem_cons_zero, List.setIfInBounds_toArray, List.set_cons_succ, List.set_cons_zero]
  refine wpAnyH_take (i := 9) (v := ?v32) rfl (by kernel_rfl) (by kernel_rfl) (by kernel_rfl) (fun _ _ _ h => h) (Or.inl ⟨by rfl, ?y32⟩) (⟨R0, R1⟩) ?r32
  case y32 =>
    intro w_ hS_
    go_simp
    try with_reducible rfl
  simp only [Act.put, List.getElem_toArray, List.getElem_cons_succ, List.getElem_cons_zero, List.setIfInBounds_toArray, List.set_cons_succ, List.set_cons_zero]
  refine wpAnyH_take (i := 10) (v := ?v33) rfl (by kernel_rfl) (by kernel_rfl) (by kernel_rfl) (fun _ _ _ h => h) (Or.inl ⟨by rfl, ?y33⟩) (⟨R0, R1⟩) ?r33
  case y33 =>
    intro w_ hS_
    go_simp
    try with_reducible rfl
  simp only [Act.put, List.getElem_toArray, List.getElem_cons_succ, List.getElem_cons_zero, List.setIfInBounds_toArray, List.set_cons_succ, List.set_cons_zero]
  refine wpAnyH_take (i := 11) (v := ?v34) rfl (by kernel_rfl) (by kernel_rfl) (by kernel_rfl) (fun _ _ _ h => h) (Or.inl ⟨by rfl, ?y34⟩) (⟨R0, R1⟩) ?r34
  case y34 =>
    intro w_ hS_
    go_simp
    try with_reducible rfl
  simp only [Act.put, List.getElem_toArray, List.getElem_cons_succ, List.getElem_cons_zero, List.setIfInBounds_toArray, List.set_cons_succ, List.set_cons_zero]
  refine wpAnyH_take (i := 12) (v := ?v35) rfl (by kernel_rfl) (by kernel_rfl) (by kernel_rfl) (fun _ _ _ h => h) (Or.inl ⟨by rfl, ?y35⟩) (⟨R0, R1⟩) ?r35
  case y35 =>
    intro w_ hS_
    go_simp
    try with_reducible rfl
  simp only [Act.put, List.getElem_toArray, List.getElem_cons_succ, List.getElem_cons_zero, List.setIfInBounds_toArray, List.set_cons_succ, List.set_cons_zero]
  refine wpAnyH_done (by kernel_rfl) ?_ _
  refine NoPanic.normal ?_
  go_wp2_with (fail)
  have hbd : Below q3.heap.size q3 q3.drew := below_drN (Below.refl _ _) 1
  replace R0 := keep hbd R0
  replace R1 := keep hbd R1
  replace hq := Below.after hq hbd
  replace hw := Below.after hw hbd
  clear hbd
  refine wp_region_noPanic ?_
  refine wp_region_held (S := fun W => W.heap[w.heap.size]? = some (.cells (irow .u8 (bl key)) 23 (0, 0)) ∧ W.heap[w.heap.size + 1]? = some (.cells (irow .u8 (bl nonce)) 25 (0, 0))) (by kernel_rfl) ?_
  change wpAnyH _ _ _ _ _ _ _ _ (World.drew _)
  generalize q3.drew = wb at *
  refine wpAnyH_take (i := 0) (v := .agg (irow .u8 (bl key))) rfl (by kernel_rfl) (by kernel_rfl) (by kernel_rfl) (fun _ _ _ h => h) (Or.inl ⟨by rfl, ?y36⟩) (⟨R0, R1⟩) ?r36
  case y36 =>
    intro w_ hS_
    simp only [List.getElem_toArray, List.getElem_cons_zero]
    exact run_load_part 23 _ (by rfl) (w.heap.size) 0 (by rfl) 23 (irow .u8 (bl key)) (0, 0) (irow .u8 (bl key)) _ (hS_.1) (all_row _) Tryd.underlying23 rfl (infok8 _ hkl)
  simp only [Act.put, List.getElem_toArray, List.getElem_cons_zero, List.setIfInBounds_toArray, List.set_cons_succ, List.set_cons_zero]
  refine wpAnyH_take (i := 1) (v := .agg (irow .u8 (bl nonce))) rfl (by kernel_rfl) (by kernel_rfl) (by kernel_rfl) (fun _ _ _ h => h) (Or.inl ⟨by rfl, ?y37⟩) (⟨R0, R1⟩) ?r37
  case y37 =>
    intro w_ hS_
    simp only [List.getElem_toArray, List.getElem_cons_succ, List.getElem_cons_zero]
    exact run_load_part 25 _ (by rfl) (w.heap.size + 1) 0 (by rfl) 25 (irow .u8 (bl nonce)) (0, 0) (irow .u8 (bl nonce)) _ (hS_.2) (all_row _) Tryd.underlying25 rfl hiN
  simp only [Act.put, List.getElem_toArray, List.getElem_cons_succ, List.getElem_cons_zero, List.setIfInBounds_toArray, List.set_cons_succ, List.set_cons_zero]
  refine wpAnyH_take (i := 2) (v := ?v38) rfl (by kernel_rfl) (by kernel_rfl) (by kernel_rfl) (fun _ _ _ h => h) (Or.inl ⟨by rfl, ?y38⟩) (⟨R0, R1⟩) ?r38
  case y38 =>
    intro w_ hS_
    go_simp
    try with_reducible rfl
  simp only [Act.put, List.getElem_toArray, List.getElem_cons_succ, List.getElem_cons_zero, List.setIfInBounds_toArray, List.set_cons_succ, List.set_cons_zero]
  refine wpAnyH_take (i := 3) (v := ?v39) rfl (by kernel_rfl) (by kernel_rfl) (by kernel_rfl) (fun _ _ _ h => h) (Or.inl ⟨by rfl, ?y39⟩) (⟨R0, R1⟩) ?r39
  case y39 =>
    intro w_ hS_
    go_simp
    try with_reducible rfl
  simp only [Act.put, List.getElem_toArray, List.getElem_cons_succ, List.getElem_cons_zero, List.setIfInBounds_toArray, List.set_cons_succ, List.set_cons_zero]
  refine wpAnyH_take (i := 4) (v := ?v40) rfl (by kernel_rfl) (by kernel_rfl) (by kernel_rfl) (fun _ _ _ h => h) (Or.inl ⟨by rfl, ?y40⟩) (⟨R0, R1⟩) ?r40
  case y40 =>
    intro w_ hS_
    go_simp
    try with_reducible rfl
  simp only [Act.put, List.getElem_toArray, List.getElem_cons_succ, List.getElem_cons_zero, List.setIfInBounds_toArray, List.set_cons_succ, List.set_cons_zero]
  refine wpAnyH_take (i := 5) (v := ?v41) rfl (by kernel_rfl) (by kernel_rfl) (by kernel_rfl) (fun _ _ _ h => h) (Or.inl ⟨by rfl, ?y41⟩) (⟨R0, R1⟩) ?r41
  case y41 =>
    intro w_ hS_
    go_simp
    try with_reducible rfl
  simp only [Act.put, List.getElem_toArray, List.getElem_cons_succ, List.getElem_cons_zero, List.setIfInBounds_toArray, List.set_cons_succ, List.set_cons_zero]
  refine wpAnyH_one (k := 6) (fuel := 5) (by kernel_rfl) rfl (by kernel_rfl) (fun K_ hK_ => ?_)
  have cX := a_open_short key nonce [] (LB.take 0) wb _ _ (nil_bysB _) (hRh.out _ hq) (Nat.zero_le _) hRl
  refine wp_call_ex (f := 9) (by kernel_rfl) (ex1s cX) (fun v_ q4 hX_ => ?_)
  obtain ⟨rfl, hb_⟩ := hX_
  replace R0 := keep hb_ R0
  replace R1 := keep hb_ R1
  replace hq := Below.after hq hb_
  replace hw := Below.after hw hb_
  clear hb_
  clear cX
  refine hK_ _ _ (⟨R0, R1⟩) ?_
  simp only [Act.put, List.getElem_toArray, List.getElem_cons_succ, List.getElem_cons_zero, List.setIfInBounds_toArray, List.set_cons_succ, List.set_cons_zero]
  clear hK_
  refine wpAnyH_take (i := 7) (v := ?v42) rfl (by kernel_rfl) (by kernel_rfl) (by kernel_rfl) (fun _ _ _ h => h) (Or.inl ⟨by rfl, ?y42⟩) (⟨R0, R1⟩) ?r42
  case y42 =>
    intro w_ hS_
    go_simp
    try with_reducible rfl
  simp only [Act.put, List.getElem_toArray, List.getElem_cons_succ, List.getElem_cons_zero, List.setIfInBounds_toArray, List.set_cons_succ, List.set_cons_zero]
  refine wpAnyH_take (i := 8) (v := ?v43) rfl (by kernel_rfl) (by kernel_rfl) (by kernel_rfl) (fun _ _ _ h => h) (Or.inl ⟨by rfl, ?y43⟩) (⟨R0, R1⟩) ?r43
  case y43 =>
    intro w_ hS_
    go_simp
    try with_reducible rfl
  simp only [Act.put, List.getElem_toArray, List.getElem_cons_succ, List.getElem_cons_zero, List.setIfInBounds_toArray, List.set_cons_succ, List.set_cons_zero]
  refine wpAnyH_take (i := 9) (v := ?v44) rfl (by kernel_rfl) (by kernel_rfl) (by kernel_rfl) (fun _ _ _ h => h) (Or.inl ⟨by rfl, ?y44⟩) (⟨R0, R1⟩) ?r44
  case y44 =>
    intro w_ hS_
    go_simp
    try with_reducible rfl
  simp only [Act.put, List.getElem_toArray, List.getElem_cons_succ, List.getElem_cons_zero, List.setIfInBounds_toArray, List.set_cons_succ, List.set_cons_zero]
  refine wpAnyH_take (i := 10) (v := ?v45) rfl (by kernel_rfl) (by kernel_rfl) (by kernel_rfl) (fun _ _ _ h => h) (Or.inl ⟨by rfl, ?y45⟩) (⟨R0, R1⟩) ?r45
  case y45 =>
    intro w_ hS_
    go_simp
    try with_reducible rfl
  simp only [Act.put, List.getElem_toArray, List.getElem_cons_succ, List.getElem_cons_zero, List.setIfInBounds_toArray, List.set_cons_succ, List.set_cons_zero]
  refine wpAnyH_take (i := 11) (v := ?v46) rfl (by kernel_rfl) (by kernel_rfl) (by kernel_rfl) (fun _ _ _ h => h) (Or.inl ⟨by rfl, ?y46⟩) (⟨R0, R1⟩) ?r46
  case y46 =>
    intro w_ hS_
    go_simp
    try with_reducible rfl
  simp only [Act.put, List.getElem_toArray, List.getElem_cons_succ, List.getElem_cons_zero, List.setIfInBounds_toArray, List.set_cons_succ, List.set_cons_zero]
  refine wpAnyH_done (by kernel_rfl) ?_ _
  refine NoPanic.normal ?_
  go_wp2
  go_ret
  exact ⟨rfl, hw⟩
set_option maxRecDepth 100000 in
set_option maxHeartbeats 4000000 in
theorem slong_high (key nonce : List B) (hk : key.length = 32) (hno : nonce.length = 16) (w : World) (hS : Sta w) (hK : Kon w) (m : Int) (hm : 100 < m) : Calls Tryd.prog 5 #[.agg (irow .u8 (bl key)), .agg (irow .u8 (bl nonce)), .int .i64 m] w fun e w' => e = .returned (.bool true) ∧ Below w.heap.size w w' := by
  have q1 : decide (m < 0) = false := decide_eq_false (by omega)
  have q2 : decide ((100 : Int) < m) = true := decide_eq_true hm
  have hkl : (bl key).length = 32 := by rw [bl_len, hk]
  have hiN := info_bl infoN nonce hno
  have R0 := hp2_0 w (.cells (irow .u8 (bl key)) 23) (.cells (irow .u8 (bl nonce)) 25)
  have R1 := hp2_1 w (.cells (irow .u8 (bl key)) 23) (.cells (irow .u8 (bl nonce)) 25)
  have hw : Below w.heap.size w ((w.alloc (.cells (irow .u8 (bl key)) 23)).alloc (.cells (irow .u8 (bl nonce)) 25)) := (((Below.refl _ _).alloc (Nat.le_refl _) _).alloc (by simp) _)
  go_enter Tryd.func5, Tryd.ntmps5
  go_wp2_with (first | (refine wpList_box rfl 23 _ rfl _ rfl (bK _) ?_) | (refine wpList_box rfl 25 _ rfl _ rfl (bNo _) ?_) | fail)
  try simp only [size_alloc1, Act.put, List.setIfInBounds_toArray, List.set_cons_succ, List.set_cons_zero]
  generalize ((w.alloc (.cells (irow .u8 (bl key)) 23)).alloc (.cells (irow .u8 (bl nonce)) 25)) = w0 at *
  refine (l_lives w0 (hS.below hw) (hK.below hw)).mono ?_
  rintro e_ w1 ⟨rfl, hb⟩
  replace R0 := keep hb R0
  replace R1 := keep hb R1
  replace hw := Below.after hw hb
  clear hb
  have m1 := make_len 2097217 (by omega) w1
  obtain ⟨LT, eLT, hLt⟩ : ∃ L : List B, zr 2097217 = bl L ∧ L.length = 2097217 := ⟨List.replicate _ _, (bl_zr _).symm, List.length_replicate⟩
  obtain ⟨LB, eLB, hLb⟩ : ∃ L : List B, zr 2097233 = bl L ∧ L.length = 2097233 := ⟨List.replicate _ _, (bl_zr _).symm, List.length_replicate⟩
  rw [eLT] at m1
  replace hLt := hide hLt
  replace hLb := hide hLb
  rw [show ((2097217 : Nat) : Int) = 2097217 from rfl] at m1
  have r1 := hp1_0 w1 (.cells (irow .u8 (bl LT)) 5)
  have hb1 : Below w1.heap.size w1 (w1.alloc (.cells (irow .u8 (bl LT)) 5)) := (Below.refl _ _).alloc (Nat.le_refl _) _
  have m2 := make_len 2097233 (by omega) (w1.alloc (.cells (irow .u8 (bl LT)) 5))
  rw [size_alloc1, eLB] at m2
  rw [show ((2097233 : Nat) : Int) = 2097233 from rfl] at m2
  clear eLT eLB
  have r2 := hp1_0 (w1.alloc (.cells (irow .u8 (bl LT)) 5)) (.cells (irow .u8 (bl LB)) 5)
  rw [size_alloc1] at r2
  have hb2 : Below (w1.alloc (.cells (irow .u8 (bl LT)) 5)).heap.size (w1.alloc (.cells (irow .u8 (bl LT)) 5)) ((w1.alloc (.cells (irow .u8 (bl LT)) 5)).alloc (.cells (irow .u8 (bl LB)) 5)) := (Below.refl _ _).alloc (Nat.le_refl _) _
  replace r1 := keep hb2 r1
  replace R0 := keep hb2 (keep hb1 R0)
  replace R1 := keep hb2 (keep hb1 R1)
  replace hw := Below.after (Below.after hw hb1) hb2
  clear hb1 hb2
  go_wp2_with (first | (refine wpList_load_want rfl 23 _ rfl (w.heap.size) rfl 23 (irow .u8 (bl key)) (0, 0) _ R0 Tryd.underlying23 rfl (infok8 _ hkl) ?_) | (refine wpList_load_want rfl 25 _ rfl (w.heap.size + 1) rfl 25 (irow .u8 (bl nonce)) (0, 0) _ R1 Tryd.underlying25 rfl hiN ?_) | fail)
  clear m1 m2
  generalize (w1.alloc (.cells (irow .u8 (bl LT)) 5)).alloc (.cells (irow .u8 (bl LB)) 5) = w2 at *
  generalize w1.heap.size = g1 at *
  have hTh : Hid (∀ V, Below w2.heap.size w2 V → BysB V (.slice (some ⟨g1, 0, none⟩) 2097217 2097217) LT) := hide (fun V h => row_bysB (keep h r1) hLt.out (by omega) _)
  have hBh : Hid (∀ V, Below w2.heap.size w2 V → BysB V (.slice (some ⟨g1 + 1, 0, none⟩) 2097233 2097233) LB) := hide (fun V h => row_bysB (keep h r2) hLb.out (by omega) _)
  have hRh : Hid (∀ V, Below w2.heap.size w2 V → BysB V (.slice (some ⟨g1 + 1, 0, none⟩) 0 2097233) (LB.take 0)) := hide (fun V h => by
    have h1 := hBh.out V h
    rw [← hLb.out] at h1
    have h2 := bysB_take (m := 0) h1 (by rw [hLb.out]; omega)
    rw [hLb.out] at h2
    exact h2)
  have hRl : (LB.take 0).length < 16 := by rw [List.length_take]; omega
  have hq := Below.refl w2.heap.size w2
  clear r1 r2
  refine (a_seal_long key nonce [] LT w2 _ _ (nil_bysB _) (hTh.out _ hq) (.inr (by rw [hLt.out]; omega))).mono ?_
  rintro e_ w3 ⟨rfl, hb⟩
  replace hq := Below.after hq hb
  replace R0 := keep hb R0
  replace R1 := keep hb R1
  replace hw := Below.after hw hb
  clear hb
  go_wp2_with (first | (refine wpList_load_want rfl 23 _ rfl (w.heap.size) rfl 23 (irow .u8 (bl key)) (0, 0) _ R0 Tryd.underlying23 rfl (infok8 _ hkl) ?_) | (refine wpList_load_want rfl 25 _ rfl (w.heap.size + 1) rfl 25 (irow .u8 (bl nonce)) (0, 0) _ R1 Tryd.underlying25 rfl hiN ?_) | fail)
  refine (a_seal_long key nonce LT [] w3 _ _ (hTh.out _ hq) (nil_bysB _) (.inl (by rw [hLt.out]; omega))).mono ?_
  rintro e_ w4 ⟨rfl, hb⟩
  replace hq := Below.after hq hb
  replace R0 := keep hb R0
  replace R1 := keep hb R1
  replace hw := Below.after hw hb
  clear hb
  go_wp2_with (first | (refine wpList_load_want rfl 23 _ rfl (w.heap.size) rfl 23 (irow .u8 (bl key)) (0, 0) _ R0 Tryd.underlying23 rfl (infok8 _ hkl) ?_) | (refine wpList_load_want rfl 25 _ rfl (w.heap.size + 1) rfl 25 (irow .u8 (bl nonce)) (0, 0) _ R1 Tryd.underlying25 rfl hiN ?_) | fail)
  refine (a_open_long key nonce [] LB w4 _ _ (nil_bysB _) (hBh.out _ hq) (.inr (by rw [hLb.out]; omega))).mono ?_
  rintro e_ w5 ⟨rfl, hb⟩
  replace hq := Below.after hq hb
  replace R0 := keep hb R0
  replace R1 := keep hb R1
  replace hw := Below.after hw hb
  clear hb
  have slR := slice_to (some ⟨g1 + 1, 0, none⟩) 2097233 2097233 0 (by omega)
  go_wp2_with (fail)
  have hbd : Below w5.heap.size w5 w5.drew := below_drN (Below.refl _ _) 1
  replace R0 := keep hbd R0
  replace R1 := keep hbd R1
  replace hq := Below.after hq hbd
  replace hw := Below.after hw hbd
  clear hbd
  refine wp_region_noPanic ?_
  refine wp_region_held (S := fun W => W.heap[w.heap.size]? = some (.cells (irow .u8 (bl key)) 23 (0, 0)) ∧ W.heap[w.heap.size + 1]? = some (.cells (irow .u8 (bl nonce)) 25 (0, 0))) (by kernel_rfl) ?_
  change wpAnyH _ _ _ _ _ _ _ _ (World.drew _)
  generalize w5.drew = wa at *
  refine wpAnyH_take (i := 0) (v := .agg (irow .u8 (bl key))) rfl (by kernel_rfl) (by kernel_rfl) (by kernel_rfl) (fun _ _ _ h => h) (Or.inl ⟨by rfl, ?y47⟩) (⟨R0, R1⟩) ?r47
  case y47 =>
    intro w_ hS_
    simp only [List.getElem_toArray, List.getElem_cons_zero]
    exact run_load_part 23 _ (by rfl) (w.heap.size) 0 (by rfl) 23 (irow .u8 (bl key)) (0, 0) (irow .u8 (bl key)) _ (hS_.1) (all_row _) Tryd.underlying23 rfl (infok8 _ hkl)
  simp only [Act.put, List.getElem_toArray, List.getElem_cons_zero, List.setIfInBounds_toArray, List.set_cons_succ, List.set_cons_zero]
  refine wpAnyH_take (i := 1) (v := .agg (irow .u8 (bl nonce))) rfl (by kernel_rfl) (by kernel_rfl) (by kernel_rfl) (fun _ _ _ h => h) (Or.inl ⟨by rfl, ?y48⟩) (⟨R0, R1⟩) ?r48
  case y48 =>
    intro w_ hS_
    simp only [List.getElem_toArray, List.getElem_cons_succ, List.getElem_cons_zero]
    exact run_load_part 25 _ (by rfl) (w.heap.size + 1) 0 (by rfl) 25 (irow .u8 (bl nonce)) (0, 0) (irow .u8 (bl nonce)) _ (hS_.2) (all_row _) Tryd.underlying25 rfl hiN
  simp only [Act.put, List.getElem_toArray, List.getElem_cons_succ, List.getElem_cons_zero, List.setIfInBounds_toArray, List.set_cons_succ, List.set_cons_zero]
  refine wpAnyH_take (i := 2) (v := ?v49) rfl (by kernel_rfl) (by kernel_rfl) (by kernel_rfl) (fun _ _ _ h => h) (Or.inl ⟨by rfl, ?y49⟩) (⟨R0, R1⟩) ?r49
  case y49 =>
    intro w_ hS_
    go_simp
    try with_reducible rfl
  simp only [Act.put, List.getElem_toArray, List.getElem_cons_succ, List.getElem_cons_zero, List.setIfInBounds_toArray, List.set_cons_succ, List.set_cons_zero]
  refine wpAnyH_take (i := 3) (v := ?v50) rfl (by kernel_rfl) (by kernel_rfl) (by kernel_rfl) (fun _ _ _ h => h) (Or.inl ⟨by rfl, ?y50⟩) (⟨R0, R1⟩) ?r50
  case y50 =>
    intro w_ hS_
    go_simp
    try with_reducible rfl
  simp only [Act.put, List.getElem_toArray, List.getElem_cons_succ, List.getElem_cons_zero, List.setIfInBounds_toArray, List.set_cons_succ, List.set_cons_zero]
  refine wpAnyH_take (i := 4) (v := ?v51) rfl (by kernel_rfl) (by kernel_rfl) (by kernel_rfl) (fun _ _ _ h => h) (Or.inl ⟨by rfl, ?y51⟩) (⟨R0, R1⟩) ?r51
  case y51 =>
    intro w_ hS_
    go_simp
    try with_reducible rfl
  simp only [Act.put, List.getElem_toArray, List.getElem_cons_succ, List.getElem_cons_zero, List.setIfInBounds_toArray, List.set_cons_succ, List.set_cons_zero]
  refine wpAnyH_take (i := 5) (v := ?v52) rfl (by kernel_rfl) (by kernel_rfl) (by kernel_rfl) (fun _ _ _ h => h) (Or.inl ⟨by rfl, ?y52⟩) (⟨R0, R1⟩) ?r52
  case y52 =>
    intro w_ hS_
    go_simp
    try with_reducible rfl
  simp only [Act.put, List.getElem_toArray, List.getElem_cons_succ, List.getElem_cons_zero, List.setIfInBounds_toArray, List.set_cons_succ, List.set_cons_zero]
  refine wpAnyH_take (i := 6) (v := ?v53) rfl (by kernel_rfl) (by kernel_rfl) (by kernel_rfl) (fun _ _ _ h => h) (Or.inl ⟨by rfl, ?y53⟩) (⟨R0, R1⟩) ?r53
  case y53 =>
    intro w_ hS_
    go_simp
    try with_reducible rfl
  simp only [Act.put, List.getElem_toArray, List.getElem_cons_succ, List.getElem_cons_zero, List.setIfInBounds_toArray, List.set_cons_succ, List.set_cons_zero]
  refine wpAnyH_one (k := 7) (fuel := 5) (by kernel_rfl) rfl (by kernel_rfl) (fun K_ hK_ => ?_)
  have cX := a_open_long key nonce LT (LB.take 0) wa _ _ (hTh.out _ hq) (hRh.out _ hq) (.inl (by rw [hLt.out]; omega))
  refine wp_call_ex (f := 9) (by kernel_rfl) (ex1s cX) (fun v_ q5 hX_ => ?_)
  obtain ⟨rfl, hb_⟩ := hX_
  replace R0 := keep hb_ R0
  replace R1 := keep hb_ R1
  replace hq := Below.after hq hb_
  replace hw := Below.after hw hb_
  clear hb_
  clear cX
  refine hK_ _ _ (⟨R0, R1⟩) ?_
  simp only [Act.put, List.getElem_toArray, List.getElem_cons_succ, List.getElem_cons_zero, List.setIfInBounds_toArray, List.set_cons_succ, List.set_cons_zero]
  clear hK_
  refine wpAnyH_take (i := 8) (v := ?v54) rfl (by kernel_rfl) (by kernel_rfl) (by kernel_rfl) (fun _ _ _ h => h) (Or.inl ⟨by rfl, ?y54⟩) (⟨R0, R1⟩) ?r54
  case y54 =>
    intro w_ hS_
    go_simp
    try with_reducible rfl
  simp only [Act.put, List.getElem_toArray, List.getElem_cons_succ, List.getElem_cons_zero, List.setIfInBounds_toArray, List.set_cons_succ, List.set_cons_zero]
  refine wpAnyH_take (i := 9) (v := ?v55) rfl (by kernel_rfl) (by kernel_rfl) (by kernel_rfl) (fun _ _ _ h => h) (Or.inl ⟨by rfl, ?y55⟩) (⟨R0, R1⟩) ?r55
  case y55 =>
    intro w_ hS_
    go_simp
    try with_reducible rfl
  simp only [Act.put, List.getElem_toArray, List.getElem_cons_succ, List.getElem_cons_zero, List.setIfInBounds_toArray, List.set_cons_succ, List.set_cons_zero]
  refine wpAnyH_take (i := 10) (v := ?v56) rfl (by kernel_rfl) (by kernel_rfl) (by kernel_rfl) (fun _ _ _ h => h) (Or.inl ⟨by rfl, ?y56⟩) (⟨R0, R1⟩) ?r56
  case y56 =>
    intro w_ hS_
    go_simp
    try with_reducible rfl
  simp only [Act.put, List.getElem_toArray, List.getElem_cons_succ, List.getElem_cons_zero, List.setIfInBounds_toArray, List.set_cons_succ, List.set_cons_zero]
  refine wpAnyH_take (i := 11) (v := ?v57) rfl (by kernel_rfl) (by kernel_rfl) (by kernel_rfl) (fun _ _ _ h => h) (Or.inl ⟨by rfl, ?y57⟩) (⟨R0, R1⟩) ?r57
  case y57 =>
    intro w_ hS_
    go_simp
    try with_reducible rfl
  simp only [Act.put, List.getElem_toArray, List.getElem_cons_succ, List.getElem_cons_zero, List.setIfInBounds_toArray, List.set_cons_succ, List.set_cons_zero]
  refine wpAnyH_take (i := 12) (v := ?v58) rfl (by kernel_rfl) (by kernel_rfl) (by kernel_rfl) (fun _ _ _ h => h) (Or.inl ⟨by rfl, ?y58⟩) (⟨R0, R1⟩) ?r58
  case y58 =>
    intro w_ hS_
    go_simp
    try with_reducible rfl
  simp only [Act.put, List.getElem_toArray, List.getElem_cons_succ, List.getElem_cons_zero, List.setIfInBounds_toArray, List.set_cons_succ, List.set_cons_zero]
  refine wpAnyH_done (by kernel_rfl) ?_ _
  refine NoPanic.normal ?_
  go_wp2_with (fail)
  have hbd : Below q5.heap.size q5 q5.drew := below_drN (Below.refl _ _) 1
  replace R0 := keep hbd R0
  replace R1 := keep hbd R1
  replace hq := Below.after hq hbd
  replace hw := Below.after hw hbd
  clear hbd
  refine wp_region_noPanic ?_
  refine wp_region_held (S := fun W => W.heap[w.heap.size]? = some (.cells (irow .u8 (bl key)) 23 (0, 0)) ∧ W.heap[w.heap.size + 1]? = some (.cells (irow .u8 (bl nonce)) 25 (0, 0))) (by kernel_rfl) ?_
  change wpAnyH _ _ _ _ _ _ _ _ (World.drew _)
  generalize q5.drew = wb at *
  refine wpAnyH_take (i := 0) (v := .agg (irow .u8 (bl key))) rfl (by kernel_rfl) (by kernel_rfl) (by kernel_rfl) (fun _ _ _ h => h) (Or.inl ⟨by rfl, ?y59⟩) (⟨R0, R1⟩) ?r59
  case y59 =>
    intro w_ hS_
    simp only [List.getElem_toArray, List.getElem_cons_zero]
    exact run_load_part 23 _ (by rfl) (w.heap.size) 0 (by rfl) 23 (irow .u8 (bl key)) (0, 0) (irow .u8 (bl key)) _ (hS_.1) (all_row _) Tryd.underlying23 rfl (infok8 _ hkl)
  simp only [Act.put, List.getElem_toArray, List.getElem_cons_zero, List.setIfInBounds_toArray, List.set_cons_succ, List.set_cons_zero]
  refine wpAnyH_take (i := 1) (v := .agg (irow .u8 (bl nonce))) rfl (by kernel_rfl) (by kernel_rfl) (by kernel_rfl) (fun _ _ _ h => h) (Or.inl ⟨by rfl, ?y60⟩) (⟨R0, R1⟩) ?r60
  case y60 =>
    intro w_ hS_
    simp only [List.getElem_toArray, List.getElem_cons_succ, List.getElem_cons_zero]
    exact run_load_part 25 _ (by rfl) (w.heap.size + 1) 0 (by rfl) 25 (irow .u8 (bl nonce)) (0, 0) (irow .u8 (bl nonce)) _ (hS_.2) (all_row _) Tryd.underlying25 rfl hiN
  simp only [Act.put, List.getElem_toArray, List.getElem_cons_succ, List.getElem_cons_zero, List.setIfInBounds_toArray, List.set_cons_succ, List.set_cons_zero]
  refine wpAnyH_take (i := 2) (v := ?v61) rfl (by kernel_rfl) (by kernel_rfl) (by kernel_rfl) (fun _ _ _ h => h) (Or.inl ⟨by rfl, ?y61⟩) (⟨R0, R1⟩) ?r61
  case y61 =>
    intro w_ hS_
    go_simp
    try with_reducible rfl
  simp only [Act.put, List.getElem_toArray, List.getElem_cons_succ, List.getElem_cons_zero, List.setIfInBounds_toArray, List.set_cons_succ, List.set_cons_zero]
  refine wpAnyH_take (i := 3) (v := ?v62) rfl (by kernel_rfl) (by kernel_rfl) (by kernel_rfl) (fun _ _ _ h => h) (Or.inl ⟨by rfl, ?y62⟩) (⟨R0, R1⟩) ?r62
  case y62 =>
    intro w_ hS_
    go_simp
    try with_reducible rfl
  simp only [Act.put, List.getElem_toArray, List.getElem_cons_succ, List.getElem_cons_zero, List.setIfInBounds_toArray, List.set_cons_succ, List.set_cons_zero]
  refine wpAnyH_take (i := 4) (v := ?v63) rfl (by kernel_rfl) (by kernel_rfl) (by kernel_rfl) (fun _ _ _ h => h) (Or.inl ⟨by rfl, ?y63⟩) (⟨R0, R1⟩) ?r63
  case y63 =>
    intro w_ hS_
    go_simp
    try with_reducible rfl
  simp only [Act.put, List.getElem_toArray, List.getElem_cons_succ, List.getElem_cons_zero, List.setIfInBounds_toArray, List.set_cons_succ, List.set_cons_zero]
  refine wpAnyH_take (i := 5) (v := ?v64) rfl (by kernel_rfl) (by kernel_rfl) (by kernel_rfl) (fun _ _ _ h => h) (Or.inl ⟨by rfl, ?y64⟩) (⟨R0, R1⟩) ?r64
  case y64 =>
    intro w_ hS_
    go_simp
    try with_reducible rfl
  simp only [Act.put, List.getElem_toArray, List.getElem_cons_succ, List.getElem_cons_zero, List.setIfInBounds_toArray, List.set_cons_succ, List.set_cons_zero]
  refine wpAnyH_one (k := 6) (fuel := 5) (by kernel_rfl) rfl (by kernel_rfl) (fun K_ hK_ => ?_)
  have cX := a_open_short key nonce [] (LB.take 0) wb _ _ (nil_bysB _) (hRh.out _ hq) (Nat.zero_le _) hRl
  refine wp_call_ex (f := 9) (by kernel_rfl) (ex1s cX) (fun v_ q6 hX_ => ?_)
  obtain ⟨rfl, hb_⟩ := hX_
  replace R0 := keep hb_ R0
  replace R1 := keep hb_ R1
  replace hq := Below.after hq hb_
  replace hw := Below.after hw hb_
  clear hb_
  clear cX
  refine hK_ _ _ (⟨R0, R1⟩) ?_
  simp only [Act.put, List.getElem_toArray, List.getElem_cons_succ, List.getElem_cons_zero, List.setIfInBounds_toArray, List.set_cons_succ, List.set_cons_zero]
  clear hK_
  refine wpAnyH_take (i := 7) (v := ?v65) rfl (by kernel_rfl) (by kernel_rfl) (by kernel_rfl) (fun _ _ _ h => h) (Or.inl ⟨by rfl, ?y65⟩) (⟨R0, R1⟩) ?r65
  case y65 =>
    intro w_ hS_
    go_simp
    try with_reducible rfl
  simp only [Act.put, List.getElem_toArray, List.getElem_cons_succ, List.getElem_cons_zero, List.setIfInBounds_toArray, List.set_cons_succ, List.set_cons_zero]
  refine wpAnyH_take (i := 8) (v := ?v66) rfl (by kernel_rfl) (by kernel_rfl) (by kernel_rfl) (fun _ _ _ h => h) (Or.inl ⟨by rfl, ?y66⟩) (⟨R0, R1⟩) ?r66
  case y66 =>
    intro w_ hS_
    go_simp
    try with_reducible rfl
  simp only [Act.put, List.getElem_toArray, List.getElem_cons_succ, List.getElem_cons_zero, List.setIfInBounds_toArray, List.set_cons_succ, List.set_cons_zero]
  refine wpAnyH_take (i := 9) (v := ?v67) rfl (by kernel_rfl) (by kernel_rfl) (by kernel_rfl) (fun _ _ _ h => h) (Or.inl ⟨by rfl, ?y67⟩) (⟨R0, R1⟩) ?r67
  case y67 =>
    intro w_ hS_
    go_simp
    try with_reducible rfl
  simp only [Act.put, List.getElem_toArray, List.getElem_cons_succ, List.getElem_cons_zero, List.setIfInBounds_toArray, List.set_cons_succ, List.set_cons_zero]
  refine wpAnyH_take (i := 10) (v := ?v68) rfl (by kernel_rfl) (by kernel_rfl) (by kernel_rfl) (fun _ _ _ h => h) (Or.inl ⟨by rfl, ?y68⟩) (⟨R0, R1⟩) ?r68
  case y68 =>
    intro w_ hS_
    go_simp
    try with_reducible rfl
  simp only [Act.put, List.getElem_toArray, List.getElem_cons_succ, List.getElem_cons_zero, List.setIfInBounds_toArray, List.set_cons_succ, List.set_cons_zero]
  refine wpAnyH_take (i := 11) (v := ?v69) rfl (by kernel_rfl) (by kernel_rfl) (by kernel_rfl) (fun _ _ _ h => h) (Or.inl ⟨by rfl, ?y69⟩) (⟨R0, R1⟩) ?r69
  case y69 =>
    intro w_ hS_
    go_simp
    try with_reducible rfl
  simp only [Act.put, List.getElem_toArray, List.getElem_cons_succ, List.getElem_cons_zero, List.setIfInBounds_toArray, List.set_cons_succ, List.set_cons_zero]
  refine wpAnyH_done (by kernel_rfl) ?_ _
  refine NoPanic.normal ?_
  go_wp2
  go_ret
  exact ⟨rfl, hw⟩
theorem slong_any (key nonce : List B) (hk : key.length = 32) (hno : nonce.length = 16) (w : World) (hS : Sta w) (hK : Kon w) (m : Int) : Calls Tryd.prog 5 #[.agg (irow .u8 (bl key)), .agg (irow .u8 (bl nonce)), .int .i64 m] w fun e w' => e = .returned (.bool true) ∧ Below w.heap.size w w' := by
  by_cases h1 : m < 0
  · exact slong_low key nonce hk hno w hS hK m h1
  by_cases h2 : 100 < m
  · exact slong_high key nonce hk hno w hS hK m h2
  obtain ⟨n, rfl⟩ := Int.eq_ofNat_of_zero_le (show 0 ≤ m by omega)
  exact slong_in key nonce hk hno w hS hK n (by omega)

end Go.Proofs.YtamieopjigjfiabDoor
