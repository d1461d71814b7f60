import Derived.Test.YtdlillgkgbfheaaDoorProg
import Derived.WalkKit
import Derived.Lib.QuietBelow
import Derived.BigQuiet
import Derived.OrdersHeld
import Derived.Deep.RegionHeld3
import Derived.OwnWalk
import Derived.Deep.Cut
import Derived.Test.YtdlillgkgbfheaaDoorKa
import Derived.Test.YtdlillgkgbfheaaDoorSgk
import Derived.Test.YtdlillgkgbfheaaDoorAhj
namespace Go.Proofs.YtdlillgkgbfheaaDoor
set_option maxRecDepth 100000
open Go Go.RowKit Go.Sort
attribute [local go_sem] setCell_drewN alloc_drewN
theorem op_strK {o : Oper} {a : Act} {W : World} (x : Operand) (ho : o.op = .convert 30 9 x) (g c : Nat) (hx : a.eval x = .slice (some ⟨g, 0, none⟩) 32 c) (k : List Int) (hk : k.length = 32) {t : TypeId} {fr : Nat × Nat} (hg : W.heap[g]? = some (.cells (irow .u8 k) t fr)) : (execOp a.eval o).run Tryd.prog W = .ok (.value (.string (kst k))) W := by
  have hr := run_convert_bytes_arg (P := Tryd.prog) W 30 5 Tryd.underlying30 Tryd.underlying5 g 0 32 c k hk (fun i hi => by
    have e : k[i]? = some (k.getD i 0) := by simp [List.getD_eq_getElem?_getD, List.getElem?_eq_getElem (hk ▸ hi : i < k.length)]
    exact irow_cells hg i _ e) 9 Tryd.underlying9
  unfold execOp
  simp only [ho, hx, Sem.run_bind, Sem.run_pure, hr, Result.andThen_ok]
  rfl
theorem op_lssK {o : Oper} {a : Act} {W : World} (x y : Operand) (ho : o.op = .binOp .lss 9 x y 9) (j k : List Int) (hx : a.eval x = .string (kst k)) (hy : a.eval y = .string (kst j)) : (execOp a.eval o).run Tryd.prog W = .ok (.value (.bool (swp j k))) W := by
  have e : Op.bytesLess (kst k).toList (kst j).toList = swp j k := by
    rw [Lib.toList_data, Lib.toList_data, cmp_less]
    rfl
  unfold execOp
  simp only [ho, hx, hy, Sem.run_bind, Sem.run_pure]
  simp [Go.binOp, Op.stringOp, e]
  rfl
theorem op_addS {o : Oper} {a : Act} {W : World} (x y : Operand) (ho : o.op = .binOp .add 9 x y 9) (j k : List UInt8) (hx : a.eval x = .string ⟨j.toArray⟩) (hy : a.eval y = .string ⟨k.toArray⟩) (hl : j.length + k.length ≤ 1000) : (execOp a.eval o).run Tryd.prog W = .ok (.value (.string ⟨(j ++ k).toArray⟩)) W := by
  have e : ¬ (((⟨j.toArray⟩ : ByteArray).size + (⟨k.toArray⟩ : ByteArray).size : Nat) : Int) > IntKind.i64.max := by
    have : (⟨j.toArray⟩ : ByteArray).size = j.length := by simp [ByteArray.size]
    have : (⟨k.toArray⟩ : ByteArray).size = k.length := by simp [ByteArray.size]
    have : IntKind.i64.max = 9223372036854775807 := by decide
    omega
  unfold execOp
  simp only [ho, hx, hy, Sem.run_bind, Sem.run_pure]
  simp only [Go.binOp, Op.stringOp, if_neg e, Sem.run_pure, cat_bytes]
  rfl
theorem ext_bytes (l : List UInt8) (n m : Nat) : (⟨l.toArray⟩ : ByteArray).extract n m = ⟨((l.take m).drop n).toArray⟩ := by
  apply ByteArray.ext
  simp [ByteArray.data_extract, List.drop_take]
theorem run_from1 (l : List UInt8) (h : 1 ≤ l.length) (W : World) : (Instr.sliceAt 9 (.string ⟨l.toArray⟩) (some (.int .i64 1)) none none).run Tryd.prog W = .ok (.string ⟨(l.drop 1).toArray⟩) W := by
  have hr := run_slice_string_from_if (P := Tryd.prog) W 9 ⟨l.toArray⟩ .i64 1 Tryd.underlying9
  rw [if_pos (by simp [ByteArray.size]; omega), ext_bytes] at hr
  have e : (l.take (ByteArray.size ⟨l.toArray⟩)).drop (1 : Int).toNat = l.drop 1 := by
    rw [List.take_of_length_le (by simp [ByteArray.size])]
    rfl
  rw [e] at hr
  exact hr
set_option maxRecDepth 100000 in
set_option maxHeartbeats 4000000 in
theorem r_Safety (a b : List Int) (ha : K8 a) (hb : K8 b) (r : Nat) (h1 : 1 ≤ r) (hr : r ≤ 6000) (w : World) : Calls Tryd.prog 7 #[.agg (irow .u8 a), .agg (irow .u8 b), .int .i64 r] w fun e w' => ∃ v, e = .returned v ∧ v = .tuple #[.string (saf a b r), .int .i64 0] ∧ Below w.heap.size w w' := by
  have RA := hp2_0 w (.cells (irow .u8 a) 23) (.cells (irow .u8 b) 23)
  have RB := hp2_1 w (.cells (irow .u8 a) 23) (.cells (irow .u8 b) 23)
  have hw : Below w.heap.size w ((w.alloc (.cells (irow .u8 a) 23)).alloc (.cells (irow .u8 b) 23)) := ((Below.refl _ _).alloc (Nat.le_refl _) _).alloc (by simp) _
  have sk := slice_k w.heap.size
  have sk1 := slice_k (w.heap.size + 1)
  have hd1 : decide ((r : Int) < 1) = false := by simp; omega
  have hd2 : decide ((6000 : Int) < (r : Int)) = false := by simp; omega
  go_enter Tryd.func7, Tryd.ntmps7
  go_upto_region 1 with (first | (refine wpList_box rfl 23 _ rfl _ rfl (bKy _) ?_) | fail)
  try simp only [size_alloc1, Act.put, List.setIfInBounds_toArray, List.set_cons_succ, List.set_cons_zero]
  generalize (w.alloc (.cells (irow .u8 a) 23)).alloc (.cells (irow .u8 b) 23) = w1 at *
  go_upto_region 3 with (fail)
  have hbd : Below w1.heap.size w1 w1.drew := below_drN (Below.refl _ _) 1
  replace RA := keep hbd RA
  replace RB := keep hbd RB
  replace hw := Below.after hw hbd
  clear hbd
  refine wp_region_noPanic ?_
  refine wp_region_held (S := fun W => W.heap[w.heap.size]? = some (.cells (irow .u8 a) 23 (0, 0)) ∧ W.heap[w.heap.size + 1]? = some (.cells (irow .u8 b) 23 (0, 0))) (by kernel_rfl) ?_
  change wpAnyH _ _ _ _ _ _ _ _ (World.drew _)
  generalize w1.drew = y2 at *
  refine wpAnyH_take (i := 0) (v := ?v16) rfl (by kernel_rfl) (by kernel_rfl) (by kernel_rfl) (fun _ _ _ h => h) (Or.inl ⟨by rfl, ?y16⟩) ⟨RA, RB⟩ ?r16
  case y16 =>
    intro w_ hS_
    go_simp
    try with_reducible rfl
  simp only [Act.put, List.getElem_toArray, List.getElem_cons_zero, List.setIfInBounds_toArray, List.set_cons_succ, List.set_cons_zero]
  refine wpAnyH_take (i := 1) (v := .string (kst b)) rfl (by kernel_rfl) (by kernel_rfl) (by kernel_rfl) (fun _ _ _ h => h) (Or.inl ⟨by rfl, ?y17⟩) ⟨RA, RB⟩ ?r17
  case y17 =>
    intro w_ hS_
    simp only [List.getElem_toArray, List.getElem_cons_succ, List.getElem_cons_zero]
    exact op_strK _ rfl (w.heap.size + 1) 32 rfl b hb.1 hS_.2
  simp only [Act.put, List.getElem_toArray, List.getElem_cons_succ, List.getElem_cons_zero, List.setIfInBounds_toArray, List.set_cons_succ, List.set_cons_zero]
  refine wpAnyH_take (i := 2) (v := ?v18) rfl (by kernel_rfl) (by kernel_rfl) (by kernel_rfl) (fun _ _ _ h => h) (Or.inl ⟨by rfl, ?y18⟩) ⟨RA, RB⟩ ?r18
  case y18 =>
    intro w_ hS_
    go_simp
    try with_reducible rfl
  simp only [Act.put, List.getElem_toArray, List.getElem_cons_succ, List.getElem_cons_zero, List.setIfInBounds_toArray, List.set_cons_succ, List.set_cons_zero]
  refine wpAnyH_take (i := 3) (v := .string (kst a)) rfl (by kernel_rfl) (by kernel_rfl) (by kernel_rfl) (fun _ _ _ h => h) (Or.inl ⟨by rfl, ?y19⟩) ⟨RA, RB⟩ ?r19
  case y19 =>
    intro w_ hS_
    simp only [List.getElem_toArray, List.getElem_cons_succ, List.getElem_cons_zero]
    exact op_strK _ rfl (w.heap.size) 32 rfl a ha.1 hS_.1
  simp only [Act.put, List.getElem_toArray, List.getElem_cons_succ, List.getElem_cons_zero, List.setIfInBounds_toArray, List.set_cons_succ, List.set_cons_zero]
  refine wpAnyH_take (i := 4) (v := .bool (swp a b)) rfl (by kernel_rfl) (by kernel_rfl) (by kernel_rfl) (fun _ _ _ h => h) (Or.inl ⟨by rfl, ?y20⟩) ⟨RA, RB⟩ ?r20
  case y20 =>
    intro w_ hS_
    simp only [List.getElem_toArray, List.getElem_cons_succ, List.getElem_cons_zero]
    exact op_lssK _ _ rfl a b rfl rfl
  simp only [Act.put, List.getElem_toArray, List.getElem_cons_succ, List.getElem_cons_zero, List.setIfInBounds_toArray, List.set_cons_succ, List.set_cons_zero]
  refine wpAnyH_done (by kernel_rfl) ?_ _
  refine NoPanic.normal ?_
  cases hsw : swp a b with
  | true =>
    have ry : saf a b r = sfs (hrs b (r - 1)) (hrs a (r - 1)) := by simp [saf, hsw]
    clear hsw
    go_upto_region 4 with (fail)
    repeat ((fail_if_success (refine wpList_load_want rfl 23 _ rfl (w.heap.size + 1) rfl 23 (irow .u8 b) (0, 0) _ RB Tryd.underlying23 rfl (infoKy _ hb.1) ?_)); first | go_skip | go_step)
    refine wpList_load_want rfl 23 _ rfl (w.heap.size + 1) rfl 23 (irow .u8 b) (0, 0) _ RB Tryd.underlying23 rfl (infoKy _ hb.1) ?_
    try simp only [Act.put, List.setIfInBounds_toArray, List.set_cons_succ, List.set_cons_zero]
    repeat ((fail_if_success (refine wpList_load_want rfl 23 _ rfl (w.heap.size) rfl 23 (irow .u8 a) (0, 0) _ RA Tryd.underlying23 rfl (infoKy _ ha.1) ?_)); first | go_skip | go_step)
    refine wpList_load_want rfl 23 _ rfl (w.heap.size) rfl 23 (irow .u8 a) (0, 0) _ RA Tryd.underlying23 rfl (infoKy _ ha.1) ?_
    try simp only [Act.put, List.setIfInBounds_toArray, List.set_cons_succ, List.set_cons_zero]
    repeat ((fail_if_success (refine wpList_store_row rfl 23 _ _ rfl (w.heap.size) (irow .u8 b) rfl rfl 23 _ RA (infoKy _ hb.1) (by rw [irow_size, irow_size, hb.1, ha.1]) (irow_one _ _) ?_)); first | go_skip | go_step)
    refine wpList_store_row rfl 23 _ _ rfl (w.heap.size) (irow .u8 b) rfl rfl 23 _ RA (infoKy _ hb.1) (by rw [irow_size, irow_size, hb.1, ha.1]) (irow_one _ _) ?_
    replace RB := (setRow_other y2 (w.heap.size) (w.heap.size + 1) (irow .u8 b) (by omega)).trans RB
    replace RA := setRow_heap y2 (w.heap.size) _ (irow .u8 b) _ _ RA
    have hbs_ : Below w.heap.size y2 (y2.setRow (w.heap.size) (irow .u8 b)) := below_setRow (Below.refl _ _) (by omega) _
    replace hw := hw.trans hbs_
    clear hbs_
    try simp only [Act.put]
    generalize y2.setRow (w.heap.size) (irow .u8 b) = y3 at *
    repeat ((fail_if_success (refine wpList_store_row rfl 23 _ _ rfl (w.heap.size + 1) (irow .u8 a) rfl rfl 23 _ RB (infoKy _ ha.1) (by rw [irow_size, irow_size, ha.1, hb.1]) (irow_one _ _) ?_)); first | go_skip | go_step)
    refine wpList_store_row rfl 23 _ _ rfl (w.heap.size + 1) (irow .u8 a) rfl rfl 23 _ RB (infoKy _ ha.1) (by rw [irow_size, irow_size, ha.1, hb.1]) (irow_one _ _) ?_
    replace RA := (setRow_other y3 (w.heap.size + 1) (w.heap.size) (irow .u8 a) (by omega)).trans RA
    replace RB := setRow_heap y3 (w.heap.size + 1) _ (irow .u8 a) _ _ RB
    have hbs_ : Below w.heap.size y3 (y3.setRow (w.heap.size + 1) (irow .u8 a)) := below_setRow (Below.refl _ _) (by omega) _
    replace hw := hw.trans hbs_
    clear hbs_
    try simp only [Act.put]
    generalize y3.setRow (w.heap.size + 1) (irow .u8 a) = W0 at *
    go_upto_region 5 with (fail)
    have hbd : Below W0.heap.size W0 W0.drew := below_drN (Below.refl _ _) 1
    replace RA := keep hbd RA
    replace RB := keep hbd RB
    have sw_z0_ := hw.size
    replace hw := Below.after hw hbd
    clear hbd
    refine wp_region_noPanic ?_
    refine wp_region_held (S := fun W => W.heap[w.heap.size]? = some (.cells (irow .u8 b) 23 (0, 0)) ∧ W.heap[w.heap.size + 1]? = some (.cells (irow .u8 a) 23 (0, 0))) (by kernel_rfl) ?_
    change wpAnyH _ _ _ _ _ _ _ _ (World.drew _)
    generalize W0.drew = z1 at *
    refine wpAnyH_take (i := 0) (v := .agg (irow .u8 b)) rfl (by kernel_rfl) (by kernel_rfl) (by kernel_rfl) (fun _ _ _ h => h) (Or.inl ⟨by rfl, ?y21⟩) ⟨RA, RB⟩ ?r21
    case y21 =>
      intro w_ hS_
      simp only [List.getElem_toArray, List.getElem_cons_zero]
      exact run_load_part 23 _ (by rfl) (w.heap.size) 0 (by rfl) 23 (irow .u8 b) (0, 0) (irow .u8 b) _ (hS_.1) (all_row _) Tryd.underlying23 rfl (infoKy _ hb.1)
    simp only [Act.put, List.getElem_toArray, List.getElem_cons_zero, List.setIfInBounds_toArray, List.set_cons_succ, List.set_cons_zero]
    refine wpAnyH_take (i := 1) (v := ?v22) rfl (by kernel_rfl) (by kernel_rfl) (by kernel_rfl) (fun _ _ _ h => h) (Or.inl ⟨by rfl, ?y22⟩) ⟨RA, RB⟩ ?r22
    case y22 =>
      intro w_ hS_
      go_simp
      try with_reducible rfl
    simp only [Act.put, List.getElem_toArray, List.getElem_cons_succ, List.getElem_cons_zero, List.setIfInBounds_toArray, List.set_cons_succ, List.set_cons_zero]
    refine wpAnyH_take (i := 3) (v := .agg (irow .u8 a)) rfl (by kernel_rfl) (by kernel_rfl) (by kernel_rfl) (fun _ _ _ h => h) (Or.inl ⟨by rfl, ?y23⟩) ⟨RA, RB⟩ ?r23
    case y23 =>
      intro w_ hS_
      simp only [List.getElem_toArray, List.getElem_cons_succ, List.getElem_cons_zero]
      exact run_load_part 23 _ (by rfl) (w.heap.size + 1) 0 (by rfl) 23 (irow .u8 a) (0, 0) (irow .u8 a) _ (hS_.2) (all_row _) Tryd.underlying23 rfl (infoKy _ ha.1)
    simp only [Act.put, List.getElem_toArray, List.getElem_cons_succ, List.getElem_cons_zero, List.setIfInBounds_toArray, List.set_cons_succ, List.set_cons_zero]
    refine wpAnyH_take (i := 4) (v := ?v24) rfl (by kernel_rfl) (by kernel_rfl) (by kernel_rfl) (fun _ _ _ h => h) (Or.inl ⟨by rfl, ?y24⟩) ⟨RA, RB⟩ ?r24
    case y24 =>
      intro w_ hS_
      go_simp
      try with_reducible rfl
    simp only [Act.put, List.getElem_toArray, List.getElem_cons_succ, List.getElem_cons_zero, List.setIfInBounds_toArray, List.set_cons_succ, List.set_cons_zero]
    refine wpAnyH_one (k := 2) (fuel := 3) (by kernel_rfl) rfl (by kernel_rfl) (fun K_ hK => ?_)
    refine wp_call_ex (f := 16) (by kernel_rfl) (r_digits b hb r h1 hr z1) (fun v_ z2 hX_ => ?_)
    obtain ⟨rfl, hb_⟩ := hX_
    replace RA := keep hb_ RA
    replace RB := keep hb_ RB
    have sw_z2 := hw.size
    replace hw := Below.after hw hb_
    clear hb_
    refine hK _ _ ⟨RA, RB⟩ ?_
    simp only [Act.put, List.getElem_toArray, List.getElem_cons_succ, List.getElem_cons_zero, List.setIfInBounds_toArray, List.set_cons_succ, List.set_cons_zero]
    clear hK
    refine wpAnyH_one (k := 5) (fuel := 2) (by kernel_rfl) rfl (by kernel_rfl) (fun K_ hK => ?_)
    refine wp_call_ex (f := 16) (by kernel_rfl) (r_digits a ha r h1 hr z2) (fun v_ z3 hX_ => ?_)
    obtain ⟨rfl, hb_⟩ := hX_
    replace RA := keep hb_ RA
    replace RB := keep hb_ RB
    have sw_z3 := hw.size
    replace hw := Below.after hw hb_
    clear hb_
    refine hK _ _ ⟨RA, RB⟩ ?_
    simp only [Act.put, List.getElem_toArray, List.getElem_cons_succ, List.getElem_cons_zero, List.setIfInBounds_toArray, List.set_cons_succ, List.set_cons_zero]
    clear hK
    refine wpAnyH_take (i := 6) (v := .string ⟨(dgs (hrs b (r - 1)) 6 ++ dgs (hrs a (r - 1)) 6).toArray⟩) rfl (by kernel_rfl) (by kernel_rfl) (by kernel_rfl) (fun _ _ _ h => h) (Or.inl ⟨by rfl, ?y25⟩) ⟨RA, RB⟩ ?r25
    case y25 =>
      intro w_ hS_
      simp only [List.getElem_toArray, List.getElem_cons_succ, List.getElem_cons_zero]
      exact op_addS _ _ rfl (dgs (hrs b (r - 1)) 6) (dgs (hrs a (r - 1)) 6) rfl rfl (by rw [dgs_len, dgs_len]; decide)
    simp only [Act.put, List.getElem_toArray, List.getElem_cons_succ, List.getElem_cons_zero, List.setIfInBounds_toArray, List.set_cons_succ, List.set_cons_zero]
    refine wpAnyH_take (i := 7) (v := ?v26) rfl (by kernel_rfl) (by kernel_rfl) (by kernel_rfl) (fun _ _ _ h => h) (Or.inl ⟨by rfl, ?y26⟩) ⟨RA, RB⟩ ?r26
    case y26 =>
      intro w_ hS_
      go_simp
      try with_reducible rfl
    simp only [Act.put, List.getElem_toArray, List.getElem_cons_succ, List.getElem_cons_zero, List.setIfInBounds_toArray, List.set_cons_succ, List.set_cons_zero]
    refine wpAnyH_done (by kernel_rfl) ?_ _
    refine NoPanic.normal ?_
    have hf := run_from1 (dgs (hrs b (r - 1)) 6 ++ dgs (hrs a (r - 1)) 6) (by rw [List.length_append, dgs_len, dgs_len]; decide)
    rw [← sfs_eq, ← ry] at hf
    replace ry := hide ry
    generalize dgs (hrs b (r - 1)) 6 ++ dgs (hrs a (r - 1)) 6 = X at *
    go_wp2_with (fail)
    go_ret2
    exact ⟨_, rfl, rfl, hw⟩
  | false =>
    have ry : saf a b r = sfs (hrs a (r - 1)) (hrs b (r - 1)) := by simp [saf, hsw]
    clear hsw
    generalize y2 = W0 at *
    go_upto_region 5 with (fail)
    have hbd : Below W0.heap.size W0 W0.drew := below_drN (Below.refl _ _) 1
    replace RA := keep hbd RA
    replace RB := keep hbd RB
    have sw_z0_ := hw.size
    replace hw := Below.after hw hbd
    clear hbd
    refine wp_region_noPanic ?_
    refine wp_region_held (S := fun W => W.heap[w.heap.size]? = some (.cells (irow .u8 a) 23 (0, 0)) ∧ W.heap[w.heap.size + 1]? = some (.cells (irow .u8 b) 23 (0, 0))) (by kernel_rfl) ?_
    change wpAnyH _ _ _ _ _ _ _ _ (World.drew _)
    generalize W0.drew = z1 at *
    refine wpAnyH_take (i := 0) (v := .agg (irow .u8 a)) rfl (by kernel_rfl) (by kernel_rfl) (by kernel_rfl) (fun _ _ _ h => h) (Or.inl ⟨by rfl, ?y27⟩) ⟨RA, RB⟩ ?r27
    case y27 =>
      intro w_ hS_
      simp only [List.getElem_toArray, List.getElem_cons_zero]
      exact run_load_part 23 _ (by rfl) (w.heap.size) 0 (by rfl) 23 (irow .u8 a) (0, 0) (irow .u8 a) _ (hS_.1) (all_row _) Tryd.underlying23 rfl (infoKy _ ha.1)
    simp only [Act.put, List.getElem_toArray, List.getElem_cons_zero, List.setIfInBounds_toArray, List.set_cons_succ, List.set_cons_zero]
    refine wpAnyH_take (i := 1) (v := ?v28) rfl (by kernel_rfl) (by kernel_rfl) (by kernel_rfl) (fun _ _ _ h => h) (Or.inl ⟨by rfl, ?y28⟩) ⟨RA, RB⟩ ?r28
    case y28 =>
      intro w_ hS_
      go_simp
      try with_reducible rfl
    simp only [Act.put, List.getElem_toArray, List.getElem_cons_succ, List.getElem_cons_zero, List.setIfInBounds_toArray, List.set_cons_succ, List.set_cons_zero]
    refine wpAnyH_take (i := 3) (v := .agg (irow .u8 b)) rfl (by kernel_rfl) (by kernel_rfl) (by kernel_rfl) (fun _ _ _ h => h) (Or.inl ⟨by rfl, ?y29⟩) ⟨RA, RB⟩ ?r29
    case y29 =>
      intro w_ hS_
      simp only [List.getElem_toArray, List.getElem_cons_succ, List.getElem_cons_zero]
      exact run_load_part 23 _ (by rfl) (w.heap.size + 1) 0 (by rfl) 23 (irow .u8 b) (0, 0) (irow .u8 b) _ (hS_.2) (all_row _) Tryd.underlying23 rfl (infoKy _ hb.1)
    simp only [Act.put, List.getElem_toArray, List.getElem_cons_succ, List.getElem_cons_zero, List.setIfInBounds_toArray, List.set_cons_succ, List.set_cons_zero]
    refine wpAnyH_take (i := 4) (v := ?v30) rfl (by kernel_rfl) (by kernel_rfl) (by kernel_rfl) (fun _ _ _ h => h) (Or.inl ⟨by rfl, ?y30⟩) ⟨RA, RB⟩ ?r30
    case y30 =>
      intro w_ hS_
      go_simp
      try with_reducible rfl
    simp only [Act.put, List.getElem_toArray, List.getElem_cons_succ, List.getElem_cons_zero, List.setIfInBounds_toArray, List.set_cons_succ, List.set_cons_zero]
    refine wpAnyH_one (k := 2) (fuel := 3) (by kernel_rfl) rfl (by kernel_rfl) (fun K_ hK => ?_)
    refine wp_call_ex (f := 16) (by kernel_rfl) (r_digits a ha r h1 hr z1) (fun v_ z2 hX_ => ?_)
    obtain ⟨rfl, hb_⟩ := hX_
    replace RA := keep hb_ RA
    replace RB := keep hb_ RB
    have sw_z2 := hw.size
    replace hw := Below.after hw hb_
    clear hb_
    refine hK _ _ ⟨RA, RB⟩ ?_
    simp only [Act.put, List.getElem_toArray, List.getElem_cons_succ, List.getElem_cons_zero, List.setIfInBounds_toArray, List.set_cons_succ, List.set_cons_zero]
    clear hK
    refine wpAnyH_one (k := 5) (fuel := 2) (by kernel_rfl) rfl (by kernel_rfl) (fun K_ hK => ?_)
    refine wp_call_ex (f := 16) (by kernel_rfl) (r_digits b hb r h1 hr z2) (fun v_ z3 hX_ => ?_)
    obtain ⟨rfl, hb_⟩ := hX_
    replace RA := keep hb_ RA
    replace RB := keep hb_ RB
    have sw_z3 := hw.size
    replace hw := Below.after hw hb_
    clear hb_
    refine hK _ _ ⟨RA, RB⟩ ?_
    simp only [Act.put, List.getElem_toArray, List.getElem_cons_succ, List.getElem_cons_zero, List.setIfInBounds_toArray, List.set_cons_succ, List.set_cons_zero]
    clear hK
    refine wpAnyH_take (i := 6) (v := .string ⟨(dgs (hrs a (r - 1)) 6 ++ dgs (hrs b (r - 1)) 6).toArray⟩) rfl (by kernel_rfl) (by kernel_rfl) (by kernel_rfl) (fun _ _ _ h => h) (Or.inl ⟨by rfl, ?y31⟩) ⟨RA, RB⟩ ?r31
    case y31 =>
      intro w_ hS_
      simp only [List.getElem_toArray, List.getElem_cons_succ, List.getElem_cons_zero]
      exact op_addS _ _ rfl (dgs (hrs a (r - 1)) 6) (dgs (hrs b (r - 1)) 6) rfl rfl (by rw [dgs_len, dgs_len]; decide)
    simp only [Act.put, List.getElem_toArray, List.getElem_cons_succ, List.getElem_cons_zero, List.setIfInBounds_toArray, List.set_cons_succ, List.set_cons_zero]
    refine wpAnyH_take (i := 7) (v := ?v32) rfl (by kernel_rfl) (by kernel_rfl) (by kernel_rfl) (fun _ _ _ h => h) (Or.inl ⟨by rfl, ?y32⟩) ⟨RA, RB⟩ ?r32
    case y32 =>
      intro w_ hS_
      go_simp
      try with_reducible rfl
    simp only [Act.put, List.getElem_toArray, List.getElem_cons_succ, List.getElem_cons_zero, List.setIfInBounds_toArray, List.set_cons_succ, List.set_cons_zero]
    refine wpAnyH_done (by kernel_rfl) ?_ _
    refine NoPanic.normal ?_
    have hf := run_from1 (dgs (hrs a (r - 1)) 6 ++ dgs (hrs b (r - 1)) 6) (by rw [List.length_append, dgs_len, dgs_len]; decide)
    rw [← sfs_eq, ← ry] at hf
    replace ry := hide ry
    generalize dgs (hrs a (r - 1)) 6 ++ dgs (hrs b (r - 1)) 6 = X at *
    go_wp2_with (fail)
    go_ret2
    exact ⟨_, rfl, rfl, hw⟩

end Go.Proofs.YtdlillgkgbfheaaDoor
