import Derived.Test.YtlbcdjflcghkeaaDoorProg
import Derived.WalkKit
import Derived.Lib.QuietBelow
import Derived.BigQuiet
import Derived.OrdersHeld
import Derived.Deep.RegionHeld3
import Derived.OwnWalk
import Derived.Deep.Cut
import Derived.Test.YtlbcdjflcghkeaaDoorKa
import Derived.Test.YtlbcdjflcghkeaaDoorSgl
import Derived.Test.YtlbcdjflcghkeaaDoorAhf
import Derived.Test.YtlbcdjflcghkeaaDoorAhg
namespace Go.Proofs.YtlbcdjflcghkeaaDoor
set_option maxRecDepth 100000
open Go Go.RowKit Go.Sort
attribute [local go_sem] setCell_drewN alloc_drewN
theorem irow_cells {W : World} {g : Nat} {k : List Int} {t : TypeId} {fr : Nat × Nat} (rg : W.heap[g]? = some (.cells (irow .u8 k) t fr)) : ∀ j x, k[j]? = some x → W.cell? ⟨g, 0 + j, none⟩ = some (.int .u8 x) := by
  intro j x hx
  rw [cell_of_row _ _ _ _ _ _ rg]
  simp [irow, hx]
theorem c_compare (a b : List Int) (g1 g2 : Nat) (ha : a.length = 32) (hb : b.length = 32) (w : World) {t1 t2 : TypeId} {f1 f2 : Nat × Nat} (r1 : w.heap[g1]? = some (.cells (irow .u8 a) t1 f1)) (r2 : w.heap[g2]? = some (.cells (irow .u8 b) t2 f2)) : Calls Tryd.prog 30 #[.slice (some ⟨g1, 0, none⟩) 32 32, .slice (some ⟨g2, 0, none⟩) 32 32] w fun e w' => ∃ u, e = .returned u ∧ u = .int .i64 (Lib.compareBytes (kst a).data.toList (kst b).data.toList) ∧ Below w.heap.size w w' := by
  have hc := run_cmp (P := Tryd.prog) w g1 0 32 g2 0 32 a b (irow_cells r1) (irow_cells r2)
  rw [ha, hb] at hc
  go_enter Tryd.func30, Tryd.ntmps30
  go_wp2
  rw [run_callFunc_extern Tryd.func38 (by kernel_rfl) (by kernel_rfl) (by kernel_rfl) (e := Extern.BytealgCompare.compare) (by kernel_rfl), hc]
  simp only [Result.andThen]
  rw [Oper.upon_value]
  go_wp2
  go_ret
  exact ⟨_, rfl, rfl, Below.refl _ _⟩
section
variable {P : Program}
/-- A part of a row, as it is read. -/
theorem run_load_part {o : Oper} {a : Act} {w : World} (ty : TypeId) (x : Operand) (ho : o.op = .load ty x) (g off : Nat) (hx : a.eval x = .pointer (some ⟨g, off, none⟩)) (t : TypeId) (cs : Array Value) (fr : Nat × Nat) (part : Array Value) (d : TypeDesc) (hg : w.heap[g]? = some (.cells cs t fr)) (hp : cs.extract off (off + part.size) = part)
    (hu : P.underlying ty = some d) (hd : d.isRow = true) (hi : (P.info? ty).map (·.size) = some part.size) : (execOp a.eval o).run P w = .ok (.value (.agg part)) w := by
  have hr := World.rangeAt_of_block hg off part.size
  rw [hp] at hr
  have hl := run_loadVar_mid (P := P) w g off ty part.toList d hr hu hd (by simpa using hi)
  unfold execOp
  simp only [ho, hx, Instr.loadAt, Instr.sureAddr, Sem.run_bind, Sem.run_pure, Result.andThen_ok, hl]
theorem all_row (cs : Array Value) : cs.extract 0 (0 + cs.size) = cs := by simp
end
theorem swp_val (a b : List Int) : decide (0 < Lib.compareBytes (kst a).data.toList (kst b).data.toList) = swp a b := rfl
theorem run_pS2 (x y : Addr) (c d : Nat) (W : World) : (Instr.buildSlice 89 2 #[(0, .slice (some x) 6 c), (1, .slice (some y) 6 d)]).run Tryd.prog W = .ok (.slice (some ⟨W.heap.size, 0, none⟩) 2 2) (W.alloc (.cells #[.slice (some x) 6 c, .slice (some y) 6 d] 69)) := by kernel_rfl
theorem op_pS2 {o : Oper} {a : Act} {w : World} (p q : Operand) (ho : o.op = .buildSlice 89 2 #[(0, p), (1, q)]) (x y : Addr) (c d : Nat) (hp : a.eval p = .slice (some x) 6 c) (hq : a.eval q = .slice (some y) 6 d) : (execOp a.eval o).run Tryd.prog w = .ok (.value (.slice (some ⟨w.heap.size, 0, none⟩) 2 2)) (w.alloc (.cells #[.slice (some x) 6 c, .slice (some y) 6 d] 69)) := by
  have hr := run_pS2 x y c d w
  unfold execOp
  simp only [ho, Sem.run_bind, Sem.run_pure, List.map_toArray, List.map_cons, List.map_nil, hp, hq, hr, Result.andThen_ok]
theorem c_joinX (g c bb : Nat) (h1 h2 : List Int) (w : World) (hO : OwnS w bb (.slice (some ⟨g, 0, none⟩) 12 c) (gps h1 6 ++ gps h2 6)) : Calls Tryd.prog 31 #[.slice (some ⟨g, 0, none⟩) 12 c, .string ⟨#[32]⟩] w fun e w' => ∃ u, e = .returned u ∧ u = .string (sfs h1 h2) ∧ Below w.heap.size w w' := by
  have hl : (gps h1 6 ++ gps h2 6).length = 12 := by rw [List.length_append, gps_len, gps_len]
  obtain ⟨g', cap, e, hcap, hb, hg, hcells⟩ := hO.cells (by rw [hl]; decide)
  rw [hl] at e hcap
  injection e with e1 e2 e3
  injection e1 with e1
  injection e1 with e1
  subst e1 e3
  have := c_join g 0 c (gps h1 6 ++ gps h2 6) ⟨#[32]⟩ w hcells hg (by rw [hl]; decide) (by rw [hl]; exact hcap) (by have := sfs_size h1 h2; simp only [sfs] at this; exact Nat.le_trans (Nat.le_of_eq this) (by decide))
  rw [hl] at this
  exact this.mono fun _ _ h => ⟨_, h.1, rfl, h.2⟩
set_option maxRecDepth 100000 in
set_option maxHeartbeats 4000000 in
theorem a_Safety (a b : List Int) (ha : K8 a) (hb : K8 b) (r : Nat) (h1 : 1 ≤ r) (hr : r ≤ 6000) (w : World) (hS : Sta w) (hKo : Kon w) (hT : Pow w) : Calls Tryd.prog 24 #[.agg (irow .u8 a), .agg (irow .u8 b), .int .i64 r] w fun e w' => ∃ v, e = .returned v ∧ v = .tuple #[.string (saf a b r), .int .i64 0] ∧ Below w.heap.size w w' := by
  have sz3 := hT.sz
  have RA := hp2_0 w (.cells (irow .u8 a) 23) (.cells (irow .u8 b) 23)
  have RB := hp2_1 w (.cells (irow .u8 a) 23) (.cells (irow .u8 b) 23)
  have hw : Below w.heap.size w ((w.alloc (.cells (irow .u8 a) 23)).alloc (.cells (irow .u8 b) 23)) := ((Below.refl _ _).alloc (Nat.le_refl _) _).alloc (by simp) _
  replace hS := hS.below hw
  replace hKo := hKo.below hw
  replace hT := hT.below hw
  have sk := slice_k w.heap.size
  have sk1 := slice_k (w.heap.size + 1)
  have hd1 : decide ((r : Int) < 1) = false := by simp; omega
  have hd2 : decide ((6000 : Int) < (r : Int)) = false := by simp; omega
  go_enter Tryd.func24, Tryd.ntmps24
  go_upto_region 1 with (first | (refine wpList_box rfl 23 _ rfl _ rfl (bKy _) ?_) | fail)
  try simp only [size_alloc1, Act.put, List.setIfInBounds_toArray, List.set_cons_succ, List.set_cons_zero]
  generalize (w.alloc (.cells (irow .u8 a) 23)).alloc (.cells (irow .u8 b) 23) = w1 at *
  go_upto_region 3 with (fail)
  have hbd : Below w1.heap.size w1 w1.drew := below_drN (Below.refl _ _) 1
  replace RA := keep hbd RA
  replace RB := keep hbd RB
  replace hS := hS.below hbd
  replace hKo := hKo.below hbd
  replace hT := hT.below hbd
  replace hw := Below.after hw hbd
  clear hbd
  refine wp_region_noPanic ?_
  refine wp_region_held (S := fun W => True) (by kernel_rfl) ?_
  change wpAnyH _ _ _ _ _ _ _ _ (World.drew _)
  generalize w1.drew = y1 at *
  refine wpAnyH_take (i := 0) (v := ?v1) rfl (by kernel_rfl) (by kernel_rfl) (by kernel_rfl) (fun _ _ _ h => h) (Or.inl ⟨by rfl, ?y1⟩) trivial ?r1
  case y1 =>
    intro w_ hS_
    go_simp
    try with_reducible rfl
  simp only [Act.put, List.getElem_toArray, List.getElem_cons_zero, List.setIfInBounds_toArray, List.set_cons_succ, List.set_cons_zero]
  refine wpAnyH_take (i := 1) (v := ?v2) rfl (by kernel_rfl) (by kernel_rfl) (by kernel_rfl) (fun _ _ _ h => h) (Or.inl ⟨by rfl, ?y2⟩) trivial ?r2
  case y2 =>
    intro w_ hS_
    go_simp
    try with_reducible rfl
  simp only [Act.put, List.getElem_toArray, List.getElem_cons_succ, List.getElem_cons_zero, List.setIfInBounds_toArray, List.set_cons_succ, List.set_cons_zero]
  refine wpAnyH_one (k := 2) (fuel := 1) (by kernel_rfl) rfl (by kernel_rfl) (fun K_ hK => ?_)
  refine wp_call_ex (f := 30) (by kernel_rfl) (c_compare a b _ _ ha.1 hb.1 y1 RA RB) (fun v_ y2 hX_ => ?_)
  obtain ⟨rfl, hb_⟩ := hX_
  replace RA := keep hb_ RA
  replace RB := keep hb_ RB
  replace hS := hS.below hb_
  replace hKo := hKo.below hb_
  replace hT := hT.below hb_
  replace hw := Below.after hw hb_
  clear hb_
  refine hK _ _ trivial ?_
  simp only [Act.put, List.getElem_toArray, List.getElem_cons_succ, List.getElem_cons_zero, List.setIfInBounds_toArray, List.set_cons_succ, List.set_cons_zero]
  clear hK
  refine wpAnyH_take (i := 3) (v := ?v3) rfl (by kernel_rfl) (by kernel_rfl) (by kernel_rfl) (fun _ _ _ h => h) (Or.inl ⟨by rfl, ?y3⟩) trivial ?r3
  case y3 =>
    intro w_ hS_
    go_simp
    try with_reducible rfl
  simp only [Act.put, List.getElem_toArray, List.getElem_cons_succ, List.getElem_cons_zero, List.setIfInBounds_toArray, List.set_cons_succ, List.set_cons_zero]
  refine wpAnyH_done (by kernel_rfl) ?_ _
  refine NoPanic.normal ?_
  have hsv := swp_val a b
  cases hsw : swp a b with
  | true =>
    rw [hsw] at hsv
    simp only [hsv]
    have ry : saf a b r = sfs (hrs b (r - 1)) (hrs a (r - 1)) := by simp [saf, hsw]
    clear hsw
    go_upto_region 4 with (fail)
    repeat ((fail_if_success (refine wpList_load_want rfl 23 _ rfl (w.heap.size + 1) rfl 23 (irow .u8 b) (0, 0) _ RB Tryd.underlying23 rfl (infoKy _ hb.1) ?_)); first | go_skip | go_step)
    refine wpList_load_want rfl 23 _ rfl (w.heap.size + 1) rfl 23 (irow .u8 b) (0, 0) _ RB Tryd.underlying23 rfl (infoKy _ hb.1) ?_
    try simp only [Act.put, List.setIfInBounds_toArray, List.set_cons_succ, List.set_cons_zero]
    repeat ((fail_if_success (refine wpList_load_want rfl 23 _ rfl (w.heap.size) rfl 23 (irow .u8 a) (0, 0) _ RA Tryd.underlying23 rfl (infoKy _ ha.1) ?_)); first | go_skip | go_step)
    refine wpList_load_want rfl 23 _ rfl (w.heap.size) rfl 23 (irow .u8 a) (0, 0) _ RA Tryd.underlying23 rfl (infoKy _ ha.1) ?_
    try simp only [Act.put, List.setIfInBounds_toArray, List.set_cons_succ, List.set_cons_zero]
    repeat ((fail_if_success (refine wpList_store_row rfl 23 _ _ rfl (w.heap.size) (irow .u8 b) rfl rfl 23 _ RA (infoKy _ hb.1) (by rw [irow_size, irow_size, hb.1, ha.1]) (irow_one _ _) ?_)); first | go_skip | go_step)
    refine wpList_store_row rfl 23 _ _ rfl (w.heap.size) (irow .u8 b) rfl rfl 23 _ RA (infoKy _ hb.1) (by rw [irow_size, irow_size, hb.1, ha.1]) (irow_one _ _) ?_
    replace RB := (setRow_other y2 (w.heap.size) (w.heap.size + 1) (irow .u8 b) (by omega)).trans RB
    replace RA := setRow_heap y2 (w.heap.size) _ (irow .u8 b) _ _ RA
    have hbs_ : Below w.heap.size y2 (y2.setRow (w.heap.size) (irow .u8 b)) := below_setRow (Below.refl _ _) (by omega) _
    replace hS := hS.belowN (by omega) hbs_
    replace hKo := hKo.belowN (by omega) hbs_
    replace hT := hT.belowN (by omega) hbs_
    replace hw := hw.trans hbs_
    clear hbs_
    try simp only [Act.put]
    generalize y2.setRow (w.heap.size) (irow .u8 b) = y3 at *
    repeat ((fail_if_success (refine wpList_store_row rfl 23 _ _ rfl (w.heap.size + 1) (irow .u8 a) rfl rfl 23 _ RB (infoKy _ ha.1) (by rw [irow_size, irow_size, ha.1, hb.1]) (irow_one _ _) ?_)); first | go_skip | go_step)
    refine wpList_store_row rfl 23 _ _ rfl (w.heap.size + 1) (irow .u8 a) rfl rfl 23 _ RB (infoKy _ ha.1) (by rw [irow_size, irow_size, ha.1, hb.1]) (irow_one _ _) ?_
    replace RA := (setRow_other y3 (w.heap.size + 1) (w.heap.size) (irow .u8 a) (by omega)).trans RA
    replace RB := setRow_heap y3 (w.heap.size + 1) _ (irow .u8 a) _ _ RB
    have hbs_ : Below w.heap.size y3 (y3.setRow (w.heap.size + 1) (irow .u8 a)) := below_setRow (Below.refl _ _) (by omega) _
    replace hS := hS.belowN (by omega) hbs_
    replace hKo := hKo.belowN (by omega) hbs_
    replace hT := hT.belowN (by omega) hbs_
    replace hw := hw.trans hbs_
    clear hbs_
    try simp only [Act.put]
    generalize y3.setRow (w.heap.size + 1) (irow .u8 a) = W0 at *
    go_upto_region 5 with (fail)
    have hbd : Below W0.heap.size W0 W0.drew := below_drN (Below.refl _ _) 1
    replace RA := keep hbd RA
    replace RB := keep hbd RB
    replace hS := hS.below hbd
    replace hKo := hKo.below hbd
    replace hT := hT.below hbd
    have sw_z0_ := hw.size
    replace hw := Below.after hw hbd
    clear hbd
    refine wp_region_noPanic ?_
    refine wp_region_held (S := fun W => W.heap[w.heap.size]? = some (.cells (irow .u8 b) 23 (0, 0)) ∧ W.heap[w.heap.size + 1]? = some (.cells (irow .u8 a) 23 (0, 0))) (by kernel_rfl) ?_
    change wpAnyH _ _ _ _ _ _ _ _ (World.drew _)
    generalize W0.drew = z1 at *
    refine wpAnyH_take (i := 0) (v := .agg (irow .u8 b)) rfl (by kernel_rfl) (by kernel_rfl) (by kernel_rfl) (fun _ _ _ h => h) (Or.inl ⟨by rfl, ?y4⟩) ⟨RA, RB⟩ ?r4
    case y4 =>
      intro w_ hS_
      simp only [List.getElem_toArray, List.getElem_cons_zero]
      exact run_load_part 23 _ (by rfl) (w.heap.size) 0 (by rfl) 23 (irow .u8 b) (0, 0) (irow .u8 b) _ (hS_.1) (all_row _) Tryd.underlying23 rfl (infoKy _ hb.1)
    simp only [Act.put, List.getElem_toArray, List.getElem_cons_zero, List.setIfInBounds_toArray, List.set_cons_succ, List.set_cons_zero]
    refine wpAnyH_take (i := 1) (v := ?v5) rfl (by kernel_rfl) (by kernel_rfl) (by kernel_rfl) (fun _ _ _ h => h) (Or.inl ⟨by rfl, ?y5⟩) ⟨RA, RB⟩ ?r5
    case y5 =>
      intro w_ hS_
      go_simp
      try with_reducible rfl
    simp only [Act.put, List.getElem_toArray, List.getElem_cons_succ, List.getElem_cons_zero, List.setIfInBounds_toArray, List.set_cons_succ, List.set_cons_zero]
    refine wpAnyH_take (i := 3) (v := .agg (irow .u8 a)) rfl (by kernel_rfl) (by kernel_rfl) (by kernel_rfl) (fun _ _ _ h => h) (Or.inl ⟨by rfl, ?y6⟩) ⟨RA, RB⟩ ?r6
    case y6 =>
      intro w_ hS_
      simp only [List.getElem_toArray, List.getElem_cons_succ, List.getElem_cons_zero]
      exact run_load_part 23 _ (by rfl) (w.heap.size + 1) 0 (by rfl) 23 (irow .u8 a) (0, 0) (irow .u8 a) _ (hS_.2) (all_row _) Tryd.underlying23 rfl (infoKy _ ha.1)
    simp only [Act.put, List.getElem_toArray, List.getElem_cons_succ, List.getElem_cons_zero, List.setIfInBounds_toArray, List.set_cons_succ, List.set_cons_zero]
    refine wpAnyH_take (i := 4) (v := ?v7) rfl (by kernel_rfl) (by kernel_rfl) (by kernel_rfl) (fun _ _ _ h => h) (Or.inl ⟨by rfl, ?y7⟩) ⟨RA, RB⟩ ?r7
    case y7 =>
      intro w_ hS_
      go_simp
      try with_reducible rfl
    simp only [Act.put, List.getElem_toArray, List.getElem_cons_succ, List.getElem_cons_zero, List.setIfInBounds_toArray, List.set_cons_succ, List.set_cons_zero]
    refine wpAnyH_one (k := 2) (fuel := 6) (by kernel_rfl) rfl (by kernel_rfl) (fun K_ hK => ?_)
    refine wp_call_ex (f := 33) (by kernel_rfl) (a_groups b hb r h1 hr z1 hS hKo hT) (fun v_ z2 hX_ => ?_)
    obtain ⟨hA, hb⟩ := hX_
    replace RA := keep hb RA
    replace RB := keep hb RB
    replace hS := hS.below hb
    replace hKo := hKo.below hb
    replace hT := hT.below hb
    have sw_z2 := hw.size
    replace hw := Below.after hw hb
    clear hb
    refine hK _ _ ⟨RA, RB⟩ ?_
    simp only [Act.put, List.getElem_toArray, List.getElem_cons_succ, List.getElem_cons_zero, List.setIfInBounds_toArray, List.set_cons_succ, List.set_cons_zero]
    clear hK
    refine wpAnyH_one (k := 5) (fuel := 5) (by kernel_rfl) rfl (by kernel_rfl) (fun K_ hK => ?_)
    refine wp_call_ex (f := 33) (by kernel_rfl) (a_groups a ha r h1 hr z2 hS hKo hT) (fun v_ z3 hX_ => ?_)
    obtain ⟨hB, hb⟩ := hX_
    replace RA := keep hb RA
    replace RB := keep hb RB
    replace hS := hS.below hb
    replace hKo := hKo.below hb
    replace hT := hT.below hb
    have sw_z3 := hw.size
    replace hw := Below.after hw hb
    replace hA := hA.keep hb
    clear hb
    obtain ⟨ga, ca, eA, hca, -, hga, -⟩ := hA.cells (by rw [gps_len]; decide)
    obtain ⟨gb, cb, eB, hcb, -, hgb, -⟩ := hB.cells (by rw [gps_len]; decide)
    rw [gps_len] at eA eB
    subst eA eB
    refine hK _ _ ⟨RA, RB⟩ ?_
    simp only [Act.put, List.getElem_toArray, List.getElem_cons_succ, List.getElem_cons_zero, List.setIfInBounds_toArray, List.set_cons_succ, List.set_cons_zero]
    clear hK
    refine wpAnyH_one (k := 6) (fuel := 4) (by kernel_rfl) rfl (by kernel_rfl) (fun K_ hK => ?_)
    refine wp_world_op (.slice (some ⟨z3.heap.size, 0, none⟩) 2 2) (z3.alloc (.cells #[.slice (some ⟨ga, 0, none⟩) 6 ca, .slice (some ⟨gb, 0, none⟩) 6 cb] 69)) (op_pS2 _ _ rfl ⟨ga, 0, none⟩ ⟨gb, 0, none⟩ ca cb rfl rfl) ?_
    have PP := hp1_0 z3 (.cells #[.slice (some ⟨ga, 0, none⟩) 6 ca, .slice (some ⟨gb, 0, none⟩) 6 cb] 69)
    have hb_ : Below z3.heap.size z3 (z3.alloc (.cells #[.slice (some ⟨ga, 0, none⟩) 6 ca, .slice (some ⟨gb, 0, none⟩) 6 cb] 69)) := (Below.refl _ _).alloc (Nat.le_refl _) _
    replace RA := keep hb_ RA
    replace RB := keep hb_ RB
    replace hS := hS.below hb_
    replace hKo := hKo.below hb_
    replace hT := hT.below hb_
    have sw_z4 := hw.size
    replace hw := Below.after hw hb_
    replace hA := hA.keep hb_
    replace hB := hB.keep hb_
    clear hb_
    refine hK _ _ ⟨RA, RB⟩ ?_
    simp only [Act.put, List.getElem_toArray, List.getElem_cons_succ, List.getElem_cons_zero, List.setIfInBounds_toArray, List.set_cons_succ, List.set_cons_zero]
    clear hK
    generalize z3.alloc (.cells #[.slice (some ⟨ga, 0, none⟩) 6 ca, .slice (some ⟨gb, 0, none⟩) 6 cb] 69) = z4 at *
    generalize z3.heap.size = gP at *
    refine wpAnyH_one (k := 7) (fuel := 3) (by kernel_rfl) rfl (by kernel_rfl) (fun K_ hK => ?_)
    refine wp_call_ex (f := 32) (by kernel_rfl) (a_concatS _ _ (gps_len _ 6) (gps_len _ 6) z4 gP ga gb ca cb _ _ PP hA hB) (fun v_ z5 hX_ => ?_)
    obtain ⟨hC, hb⟩ := hX_
    replace RA := keep hb RA
    replace RB := keep hb RB
    replace hS := hS.below hb
    replace hKo := hKo.below hb
    replace hT := hT.below hb
    have sw_z5 := hw.size
    replace hw := Below.after hw hb
    clear hb hA hB PP
    obtain ⟨gc, cc, eC, hcc, -, hgc, -⟩ := hC.cells (by simp [gps_len])
    rw [List.length_append, gps_len, gps_len] at eC
    subst eC
    refine hK _ _ ⟨RA, RB⟩ ?_
    simp only [Act.put, List.getElem_toArray, List.getElem_cons_succ, List.getElem_cons_zero, List.setIfInBounds_toArray, List.set_cons_succ, List.set_cons_zero]
    clear hK
    refine wpAnyH_one (k := 8) (fuel := 2) (by kernel_rfl) rfl (by kernel_rfl) (fun K_ hK => ?_)
    refine wp_call_ex (f := 31) (by kernel_rfl) (c_joinX gc cc _ (hrs b (r - 1)) (hrs a (r - 1)) z5 hC) (fun v_ z6 hX_ => ?_)
    obtain ⟨rfl, hb⟩ := hX_
    replace RA := keep hb RA
    replace RB := keep hb RB
    replace hS := hS.below hb
    replace hKo := hKo.below hb
    replace hT := hT.below hb
    have sw_z6 := hw.size
    replace hw := Below.after hw hb
    clear hb
    refine hK _ _ ⟨RA, RB⟩ ?_
    simp only [Act.put, List.getElem_toArray, List.getElem_cons_succ, List.getElem_cons_zero, List.setIfInBounds_toArray, List.set_cons_succ, List.set_cons_zero]
    clear hK
    refine wpAnyH_take (i := 9) (v := ?v8) rfl (by kernel_rfl) (by kernel_rfl) (by kernel_rfl) (fun _ _ _ h => h) (Or.inl ⟨by rfl, ?y8⟩) ⟨RA, RB⟩ ?r8
    case y8 =>
      intro w_ hS_
      go_simp
      try with_reducible rfl
    simp only [Act.put, List.getElem_toArray, List.getElem_cons_succ, List.getElem_cons_zero, List.setIfInBounds_toArray, List.set_cons_succ, List.set_cons_zero]
    refine wpAnyH_take (i := 10) (v := ?v9) rfl (by kernel_rfl) (by kernel_rfl) (by kernel_rfl) (fun _ _ _ h => h) (Or.inl ⟨by rfl, ?y9⟩) ⟨RA, RB⟩ ?r9
    case y9 =>
      intro w_ hS_
      go_simp
      try with_reducible rfl
    simp only [Act.put, List.getElem_toArray, List.getElem_cons_succ, List.getElem_cons_zero, List.setIfInBounds_toArray, List.set_cons_succ, List.set_cons_zero]
    refine wpAnyH_done (by kernel_rfl) ?_ _
    refine NoPanic.normal ?_
    go_wp2_with (fail)
    go_ret2
    exact ⟨_, rfl, by rw [ry]; rfl, hw⟩
  | false =>
    rw [hsw] at hsv
    simp only [hsv]
    have ry : saf a b r = sfs (hrs a (r - 1)) (hrs b (r - 1)) := by simp [saf, hsw]
    clear hsw
    generalize y2 = W0 at *
    go_upto_region 5 with (fail)
    have hbd : Below W0.heap.size W0 W0.drew := below_drN (Below.refl _ _) 1
    replace RA := keep hbd RA
    replace RB := keep hbd RB
    replace hS := hS.below hbd
    replace hKo := hKo.below hbd
    replace hT := hT.below hbd
    have sw_z0_ := hw.size
    replace hw := Below.after hw hbd
    clear hbd
    refine wp_region_noPanic ?_
    refine wp_region_held (S := fun W => W.heap[w.heap.size]? = some (.cells (irow .u8 a) 23 (0, 0)) ∧ W.heap[w.heap.size + 1]? = some (.cells (irow .u8 b) 23 (0, 0))) (by kernel_rfl) ?_
    change wpAnyH _ _ _ _ _ _ _ _ (World.drew _)
    generalize W0.drew = z1 at *
    refine wpAnyH_take (i := 0) (v := .agg (irow .u8 a)) rfl (by kernel_rfl) (by kernel_rfl) (by kernel_rfl) (fun _ _ _ h => h) (Or.inl ⟨by rfl, ?y10⟩) ⟨RA, RB⟩ ?r10
    case y10 =>
      intro w_ hS_
      simp only [List.getElem_toArray, List.getElem_cons_zero]
      exact run_load_part 23 _ (by rfl) (w.heap.size) 0 (by rfl) 23 (irow .u8 a) (0, 0) (irow .u8 a) _ (hS_.1) (all_row _) Tryd.underlying23 rfl (infoKy _ ha.1)
    simp only [Act.put, List.getElem_toArray, List.getElem_cons_zero, List.setIfInBounds_toArray, List.set_cons_succ, List.set_cons_zero]
    refine wpAnyH_take (i := 1) (v := ?v11) rfl (by kernel_rfl) (by kernel_rfl) (by kernel_rfl) (fun _ _ _ h => h) (Or.inl ⟨by rfl, ?y11⟩) ⟨RA, RB⟩ ?r11
    case y11 =>
      intro w_ hS_
      go_simp
      try with_reducible rfl
    simp only [Act.put, List.getElem_toArray, List.getElem_cons_succ, List.getElem_cons_zero, List.setIfInBounds_toArray, List.set_cons_succ, List.set_cons_zero]
    refine wpAnyH_take (i := 3) (v := .agg (irow .u8 b)) rfl (by kernel_rfl) (by kernel_rfl) (by kernel_rfl) (fun _ _ _ h => h) (Or.inl ⟨by rfl, ?y12⟩) ⟨RA, RB⟩ ?r12
    case y12 =>
      intro w_ hS_
      simp only [List.getElem_toArray, List.getElem_cons_succ, List.getElem_cons_zero]
      exact run_load_part 23 _ (by rfl) (w.heap.size + 1) 0 (by rfl) 23 (irow .u8 b) (0, 0) (irow .u8 b) _ (hS_.2) (all_row _) Tryd.underlying23 rfl (infoKy _ hb.1)
    simp only [Act.put, List.getElem_toArray, List.getElem_cons_succ, List.getElem_cons_zero, List.setIfInBounds_toArray, List.set_cons_succ, List.set_cons_zero]
    refine wpAnyH_take (i := 4) (v := ?v13) rfl (by kernel_rfl) (by kernel_rfl) (by kernel_rfl) (fun _ _ _ h => h) (Or.inl ⟨by rfl, ?y13⟩) ⟨RA, RB⟩ ?r13
    case y13 =>
      intro w_ hS_
      go_simp
      try with_reducible rfl
    simp only [Act.put, List.getElem_toArray, List.getElem_cons_succ, List.getElem_cons_zero, List.setIfInBounds_toArray, List.set_cons_succ, List.set_cons_zero]
    refine wpAnyH_one (k := 2) (fuel := 6) (by kernel_rfl) rfl (by kernel_rfl) (fun K_ hK => ?_)
    refine wp_call_ex (f := 33) (by kernel_rfl) (a_groups a ha r h1 hr z1 hS hKo hT) (fun v_ z2 hX_ => ?_)
    obtain ⟨hA, hb⟩ := hX_
    replace RA := keep hb RA
    replace RB := keep hb RB
    replace hS := hS.below hb
    replace hKo := hKo.below hb
    replace hT := hT.below hb
    have sw_z2 := hw.size
    replace hw := Below.after hw hb
    clear hb
    refine hK _ _ ⟨RA, RB⟩ ?_
    simp only [Act.put, List.getElem_toArray, List.getElem_cons_succ, List.getElem_cons_zero, List.setIfInBounds_toArray, List.set_cons_succ, List.set_cons_zero]
    clear hK
    refine wpAnyH_one (k := 5) (fuel := 5) (by kernel_rfl) rfl (by kernel_rfl) (fun K_ hK => ?_)
    refine wp_call_ex (f := 33) (by kernel_rfl) (a_groups b hb r h1 hr z2 hS hKo hT) (fun v_ z3 hX_ => ?_)
    obtain ⟨hB, hb⟩ := hX_
    replace RA := keep hb RA
    replace RB := keep hb RB
    replace hS := hS.below hb
    replace hKo := hKo.below hb
    replace hT := hT.below hb
    have sw_z3 := hw.size
    replace hw := Below.after hw hb
    replace hA := hA.keep hb
    clear hb
    obtain ⟨ga, ca, eA, hca, -, hga, -⟩ := hA.cells (by rw [gps_len]; decide)
    obtain ⟨gb, cb, eB, hcb, -, hgb, -⟩ := hB.cells (by rw [gps_len]; decide)
    rw [gps_len] at eA eB
    subst eA eB
    refine hK _ _ ⟨RA, RB⟩ ?_
    simp only [Act.put, List.getElem_toArray, List.getElem_cons_succ, List.getElem_cons_zero, List.setIfInBounds_toArray, List.set_cons_succ, List.set_cons_zero]
    clear hK
    refine wpAnyH_one (k := 6) (fuel := 4) (by kernel_rfl) rfl (by kernel_rfl) (fun K_ hK => ?_)
    refine wp_world_op (.slice (some ⟨z3.heap.size, 0, none⟩) 2 2) (z3.alloc (.cells #[.slice (some ⟨ga, 0, none⟩) 6 ca, .slice (some ⟨gb, 0, none⟩) 6 cb] 69)) (op_pS2 _ _ rfl ⟨ga, 0, none⟩ ⟨gb, 0, none⟩ ca cb rfl rfl) ?_
    have PP := hp1_0 z3 (.cells #[.slice (some ⟨ga, 0, none⟩) 6 ca, .slice (some ⟨gb, 0, none⟩) 6 cb] 69)
    have hb_ : Below z3.heap.size z3 (z3.alloc (.cells #[.slice (some ⟨ga, 0, none⟩) 6 ca, .slice (some ⟨gb, 0, none⟩) 6 cb] 69)) := (Below.refl _ _).alloc (Nat.le_refl _) _
    replace RA := keep hb_ RA
    replace RB := keep hb_ RB
    replace hS := hS.below hb_
    replace hKo := hKo.below hb_
    replace hT := hT.below hb_
    have sw_z4 := hw.size
    replace hw := Below.after hw hb_
    replace hA := hA.keep hb_
    replace hB := hB.keep hb_
    clear hb_
    refine hK _ _ ⟨RA, RB⟩ ?_
    simp only [Act.put, List.getElem_toArray, List.getElem_cons_succ, List.getElem_cons_zero, List.setIfInBounds_toArray, List.set_cons_succ, List.set_cons_zero]
    clear hK
    generalize z3.alloc (.cells #[.slice (some ⟨ga, 0, none⟩) 6 ca, .slice (some ⟨gb, 0, none⟩) 6 cb] 69) = z4 at *
    generalize z3.heap.size = gP at *
    refine wpAnyH_one (k := 7) (fuel := 3) (by kernel_rfl) rfl (by kernel_rfl) (fun K_ hK => ?_)
    refine wp_call_ex (f := 32) (by kernel_rfl) (a_concatS _ _ (gps_len _ 6) (gps_len _ 6) z4 gP ga gb ca cb _ _ PP hA hB) (fun v_ z5 hX_ => ?_)
    obtain ⟨hC, hb⟩ := hX_
    replace RA := keep hb RA
    replace RB := keep hb RB
    replace hS := hS.below hb
    replace hKo := hKo.below hb
    replace hT := hT.below hb
    have sw_z5 := hw.size
    replace hw := Below.after hw hb
    clear hb hA hB PP
    obtain ⟨gc, cc, eC, hcc, -, hgc, -⟩ := hC.cells (by simp [gps_len])
    rw [List.length_append, gps_len, gps_len] at eC
    subst eC
    refine hK _ _ ⟨RA, RB⟩ ?_
    simp only [Act.put, List.getElem_toArray, List.getElem_cons_succ, List.getElem_cons_zero, List.setIfInBounds_toArray, List.set_cons_succ, List.set_cons_zero]
    clear hK
    refine wpAnyH_one (k := 8) (fuel := 2) (by kernel_rfl) rfl (by kernel_rfl) (fun K_ hK => ?_)
    refine wp_call_ex (f := 31) (by kernel_rfl) (c_joinX gc cc _ (hrs a (r - 1)) (hrs b (r - 1)) z5 hC) (fun v_ z6 hX_ => ?_)
    obtain ⟨rfl, hb⟩ := hX_
    replace RA := keep hb RA
    replace RB := keep hb RB
    replace hS := hS.below hb
    replace hKo := hKo.below hb
    replace hT := hT.below hb
    have sw_z6 := hw.size
    replace hw := Below.after hw hb
    clear hb
    refine hK _ _ ⟨RA, RB⟩ ?_
    simp only [Act.put, List.getElem_toArray, List.getElem_cons_succ, List.getElem_cons_zero, List.setIfInBounds_toArray, List.set_cons_succ, List.set_cons_zero]
    clear hK
    refine wpAnyH_take (i := 9) (v := ?v14) rfl (by kernel_rfl) (by kernel_rfl) (by kernel_rfl) (fun _ _ _ h => h) (Or.inl ⟨by rfl, ?y14⟩) ⟨RA, RB⟩ ?r14
    case y14 =>
      intro w_ hS_
      go_simp
      try with_reducible rfl
    simp only [Act.put, List.getElem_toArray, List.getElem_cons_succ, List.getElem_cons_zero, List.setIfInBounds_toArray, List.set_cons_succ, List.set_cons_zero]
    refine wpAnyH_take (i := 10) (v := ?v15) rfl (by kernel_rfl) (by kernel_rfl) (by kernel_rfl) (fun _ _ _ h => h) (Or.inl ⟨by rfl, ?y15⟩) ⟨RA, RB⟩ ?r15
    case y15 =>
      intro w_ hS_
      go_simp
      try with_reducible rfl
    simp only [Act.put, List.getElem_toArray, List.getElem_cons_succ, List.getElem_cons_zero, List.setIfInBounds_toArray, List.set_cons_succ, List.set_cons_zero]
    refine wpAnyH_done (by kernel_rfl) ?_ _
    refine NoPanic.normal ?_
    go_wp2_with (fail)
    go_ret2
    exact ⟨_, rfl, by rw [ry]; rfl, hw⟩
set_option maxRecDepth 100000 in
set_option maxHeartbeats 4000000 in
theorem a_Safety_bad (a b : List Int) (r : Int) (hr : r < 1 ∨ 6000 < r) (w : World) : Calls Tryd.prog 24 #[.agg (irow .u8 a), .agg (irow .u8 b), .int .i64 r] w fun e w' => ∃ v, e = .returned v ∧ v = .tuple #[.string ⟨#[]⟩, .int .i64 1] ∧ Below w.heap.size w w' := by
  have hw : Below w.heap.size w ((w.alloc (.cells (irow .u8 a) 23)).alloc (.cells (irow .u8 b) 23)) := ((Below.refl _ _).alloc (Nat.le_refl _) _).alloc (by simp) _
  go_enter Tryd.func24, Tryd.ntmps24
  go_upto_region 1 with (first | (refine wpList_box rfl 23 _ rfl _ rfl (bKy _) ?_) | fail)
  try simp only [size_alloc1, Act.put, List.setIfInBounds_toArray, List.set_cons_succ, List.set_cons_zero]
  generalize (w.alloc (.cells (irow .u8 a) 23)).alloc (.cells (irow .u8 b) 23) = w1 at *
  by_cases h1 : r < 1
  · have hd1 : decide (r < 1) = true := by simpa using h1
    go_wp2
    go_ret2
    exact ⟨_, rfl, rfl, hw⟩
  · have hd1 : decide (r < 1) = false := by simpa using h1
    have hd2 : decide ((6000 : Int) < r) = true := by simp; omega
    go_wp2
    go_ret2
    exact ⟨_, rfl, rfl, hw⟩
end Go.Proofs.YtlbcdjflcghkeaaDoor
