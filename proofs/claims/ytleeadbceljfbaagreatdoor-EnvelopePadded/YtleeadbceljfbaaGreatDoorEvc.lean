import Derived.Test.YtleeadbceljfbaaGreatDoorQb4
import Derived.Test.YtleeadbceljfbaaGreatDoorQd0
import Derived.OwnWalk
import Derived.Deep.Cut
import Derived.Deep.RegionHeld3
namespace Go.Proofs.YtleeadbceljfbaaGreatDoor
set_option maxRecDepth 100000
open Go Go.RowKit Go.Sort
attribute [local go_sem] setCell_drewN alloc_drewN
theorem oneFx (x : Int) (k : FuncId) : (#[Value.int IntKind.u64 x, Value.func (Fn.func k) #[] #[]] : Array Value).all (·.oneCell') = true := by simp [Value.oneCell']
/-- The greatest box of a version's bodies. -/
def mo (v : Nat) : Nat := if v = 1 then 2097168 else 1179664
/-- The schema of a version's envelopes. -/
def esl (v : Nat) : List Slt := [.mk 1 1 v v [], .mk 2 5 16 16 [], .mk 3 5 60 60 [], .mk 4 5 80 (mo v) []]
theorem esl1 : esl 1 = [.mk 1 1 1 1 [], .mk 2 5 16 16 [], .mk 3 5 60 60 [], .mk 4 5 80 2097168 []] := rfl
theorem esl2 : esl 2 = [.mk 1 1 2 2 [], .mk 2 5 16 16 [], .mk 3 5 60 60 [], .mk 4 5 80 1179664 []] := rfl
theorem en_l1 {n : Nat} (h : n < 128) : (en n).length = 1 := by rw [en_lo h]; rfl
theorem en_l3 {n : Nat} (h1 : ¬ n < 128) (h2 : ¬ n / 128 < 128) (h3 : n / 128 / 128 < 128) : (en n).length = 3 := by
  rw [en_hi h1, en_hi h2, en_lo h3]; rfl
theorem en_l4 {n : Nat} (h1 : ¬ n < 128) (h2 : ¬ n / 128 < 128) (h3 : ¬ n / 128 / 128 < 128) (h4 : n / 128 / 128 / 128 < 128) : (en n).length = 4 := by
  rw [en_hi h1, en_hi h2, en_hi h3, en_lo h4]; rfl
theorem bkd_v1 : bkd (dg 1) (4 + 1048576) = 2097152 := by decide +kernel
theorem esl1_vld : vld (esl 1) = 0 := by
  rw [esl1]
  have h1 : ¬ lft [Slt.mk 1 1 1 1 [], .mk 2 5 16 16 [], .mk 3 5 60 60 [], .mk 4 5 80 2097168 []] 1 256 < 0 := by simp [lft, lfL, fitN, fitB]
  have e8 : (en 8).length = 1 := en_l1 (by decide)
  have ev : (en 1).length = 1 := en_l1 (by decide)
  have e18 : (en 18).length = 1 := en_l1 (by decide)
  have e16 : (en 16).length = 1 := en_l1 (by decide)
  have e26 : (en 26).length = 1 := en_l1 (by decide)
  have e60 : (en 60).length = 1 := en_l1 (by decide)
  have e34 : (en 34).length = 1 := en_l1 (by decide)
  have eM : (en 2097168).length = 4 := en_l4 (by decide) (by decide) (by decide) (by decide)
  have h2 : (spL [Slt.mk 1 1 1 1 [], .mk 2 5 16 16 [], .mk 3 5 60 60 [], .mk 4 5 80 2097168 []] 0 0).2 = 2097255 := by simp [spL, slsz, hdl, tyOf, frm, cpd, e8, ev, e18, e16, e26, e60, e34, eM]
  rw [vld, if_neg h1, if_neg (by rw [h2]; decide)]
theorem esl1_slo {W : World} {g : Nat} (h : Bx W g #[.int .i64 1, .int .i64 1, .int .u64 1, .int .u64 1, .slice none 0 0, .int .i64 2, .int .i64 5, .int .u64 16, .int .u64 16, .slice none 0 0, .int .i64 3, .int .i64 5, .int .u64 60, .int .u64 60, .slice none 0 0, .int .i64 4, .int .i64 5, .int .u64 80, .int .u64 2097168, .slice none 0 0]) : Slo W (.slice (some ⟨g, 0, none⟩) 4 4) (esl 1) := by
  rw [esl1]
  have hlt := h.lt
  refine Slo.mk (some ⟨g, 0, none⟩) 4 [Slt.mk 1 1 1 1 [], .mk 2 5 16 16 [], .mk 3 5 60 60 [], .mk 4 5 80 2097168 []] [.slice none 0 0, .slice none 0 0, .slice none 0 0, .slice none 0 0] (by simp) (by simp) (fun e => by cases e) (fun i hi => ⟨g, 0, rfl, hlt, ?_, ?_⟩) (fun i hi => ?_)
  · obtain ⟨T, h⟩ := h
    intro j v hv
    rw [cell_of_row _ _ _ _ _ _ h]
    have hj : j < 5 := by have := (List.getElem?_eq_some_iff.1 hv).1; simpa [srow] using this
    have hi3 : i < 4 := hi
    rcases (by omega : i = 0 ∨ i = 1 ∨ i = 2 ∨ i = 3) with rfl | rfl | rfl | rfl <;> rcases (by omega : j = 0 ∨ j = 1 ∨ j = 2 ∨ j = 3 ∨ j = 4) with rfl | rfl | rfl | rfl | rfl <;> exact hv
  · have hi3 : i < 4 := hi
    rcases (by omega : i = 0 ∨ i = 1 ∨ i = 2 ∨ i = 3) with rfl | rfl | rfl | rfl <;> (unfold Sok; decide)
  · have hi3 : i < 4 := hi
    rcases (by omega : i = 0 ∨ i = 1 ∨ i = 2 ∨ i = 3) with rfl | rfl | rfl | rfl <;> exact slo_nil W
theorem esl1_flat : ∀ i, i < (esl 1).length → Fla (gs (esl 1) i) := fun i hi => by
  rw [esl1] at *
  have hi3 : i < 4 := hi
  rcases (by omega : i = 0 ∨ i = 1 ∨ i = 2 ∨ i = 3) with rfl | rfl | rfl | rfl <;> (unfold Fla; decide)
set_option maxRecDepth 100000 in
set_option maxHeartbeats 8000000 in
theorem a_compiledE1 (w : World) (g : Nat) (h : Bx w g #[.int .i64 1, .int .i64 1, .int .u64 1, .int .u64 1, .slice none 0 0, .int .i64 2, .int .i64 5, .int .u64 16, .int .u64 16, .slice none 0 0, .int .i64 3, .int .i64 5, .int .u64 60, .int .u64 60, .slice none 0 0, .int .i64 4, .int .i64 5, .int .u64 80, .int .u64 2097168, .slice none 0 0]) : Calls Tryz.prog 49 #[.slice (some ⟨g, 0, none⟩) 4 4] w fun e w' => (∃ q, e = .returned (.pointer (some ⟨q, 0, none⟩)) ∧ w.heap.size ≤ q ∧ Cdc w' q (esl 1)) ∧ Below w.heap.size w w' := by
  have cC := a_Compile (esl1_slo h) w (Below.refl _ _)
  go_enter Tryz.func49, Tryz.ntmps49
  go_wp2_with (fail)
  refine cC.mono ?_
  rintro e_ w1 ⟨hb, hq⟩
  rcases hq with ⟨_, q, rfl, hq1, hq2⟩ | ⟨hq, _⟩
  · have A1 := hide hq2
    have A2 := hide hb
    clear cC hq2 hb h
    go_wp2_with (fail)
    go_ret
    exact ⟨⟨q, rfl, hq1, A1.out⟩, A2.out⟩
  · exact absurd esl1_vld hq
set_option maxRecDepth 100000 in
set_option maxHeartbeats 8000000 in
theorem a_codecE1 (w : World) : Calls Tryz.prog 38 #[.agg #[.int .u64 1, .func (.func 47) #[] #[]]] w fun e w' => (∃ q, e = .returned (.pointer (some ⟨q, 0, none⟩)) ∧ w.heap.size ≤ q ∧ Cdc w' q (esl 1)) ∧ Below w.heap.size w w' := by
  have cB := hide (a_bucketOf 1 1048576 rfl (by decide))
  rw [bkd_v1] at cB
  have R0 := hp1_0 w (.cells #[.int .u64 1, .func (.func 47) #[] #[]] 69)
  have hw : Below w.heap.size w (w.alloc (.cells #[.int .u64 1, .func (.func 47) #[] #[]] 69)) := (Below.refl _ _).alloc (Nat.le_refl _) _
  go_enter Tryz.func38, Tryz.ntmps38
  iterate 5 go_step
  generalize w.alloc (.cells #[.int .u64 1, .func (.func 47) #[] #[]] 69) = w0 at *
  go_wp2_with (first | (refine wpList_load_want rfl 69 _ rfl w.heap.size rfl 69 _ (0, 0) _ R0 Tryz.underlying69 rfl infoR ?_) | fail)
  refine (cB.out w0).mono ?_
  rintro e_ x0 ⟨rfl, hb_⟩
  replace R0 := keep hb_ R0
  replace hw := Below.after hw hb_
  clear hb_ cB
  go_upto_region 2 with (fail)
  have hbd : Below x0.heap.size x0 x0.drew := below_drN (Below.refl _ _) 1
  replace R0 := keep hbd R0
  replace hw := Below.after hw hbd
  have HS : (fun W : World => W.heap[w.heap.size]? = some (.cells #[.int .u64 1, .func (.func 47) #[] #[]] 69 (0, 0))) x0.drew := R0
  clear hbd R0
  refine wp_region_noPanic ?_
  refine wp_region_held (S := fun W : World => W.heap[w.heap.size]? = some (.cells #[.int .u64 1, .func (.func 47) #[] #[]] 69 (0, 0))) (by kernel_rfl) ?_
  change wpAnyH _ _ _ _ _ _ _ _ (World.drew _)
  generalize x0.drew = x1 at *
  refine wpAnyH_take (i := 0) (v := ?v9) rfl (by kernel_rfl) (by kernel_rfl) (by kernel_rfl) (fun _ _ _ h => h) (Or.inl ⟨by rfl, ?y9⟩) HS ?r9
  case y9 =>
    intro w_ hS_
    go_simp
    try with_reducible rfl
  simp only [Act.put, List.getElem_toArray, List.getElem_cons_zero, List.setIfInBounds_toArray, List.set_cons_succ, List.set_cons_zero]
  refine wpAnyH_take (i := 1) (v := .int .u64 1) rfl (by kernel_rfl) (by kernel_rfl) (by kernel_rfl) (fun _ _ _ h => h) (Or.inl ⟨by rfl, ?y10⟩) HS ?r10
  case y10 =>
    intro w_ hS_
    have c_ := cell_of_row _ _ 0 _ _ _ hS_
    go_simp
    try with_reducible rfl
  simp only [Act.put, List.getElem_toArray, List.getElem_cons_succ, List.getElem_cons_zero, List.setIfInBounds_toArray, List.set_cons_succ, List.set_cons_zero]
  refine wpAnyH_take (i := 2) (v := ?v11) rfl (by kernel_rfl) (by kernel_rfl) (by kernel_rfl) (fun _ _ _ h => h) (Or.inl ⟨by rfl, ?y11⟩) HS ?r11
  case y11 =>
    intro w_ hS_
    go_simp
    try with_reducible rfl
  simp only [Act.put, List.getElem_toArray, List.getElem_cons_succ, List.getElem_cons_zero, List.setIfInBounds_toArray, List.set_cons_succ, List.set_cons_zero]
  refine wpAnyH_take (i := 3) (v := .int .u64 1) rfl (by kernel_rfl) (by kernel_rfl) (by kernel_rfl) (fun _ _ _ h => h) (Or.inl ⟨by rfl, ?y12⟩) HS ?r12
  case y12 =>
    intro w_ hS_
    have c_ := cell_of_row _ _ 0 _ _ _ hS_
    go_simp
    try with_reducible rfl
  simp only [Act.put, List.getElem_toArray, List.getElem_cons_succ, List.getElem_cons_zero, List.setIfInBounds_toArray, List.set_cons_succ, List.set_cons_zero]
  refine wpAnyH_take (i := 4) (v := .agg #[.int .i64 1, .int .i64 1, .int .u64 1, .int .u64 1, .slice none 0 0]) rfl (by kernel_rfl) (by kernel_rfl) (by kernel_rfl) (fun _ _ _ h => h) (Or.inl ⟨by rfl, ?y13⟩) HS ?r13
  case y13 =>
    intro w_ hS_
    go_simp
    try with_reducible rfl
  simp only [Act.put, List.getElem_toArray, List.getElem_cons_succ, List.getElem_cons_zero, List.setIfInBounds_toArray, List.set_cons_succ, List.set_cons_zero]
  refine wpAnyH_take (i := 7) (v := ?v14) rfl (by kernel_rfl) (by kernel_rfl) (by kernel_rfl) (fun _ _ _ h => h) (Or.inl ⟨by rfl, ?y14⟩) HS ?r14
  case y14 =>
    intro w_ hS_
    go_simp
    try with_reducible rfl
  simp only [Act.put, List.getElem_toArray, List.getElem_cons_succ, List.getElem_cons_zero, List.setIfInBounds_toArray, List.set_cons_succ, List.set_cons_zero]
  refine wpAnyH_take (i := 8) (v := .agg #[.int .i64 4, .int .i64 5, .int .u64 80, .int .u64 2097168, .slice none 0 0]) rfl (by kernel_rfl) (by kernel_rfl) (by kernel_rfl) (fun _ _ _ h => h) (Or.inl ⟨by rfl, ?y15⟩) HS ?r15
  case y15 =>
    intro w_ hS_
    go_simp
    try with_reducible rfl
  simp only [Act.put, List.getElem_toArray, List.getElem_cons_succ, List.getElem_cons_zero, List.setIfInBounds_toArray, List.set_cons_succ, List.set_cons_zero]
  refine wpAnyH_one (k := 5) (fuel := 4) (by kernel_rfl) rfl (by kernel_rfl) (fun K_ hK => ?_)
  refine wp_call_ex (f := 50) (R := fun v w' => v = .agg #[.int .i64 2, .int .i64 5, .int .u64 16, .int .u64 16, .slice none 0 0] ∧ Below x1.heap.size x1 w') (by kernel_rfl) ((a_sized 2 16 x1).mono (fun e w' h => (by obtain ⟨e1, e2⟩ := h; exact ⟨_, e1, rfl, e2⟩ : ∃ v, e = .returned v ∧ v = .agg #[.int .i64 2, .int .i64 5, .int .u64 16, .int .u64 16, .slice none 0 0] ∧ Below x1.heap.size x1 w'))) (fun v_ x2 hX_ => ?_)
  obtain ⟨rfl, hb_⟩ := hX_
  replace HS := keep hb_ HS
  replace hw := Below.after hw hb_
  clear hb_
  refine hK _ _ HS ?_
  simp only [Act.put, List.getElem_toArray, List.getElem_cons_succ, List.getElem_cons_zero, List.setIfInBounds_toArray, List.set_cons_succ, List.set_cons_zero]
  clear hK
  refine wpAnyH_one (k := 6) (fuel := 3) (by kernel_rfl) rfl (by kernel_rfl) (fun K_ hK => ?_)
  refine wp_call_ex (f := 50) (R := fun v w' => v = .agg #[.int .i64 3, .int .i64 5, .int .u64 60, .int .u64 60, .slice none 0 0] ∧ Below x2.heap.size x2 w') (by kernel_rfl) ((a_sized 3 60 x2).mono (fun e w' h => (by obtain ⟨e1, e2⟩ := h; exact ⟨_, e1, rfl, e2⟩ : ∃ v, e = .returned v ∧ v = .agg #[.int .i64 3, .int .i64 5, .int .u64 60, .int .u64 60, .slice none 0 0] ∧ Below x2.heap.size x2 w'))) (fun v_ x3 hX_ => ?_)
  obtain ⟨rfl, hb_⟩ := hX_
  replace HS := keep hb_ HS
  replace hw := Below.after hw hb_
  clear hb_
  refine hK _ _ HS ?_
  simp only [Act.put, List.getElem_toArray, List.getElem_cons_succ, List.getElem_cons_zero, List.setIfInBounds_toArray, List.set_cons_succ, List.set_cons_zero]
  clear hK
  refine wpAnyH_one (k := 9) (fuel := 2) (by kernel_rfl) rfl (by kernel_rfl) (fun K_ hK => ?_)
  refine wp_val_op (.slice (some ⟨x3.heap.size, 0, none⟩) 4 4) (w' := x3.alloc (.cells #[.int .i64 1, .int .i64 1, .int .u64 1, .int .u64 1, .slice none 0 0, .int .i64 2, .int .i64 5, .int .u64 16, .int .u64 16, .slice none 0 0, .int .i64 3, .int .i64 5, .int .u64 60, .int .u64 60, .slice none 0 0, .int .i64 4, .int .i64 5, .int .u64 80, .int .u64 2097168, .slice none 0 0] 99)) (by kernel_rfl) ?_
  have hBx : Bx (x3.alloc (.cells #[.int .i64 1, .int .i64 1, .int .u64 1, .int .u64 1, .slice none 0 0, .int .i64 2, .int .i64 5, .int .u64 16, .int .u64 16, .slice none 0 0, .int .i64 3, .int .i64 5, .int .u64 60, .int .u64 60, .slice none 0 0, .int .i64 4, .int .i64 5, .int .u64 80, .int .u64 2097168, .slice none 0 0] 99)) x3.heap.size #[.int .i64 1, .int .i64 1, .int .u64 1, .int .u64 1, .slice none 0 0, .int .i64 2, .int .i64 5, .int .u64 16, .int .u64 16, .slice none 0 0, .int .i64 3, .int .i64 5, .int .u64 60, .int .u64 60, .slice none 0 0, .int .i64 4, .int .i64 5, .int .u64 80, .int .u64 2097168, .slice none 0 0] := ⟨_, hp1_0 x3 _⟩
  have hb_ : Below x3.heap.size x3 (x3.alloc (.cells #[.int .i64 1, .int .i64 1, .int .u64 1, .int .u64 1, .slice none 0 0, .int .i64 2, .int .i64 5, .int .u64 16, .int .u64 16, .slice none 0 0, .int .i64 3, .int .i64 5, .int .u64 60, .int .u64 60, .slice none 0 0, .int .i64 4, .int .i64 5, .int .u64 80, .int .u64 2097168, .slice none 0 0] 99)) := (Below.refl _ _).alloc (Nat.le_refl _) _
  replace HS := keep hb_ HS
  replace hw := Below.after hw hb_
  clear hb_
  refine hK _ _ HS ?_
  simp only [Act.put, List.getElem_toArray, List.getElem_cons_succ, List.getElem_cons_zero, List.setIfInBounds_toArray, List.set_cons_succ, List.set_cons_zero]
  clear hK
  generalize x3.alloc (.cells #[.int .i64 1, .int .i64 1, .int .u64 1, .int .u64 1, .slice none 0 0, .int .i64 2, .int .i64 5, .int .u64 16, .int .u64 16, .slice none 0 0, .int .i64 3, .int .i64 5, .int .u64 60, .int .u64 60, .slice none 0 0, .int .i64 4, .int .i64 5, .int .u64 80, .int .u64 2097168, .slice none 0 0] 99) = x4 at *
  generalize x3.heap.size = gp at *
  refine wpAnyH_one (k := 10) (fuel := 1) (by kernel_rfl) rfl (by kernel_rfl) (fun K_ hK => ?_)
  have cK := (a_compiledE1 x4 gp hBx).mono (fun e w' h => (by obtain ⟨⟨q, e1, e2, e3⟩, e4⟩ := h; exact ⟨_, e1, q, rfl, e2, e3, e4⟩ : ∃ v, e = .returned v ∧ ∃ q, v = .pointer (some ⟨q, 0, none⟩) ∧ x4.heap.size ≤ q ∧ Cdc w' q (esl 1) ∧ Below x4.heap.size x4 w'))
  refine wp_call_ex (f := 49) (R := fun v w' => ∃ q, v = .pointer (some ⟨q, 0, none⟩) ∧ x4.heap.size ≤ q ∧ Cdc w' q (esl 1) ∧ Below x4.heap.size x4 w') (by kernel_rfl) cK (fun v_ x5 hX_ => ?_)
  obtain ⟨q, rfl, hq1, hq2, hb_⟩ := hX_
  have hq3 : w.heap.size ≤ q := by have := hw.size; omega
  replace HS := keep hb_ HS
  replace hw := Below.after hw hb_
  clear hb_ cK hBx hq1
  refine hK _ _ HS ?_
  simp only [Act.put, List.getElem_toArray, List.getElem_cons_succ, List.getElem_cons_zero, List.setIfInBounds_toArray, List.set_cons_succ, List.set_cons_zero]
  clear hK
  refine wpAnyH_take (i := 11) (v := ?v16) rfl (by kernel_rfl) (by kernel_rfl) (by kernel_rfl) (fun _ _ _ h => h) (Or.inl ⟨by rfl, ?y16⟩) HS ?r16
  case y16 =>
    intro w_ hS_
    go_simp
    try with_reducible rfl
  simp only [Act.put, List.getElem_toArray, List.getElem_cons_succ, List.getElem_cons_zero, List.setIfInBounds_toArray, List.set_cons_succ, List.set_cons_zero]
  refine wpAnyH_done (by kernel_rfl) ?_ _
  refine NoPanic.normal ?_
  have A1 := hide hq2
  have A2 := hide hw
  clear hq2 hw HS
  go_wp2_with (fail)
  go_ret
  exact ⟨⟨q, rfl, hq3, A1.out⟩, A2.out⟩
theorem bkd_v2 : bkd (dg 2) (4 + 1048576) = 1179648 := by decide +kernel
theorem esl2_vld : vld (esl 2) = 0 := by
  rw [esl2]
  have h1 : ¬ lft [Slt.mk 1 1 2 2 [], .mk 2 5 16 16 [], .mk 3 5 60 60 [], .mk 4 5 80 1179664 []] 1 256 < 0 := by simp [lft, lfL, fitN, fitB]
  have e8 : (en 8).length = 1 := en_l1 (by decide)
  have ev : (en 2).length = 1 := en_l1 (by decide)
  have e18 : (en 18).length = 1 := en_l1 (by decide)
  have e16 : (en 16).length = 1 := en_l1 (by decide)
  have e26 : (en 26).length = 1 := en_l1 (by decide)
  have e60 : (en 60).length = 1 := en_l1 (by decide)
  have e34 : (en 34).length = 1 := en_l1 (by decide)
  have eM : (en 1179664).length = 3 := en_l3 (by decide) (by decide) (by decide)
  have h2 : (spL [Slt.mk 1 1 2 2 [], .mk 2 5 16 16 [], .mk 3 5 60 60 [], .mk 4 5 80 1179664 []] 0 0).2 = 1179750 := by simp [spL, slsz, hdl, tyOf, frm, cpd, e8, ev, e18, e16, e26, e60, e34, eM]
  rw [vld, if_neg h1, if_neg (by rw [h2]; decide)]
theorem esl2_slo {W : World} {g : Nat} (h : Bx W g #[.int .i64 1, .int .i64 1, .int .u64 2, .int .u64 2, .slice none 0 0, .int .i64 2, .int .i64 5, .int .u64 16, .int .u64 16, .slice none 0 0, .int .i64 3, .int .i64 5, .int .u64 60, .int .u64 60, .slice none 0 0, .int .i64 4, .int .i64 5, .int .u64 80, .int .u64 1179664, .slice none 0 0]) : Slo W (.slice (some ⟨g, 0, none⟩) 4 4) (esl 2) := by
  rw [esl2]
  have hlt := h.lt
  refine Slo.mk (some ⟨g, 0, none⟩) 4 [Slt.mk 1 1 2 2 [], .mk 2 5 16 16 [], .mk 3 5 60 60 [], .mk 4 5 80 1179664 []] [.slice none 0 0, .slice none 0 0, .slice none 0 0, .slice none 0 0] (by simp) (by simp) (fun e => by cases e) (fun i hi => ⟨g, 0, rfl, hlt, ?_, ?_⟩) (fun i hi => ?_)
  · obtain ⟨T, h⟩ := h
    intro j v hv
    rw [cell_of_row _ _ _ _ _ _ h]
    have hj : j < 5 := by have := (List.getElem?_eq_some_iff.1 hv).1; simpa [srow] using this
    have hi3 : i < 4 := hi
    rcases (by omega : i = 0 ∨ i = 1 ∨ i = 2 ∨ i = 3) with rfl | rfl | rfl | rfl <;> rcases (by omega : j = 0 ∨ j = 1 ∨ j = 2 ∨ j = 3 ∨ j = 4) with rfl | rfl | rfl | rfl | rfl <;> exact hv
  · have hi3 : i < 4 := hi
    rcases (by omega : i = 0 ∨ i = 1 ∨ i = 2 ∨ i = 3) with rfl | rfl | rfl | rfl <;> (unfold Sok; decide)
  · have hi3 : i < 4 := hi
    rcases (by omega : i = 0 ∨ i = 1 ∨ i = 2 ∨ i = 3) with rfl | rfl | rfl | rfl <;> exact slo_nil W
theorem esl2_flat : ∀ i, i < (esl 2).length → Fla (gs (esl 2) i) := fun i hi => by
  rw [esl2] at *
  have hi3 : i < 4 := hi
  rcases (by omega : i = 0 ∨ i = 1 ∨ i = 2 ∨ i = 3) with rfl | rfl | rfl | rfl <;> (unfold Fla; decide)
set_option maxRecDepth 100000 in
set_option maxHeartbeats 8000000 in
theorem a_compiledE2 (w : World) (g : Nat) (h : Bx w g #[.int .i64 1, .int .i64 1, .int .u64 2, .int .u64 2, .slice none 0 0, .int .i64 2, .int .i64 5, .int .u64 16, .int .u64 16, .slice none 0 0, .int .i64 3, .int .i64 5, .int .u64 60, .int .u64 60, .slice none 0 0, .int .i64 4, .int .i64 5, .int .u64 80, .int .u64 1179664, .slice none 0 0]) : Calls Tryz.prog 49 #[.slice (some ⟨g, 0, none⟩) 4 4] w fun e w' => (∃ q, e = .returned (.pointer (some ⟨q, 0, none⟩)) ∧ w.heap.size ≤ q ∧ Cdc w' q (esl 2)) ∧ Below w.heap.size w w' := by
  have cC := a_Compile (esl2_slo h) w (Below.refl _ _)
  go_enter Tryz.func49, Tryz.ntmps49
  go_wp2_with (fail)
  refine cC.mono ?_
  rintro e_ w1 ⟨hb, hq⟩
  rcases hq with ⟨_, q, rfl, hq1, hq2⟩ | ⟨hq, _⟩
  · have A1 := hide hq2
    have A2 := hide hb
    clear cC hq2 hb h
    go_wp2_with (fail)
    go_ret
    exact ⟨⟨q, rfl, hq1, A1.out⟩, A2.out⟩
  · exact absurd esl2_vld hq
set_option maxRecDepth 100000 in
set_option maxHeartbeats 8000000 in
theorem a_codecE2 (w : World) : Calls Tryz.prog 38 #[.agg #[.int .u64 2, .func (.func 48) #[] #[]]] w fun e w' => (∃ q, e = .returned (.pointer (some ⟨q, 0, none⟩)) ∧ w.heap.size ≤ q ∧ Cdc w' q (esl 2)) ∧ Below w.heap.size w w' := by
  have cB := hide (a_bucketOf 2 1048576 rfl (by decide))
  rw [bkd_v2] at cB
  have R0 := hp1_0 w (.cells #[.int .u64 2, .func (.func 48) #[] #[]] 69)
  have hw : Below w.heap.size w (w.alloc (.cells #[.int .u64 2, .func (.func 48) #[] #[]] 69)) := (Below.refl _ _).alloc (Nat.le_refl _) _
  go_enter Tryz.func38, Tryz.ntmps38
  iterate 5 go_step
  generalize w.alloc (.cells #[.int .u64 2, .func (.func 48) #[] #[]] 69) = w0 at *
  go_wp2_with (first | (refine wpList_load_want rfl 69 _ rfl w.heap.size rfl 69 _ (0, 0) _ R0 Tryz.underlying69 rfl infoR ?_) | fail)
  refine (cB.out w0).mono ?_
  rintro e_ x0 ⟨rfl, hb_⟩
  replace R0 := keep hb_ R0
  replace hw := Below.after hw hb_
  clear hb_ cB
  go_upto_region 2 with (fail)
  have hbd : Below x0.heap.size x0 x0.drew := below_drN (Below.refl _ _) 1
  replace R0 := keep hbd R0
  replace hw := Below.after hw hbd
  have HS : (fun W : World => W.heap[w.heap.size]? = some (.cells #[.int .u64 2, .func (.func 48) #[] #[]] 69 (0, 0))) x0.drew := R0
  clear hbd R0
  refine wp_region_noPanic ?_
  refine wp_region_held (S := fun W : World => W.heap[w.heap.size]? = some (.cells #[.int .u64 2, .func (.func 48) #[] #[]] 69 (0, 0))) (by kernel_rfl) ?_
  change wpAnyH _ _ _ _ _ _ _ _ (World.drew _)
  generalize x0.drew = x1 at *
  refine wpAnyH_take (i := 0) (v := ?v25) rfl (by kernel_rfl) (by kernel_rfl) (by kernel_rfl) (fun _ _ _ h => h) (Or.inl ⟨by rfl, ?y25⟩) HS ?r25
  case y25 =>
    intro w_ hS_
    go_simp
    try with_reducible rfl
  simp only [Act.put, List.getElem_toArray, List.getElem_cons_zero, List.setIfInBounds_toArray, List.set_cons_succ, List.set_cons_zero]
  refine wpAnyH_take (i := 1) (v := .int .u64 2) rfl (by kernel_rfl) (by kernel_rfl) (by kernel_rfl) (fun _ _ _ h => h) (Or.inl ⟨by rfl, ?y26⟩) HS ?r26
  case y26 =>
    intro w_ hS_
    have c_ := cell_of_row _ _ 0 _ _ _ hS_
    go_simp
    try with_reducible rfl
  simp only [Act.put, List.getElem_toArray, List.getElem_cons_succ, List.getElem_cons_zero, List.setIfInBounds_toArray, List.set_cons_succ, List.set_cons_zero]
  refine wpAnyH_take (i := 2) (v := ?v27) rfl (by kernel_rfl) (by kernel_rfl) (by kernel_rfl) (fun _ _ _ h => h) (Or.inl ⟨by rfl, ?y27⟩) HS ?r27
  case y27 =>
    intro w_ hS_
    go_simp
    try with_reducible rfl
  simp only [Act.put, List.getElem_toArray, List.getElem_cons_succ, List.getElem_cons_zero, List.setIfInBounds_toArray, List.set_cons_succ, List.set_cons_zero]
  refine wpAnyH_take (i := 3) (v := .int .u64 2) rfl (by kernel_rfl) (by kernel_rfl) (by kernel_rfl) (fun _ _ _ h => h) (Or.inl ⟨by rfl, ?y28⟩) HS ?r28
  case y28 =>
    intro w_ hS_
    have c_ := cell_of_row _ _ 0 _ _ _ hS_
    go_simp
    try with_reducible rfl
  simp only [Act.put, List.getElem_toArray, List.getElem_cons_succ, List.getElem_cons_zero, List.setIfInBounds_toArray, List.set_cons_succ, List.set_cons_zero]
  refine wpAnyH_take (i := 4) (v := .agg #[.int .i64 1, .int .i64 1, .int .u64 2, .int .u64 2, .slice none 0 0]) rfl (by kernel_rfl) (by kernel_rfl) (by kernel_rfl) (fun _ _ _ h => h) (Or.inl ⟨by rfl, ?y29⟩) HS ?r29
  case y29 =>
    intro w_ hS_
    go_simp
    try with_reducible rfl
  simp only [Act.put, List.getElem_toArray, List.getElem_cons_succ, List.getElem_cons_zero, List.setIfInBounds_toArray, List.set_cons_succ, List.set_cons_zero]
  refine wpAnyH_take (i := 7) (v := ?v30) rfl (by kernel_rfl) (by kernel_rfl) (by kernel_rfl) (fun _ _ _ h => h) (Or.inl ⟨by rfl, ?y30⟩) HS ?r30
  case y30 =>
    intro w_ hS_
    go_simp
    try with_reducible rfl
  simp only [Act.put, List.getElem_toArray, List.getElem_cons_succ, List.getElem_cons_zero, List.setIfInBounds_toArray, List.set_cons_succ, List.set_cons_zero]
  refine wpAnyH_take (i := 8) (v := .agg #[.int .i64 4, .int .i64 5, .int .u64 80, .int .u64 1179664, .slice none 0 0]) rfl (by kernel_rfl) (by kernel_rfl) (by kernel_rfl) (fun _ _ _ h => h) (Or.inl ⟨by rfl, ?y31⟩) HS ?r31
  case y31 =>
    intro w_ hS_
    go_simp
    try with_reducible rfl
  simp only [Act.put, List.getElem_toArray, List.getElem_cons_succ, List.getElem_cons_zero, List.setIfInBounds_toArray, List.set_cons_succ, List.set_cons_zero]
  refine wpAnyH_one (k := 5) (fuel := 4) (by kernel_rfl) rfl (by kernel_rfl) (fun K_ hK => ?_)
  refine wp_call_ex (f := 50) (R := fun v w' => v = .agg #[.int .i64 2, .int .i64 5, .int .u64 16, .int .u64 16, .slice none 0 0] ∧ Below x1.heap.size x1 w') (by kernel_rfl) ((a_sized 2 16 x1).mono (fun e w' h => (by obtain ⟨e1, e2⟩ := h; exact ⟨_, e1, rfl, e2⟩ : ∃ v, e = .returned v ∧ v = .agg #[.int .i64 2, .int .i64 5, .int .u64 16, .int .u64 16, .slice none 0 0] ∧ Below x1.heap.size x1 w'))) (fun v_ x2 hX_ => ?_)
  obtain ⟨rfl, hb_⟩ := hX_
  replace HS := keep hb_ HS
  replace hw := Below.after hw hb_
  clear hb_
  refine hK _ _ HS ?_
  simp only [Act.put, List.getElem_toArray, List.getElem_cons_succ, List.getElem_cons_zero, List.setIfInBounds_toArray, List.set_cons_succ, List.set_cons_zero]
  clear hK
  refine wpAnyH_one (k := 6) (fuel := 3) (by kernel_rfl) rfl (by kernel_rfl) (fun K_ hK => ?_)
  refine wp_call_ex (f := 50) (R := fun v w' => v = .agg #[.int .i64 3, .int .i64 5, .int .u64 60, .int .u64 60, .slice none 0 0] ∧ Below x2.heap.size x2 w') (by kernel_rfl) ((a_sized 3 60 x2).mono (fun e w' h => (by obtain ⟨e1, e2⟩ := h; exact ⟨_, e1, rfl, e2⟩ : ∃ v, e = .returned v ∧ v = .agg #[.int .i64 3, .int .i64 5, .int .u64 60, .int .u64 60, .slice none 0 0] ∧ Below x2.heap.size x2 w'))) (fun v_ x3 hX_ => ?_)
  obtain ⟨rfl, hb_⟩ := hX_
  replace HS := keep hb_ HS
  replace hw := Below.after hw hb_
  clear hb_
  refine hK _ _ HS ?_
  simp only [Act.put, List.getElem_toArray, List.getElem_cons_succ, List.getElem_cons_zero, List.setIfInBounds_toArray, List.set_cons_succ, List.set_cons_zero]
  clear hK
  refine wpAnyH_one (k := 9) (fuel := 2) (by kernel_rfl) rfl (by kernel_rfl) (fun K_ hK => ?_)
  refine wp_val_op (.slice (some ⟨x3.heap.size, 0, none⟩) 4 4) (w' := x3.alloc (.cells #[.int .i64 1, .int .i64 1, .int .u64 2, .int .u64 2, .slice none 0 0, .int .i64 2, .int .i64 5, .int .u64 16, .int .u64 16, .slice none 0 0, .int .i64 3, .int .i64 5, .int .u64 60, .int .u64 60, .slice none 0 0, .int .i64 4, .int .i64 5, .int .u64 80, .int .u64 1179664, .slice none 0 0] 99)) (by kernel_rfl) ?_
  have hBx : Bx (x3.alloc (.cells #[.int .i64 1, .int .i64 1, .int .u64 2, .int .u64 2, .slice none 0 0, .int .i64 2, .int .i64 5, .int .u64 16, .int .u64 16, .slice none 0 0, .int .i64 3, .int .i64 5, .int .u64 60, .int .u64 60, .slice none 0 0, .int .i64 4, .int .i64 5, .int .u64 80, .int .u64 1179664, .slice none 0 0] 99)) x3.heap.size #[.int .i64 1, .int .i64 1, .int .u64 2, .int .u64 2, .slice none 0 0, .int .i64 2, .int .i64 5, .int .u64 16, .int .u64 16, .slice none 0 0, .int .i64 3, .int .i64 5, .int .u64 60, .int .u64 60, .slice none 0 0, .int .i64 4, .int .i64 5, .int .u64 80, .int .u64 1179664, .slice none 0 0] := ⟨_, hp1_0 x3 _⟩
  have hb_ : Below x3.heap.size x3 (x3.alloc (.cells #[.int .i64 1, .int .i64 1, .int .u64 2, .int .u64 2, .slice none 0 0, .int .i64 2, .int .i64 5, .int .u64 16, .int .u64 16, .slice none 0 0, .int .i64 3, .int .i64 5, .int .u64 60, .int .u64 60, .slice none 0 0, .int .i64 4, .int .i64 5, .int .u64 80, .int .u64 1179664, .slice none 0 0] 99)) := (Below.refl _ _).alloc (Nat.le_refl _) _
  replace HS := keep hb_ HS
  replace hw := Below.after hw hb_
  clear hb_
  refine hK _ _ HS ?_
  simp only [Act.put, List.getElem_toArray, List.getElem_cons_succ, List.getElem_cons_zero, List.setIfInBounds_toArray, List.set_cons_succ, List.set_cons_zero]
  clear hK
  generalize x3.alloc (.cells #[.int .i64 1, .int .i64 1, .int .u64 2, .int .u64 2, .slice none 0 0, .int .i64 2, .int .i64 5, .int .u64 16, .int .u64 16, .slice none 0 0, .int .i64 3, .int .i64 5, .int .u64 60, .int .u64 60, .slice none 0 0, .int .i64 4, .int .i64 5, .int .u64 80, .int .u64 1179664, .slice none 0 0] 99) = x4 at *
  generalize x3.heap.size = gp at *
  refine wpAnyH_one (k := 10) (fuel := 1) (by kernel_rfl) rfl (by kernel_rfl) (fun K_ hK => ?_)
  have cK := (a_compiledE2 x4 gp hBx).mono (fun e w' h => (by obtain ⟨⟨q, e1, e2, e3⟩, e4⟩ := h; exact ⟨_, e1, q, rfl, e2, e3, e4⟩ : ∃ v, e = .returned v ∧ ∃ q, v = .pointer (some ⟨q, 0, none⟩) ∧ x4.heap.size ≤ q ∧ Cdc w' q (esl 2) ∧ Below x4.heap.size x4 w'))
  refine wp_call_ex (f := 49) (R := fun v w' => ∃ q, v = .pointer (some ⟨q, 0, none⟩) ∧ x4.heap.size ≤ q ∧ Cdc w' q (esl 2) ∧ Below x4.heap.size x4 w') (by kernel_rfl) cK (fun v_ x5 hX_ => ?_)
  obtain ⟨q, rfl, hq1, hq2, hb_⟩ := hX_
  have hq3 : w.heap.size ≤ q := by have := hw.size; omega
  replace HS := keep hb_ HS
  replace hw := Below.after hw hb_
  clear hb_ cK hBx hq1
  refine hK _ _ HS ?_
  simp only [Act.put, List.getElem_toArray, List.getElem_cons_succ, List.getElem_cons_zero, List.setIfInBounds_toArray, List.set_cons_succ, List.set_cons_zero]
  clear hK
  refine wpAnyH_take (i := 11) (v := ?v32) rfl (by kernel_rfl) (by kernel_rfl) (by kernel_rfl) (fun _ _ _ h => h) (Or.inl ⟨by rfl, ?y32⟩) HS ?r32
  case y32 =>
    intro w_ hS_
    go_simp
    try with_reducible rfl
  simp only [Act.put, List.getElem_toArray, List.getElem_cons_succ, List.getElem_cons_zero, List.setIfInBounds_toArray, List.set_cons_succ, List.set_cons_zero]
  refine wpAnyH_done (by kernel_rfl) ?_ _
  refine NoPanic.normal ?_
  have A1 := hide hq2
  have A2 := hide hw
  clear hq2 hw HS
  go_wp2_with (fail)
  go_ret
  exact ⟨⟨q, rfl, hq3, A1.out⟩, A2.out⟩
end Go.Proofs.YtleeadbceljfbaaGreatDoor
