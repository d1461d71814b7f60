import Derived.Test.YtleeadbceljfbaaGreatDoorCQb4
import Derived.Test.YtleeadbceljfbaaGreatDoorCQd0
import Derived.OwnWalk
import Derived.Deep.Cut
import Derived.Deep.RegionHeld3
import Derived.Test.YtleeadbceljfbaaGreatDoorProg
import Derived.WalkKit
import Derived.LaidEql
import Derived.Stop.Asserts
import Derived.RowKitTokens
import Derived.Test.YtleeadbceljfbaaGreatDoorCQb3
namespace Go.Proofs.YtleeadbceljfbaaGreatDoor
set_option maxRecDepth 100000
open Go Go.RowKit Go.Sort
attribute [local go_sem] setCell_drewN alloc_drewN
theorem oneFx (x : Int) (k : FuncId) : (#[Value.int IntKind.u64 x, Value.func (Fn.func k) #[] #[]] : Array Value).all (·.oneCell') = true := by simp [Value.oneCell']
def mo (v : Nat) : Nat := if v = 1 then 2097168 else 1179664
def esl (v : Nat) : List Slt := [.mk 1 1 v v [], .mk 2 5 16 16 [], .mk 3 5 60 60 [], .mk 4 5 80 (mo v) []]
theorem esl1 : esl 1 = [.mk 1 1 1 1 [], .mk 2 5 16 16 [], .mk 3 5 60 60 [], .mk 4 5 80 2097168 []] := rfl
theorem esl2 : esl 2 = [.mk 1 1 2 2 [], .mk 2 5 16 16 [], .mk 3 5 60 60 [], .mk 4 5 80 1179664 []] := rfl
theorem en_l1 {n : Nat} (h : n < 128) : (en n).length = 1 := by rw [en_lo h]; rfl
theorem en_l3 {n : Nat} (h1 : ¬ n < 128) (h2 : ¬ n / 128 < 128) (h3 : n / 128 / 128 < 128) : (en n).length = 3 := by
 rw [en_hi h1, en_hi h2, en_lo h3]; rfl
theorem en_l4 {n : Nat} (h1 : ¬ n < 128) (h2 : ¬ n / 128 < 128) (h3 : ¬ n / 128 / 128 < 128) (h4 : n / 128 / 128 / 128 < 128) : (en n).length = 4 := by
 rw [en_hi h1, en_hi h2, en_hi h3, en_lo h4]; rfl
theorem bkd_v1 : bkd (dg 1) (4 + 1048576) = 2097152 := by decide +kernel
theorem esl1_vld : vld (esl 1) = 0 := by
 rw [esl1]
 have h1 : ¬ lft [Slt.mk 1 1 1 1 [], .mk 2 5 16 16 [], .mk 3 5 60 60 [], .mk 4 5 80 2097168 []] 1 256 < 0 := by simp [lft, lfL, fitN, fitB]
 have e8 : (en 8).length = 1 := en_l1 (by decide)
 have ev : (en 1).length = 1 := en_l1 (by decide)
 have e18 : (en 18).length = 1 := en_l1 (by decide)
 have e16 : (en 16).length = 1 := en_l1 (by decide)
 have e26 : (en 26).length = 1 := en_l1 (by decide)
 have e60 : (en 60).length = 1 := en_l1 (by decide)
 have e34 : (en 34).length = 1 := en_l1 (by decide)
 have eM : (en 2097168).length = 4 := en_l4 (by decide) (by decide) (by decide) (by decide)
 have h2 : (spL [Slt.mk 1 1 1 1 [], .mk 2 5 16 16 [], .mk 3 5 60 60 [], .mk 4 5 80 2097168 []] 0 0).2 = 2097255 := by simp [spL, slsz, hdl, tyOf, frm, cpd, e8, ev, e18, e16, e26, e60, e34, eM]
 rw [vld, if_neg h1, if_neg (by rw [h2]; decide)]
theorem esl1_slo {W : World} {g : Nat} (h : Bx W g #[.int .i64 1, .int .i64 1, .int .u64 1, .int .u64 1, .slice none 0 0, .int .i64 2, .int .i64 5, .int .u64 16, .int .u64 16, .slice none 0 0, .int .i64 3, .int .i64 5, .int .u64 60, .int .u64 60, .slice none 0 0, .int .i64 4, .int .i64 5, .int .u64 80, .int .u64 2097168, .slice none 0 0]) : Slo W (.slice (some ⟨g, 0, none⟩) 4 4) (esl 1) := by
 rw [esl1]
 have hlt := h.lt
 refine Slo.mk (some ⟨g, 0, none⟩) 4 [Slt.mk 1 1 1 1 [], .mk 2 5 16 16 [], .mk 3 5 60 60 [], .mk 4 5 80 2097168 []] [.slice none 0 0, .slice none 0 0, .slice none 0 0, .slice none 0 0] (by simp) (by simp) (fun e => by cases e) (fun i hi => ⟨g, 0, rfl, hlt, ?_, ?_⟩) (fun i hi => ?_)
 · obtain ⟨T, h⟩ := h
   intro j v hv
   rw [cell_of_row _ _ _ _ _ _ h]
   have hj : j < 5 := by have := (List.getElem?_eq_some_iff.1 hv).1; simpa [srow] using this
   have hi3 : i < 4 := hi
   rcases (by omega : i = 0 ∨ i = 1 ∨ i = 2 ∨ i = 3) with rfl | rfl | rfl | rfl <;> rcases (by omega : j = 0 ∨ j = 1 ∨ j = 2 ∨ j = 3 ∨ j = 4) with rfl | rfl | rfl | rfl | rfl <;> exact hv
 · have hi3 : i < 4 := hi
   rcases (by omega : i = 0 ∨ i = 1 ∨ i = 2 ∨ i = 3) with rfl | rfl | rfl | rfl <;> (unfold Sok; decide)
 · have hi3 : i < 4 := hi
   rcases (by omega : i = 0 ∨ i = 1 ∨ i = 2 ∨ i = 3) with rfl | rfl | rfl | rfl <;> exact slo_nil W
theorem esl1_flat : ∀ i, i < (esl 1).length → Fla (gs (esl 1) i) := fun i hi => by
 rw [esl1] at *
 have hi3 : i < 4 := hi
 rcases (by omega : i = 0 ∨ i = 1 ∨ i = 2 ∨ i = 3) with rfl | rfl | rfl | rfl <;> (unfold Fla; decide)
set_option maxRecDepth 100000 in
set_option maxHeartbeats 8000000 in
theorem a_compiledE1 (w : World) (g : Nat) (h : Bx w g #[.int .i64 1, .int .i64 1, .int .u64 1, .int .u64 1, .slice none 0 0, .int .i64 2, .int .i64 5, .int .u64 16, .int .u64 16, .slice none 0 0, .int .i64 3, .int .i64 5, .int .u64 60, .int .u64 60, .slice none 0 0, .int .i64 4, .int .i64 5, .int .u64 80, .int .u64 2097168, .slice none 0 0]) : Calls Tryz.prog 49 #[.slice (some ⟨g, 0, none⟩) 4 4] w fun e w' => (∃ q, e = .returned (.pointer (some ⟨q, 0, none⟩)) ∧ w.heap.size ≤ q ∧ Cdc w' q (esl 1)) ∧ Below w.heap.size w w' := by
 have cC := a_Compile (esl1_slo h) w (Below.refl _ _)
 go_enter Tryz.func49, Tryz.ntmps49
 go_wp2_with (fail)
 refine cC.mono ?_
 rintro e_ w1 ⟨hb, hq⟩
 rcases hq with ⟨_, q, rfl, hq1, hq2⟩ | ⟨hq, _⟩
 · have A1 := hide hq2
   have A2 := hide hb
   clear cC hq2 hb h
   go_wp2_with (fail)
   go_ret
   exact ⟨⟨q, rfl, hq1, A1.out⟩, A2.out⟩
 · exact absurd esl1_vld hq
set_option maxRecDepth 100000 in
set_option maxHeartbeats 8000000 in
theorem a_codecE1 (w : World) : Calls Tryz.prog 38 #[.agg #[.int .u64 1, .func (.func 47) #[] #[]]] w fun e w' => (∃ q, e = .returned (.pointer (some ⟨q, 0, none⟩)) ∧ w.heap.size ≤ q ∧ Cdc w' q (esl 1)) ∧ Below w.heap.size w w' := by
 have cB := hide (a_bucketOf 1 1048576 rfl (by decide))
 rw [bkd_v1] at cB
 have R0 := hp1_0 w (.cells #[.int .u64 1, .func (.func 47) #[] #[]] 69)
 have hw : Below w.heap.size w (w.alloc (.cells #[.int .u64 1, .func (.func 47) #[] #[]] 69)) := (Below.refl _ _).alloc (Nat.le_refl _) _
 go_enter Tryz.func38, Tryz.ntmps38
 iterate 5 go_step
 generalize w.alloc (.cells #[.int .u64 1, .func (.func 47) #[] #[]] 69) = w0 at *
 go_wp2_with (first | (refine wpList_load_want rfl 69 _ rfl w.heap.size rfl 69 _ (0, 0) _ R0 Tryz.underlying69 rfl infoR ?_) | fail)
 refine (cB.out w0).mono ?_
 rintro e_ x0 ⟨rfl, hb_⟩
 replace R0 := keep hb_ R0
 replace hw := Below.after hw hb_
 clear hb_ cB
 go_upto_region 2 with (fail)
 have hbd : Below x0.heap.size x0 x0.drew := below_drN (Below.refl _ _) 1
 replace R0 := keep hbd R0
 replace hw := Below.after hw hbd
 have HS : (fun W : World => W.heap[w.heap.size]? = some (.cells #[.int .u64 1, .func (.func 47) #[] #[]] 69 (0, 0))) x0.drew := R0
 clear hbd R0
 refine wp_region_noPanic ?_
 refine wp_region_held (S := fun W : World => W.heap[w.heap.size]? = some (.cells #[.int .u64 1, .func (.func 47) #[] #[]] 69 (0, 0))) (by kernel_rfl) ?_
 change wpAnyH _ _ _ _ _ _ _ _ (World.drew _)
 generalize x0.drew = x1 at *
 refine wpAnyH_take (i := 0) (v := ?v9) rfl (by kernel_rfl) (by kernel_rfl) (by kernel_rfl) (fun _ _ _ h => h) (Or.inl ⟨by rfl, ?y9⟩) HS ?r9
 case y9 =>
   intro w_ hS_
   go_simp
   try with_reducible rfl
 simp only [Act.put, List.getElem_toArray, List.getElem_cons_zero, List.setIfInBounds_toArray, List.set_cons_succ, List.set_cons_zero]
 refine wpAnyH_take (i := 1) (v := .int .u64 1) rfl (by kernel_rfl) (by kernel_rfl) (by kernel_rfl) (fun _ _ _ h => h) (Or.inl ⟨by rfl, ?y10⟩) HS ?r10
 case y10 =>
   intro w_ hS_
   have c_ := cell_of_row _ _ 0 _ _ _ hS_
   go_simp
   try with_reducible rfl
 simp only [Act.put, List.getElem_toArray, List.getElem_cons_succ, List.getElem_cons_zero, List.setIfInBounds_toArray, List.set_cons_succ, List.set_cons_zero]
 refine wpAnyH_take (i := 2) (v := ?v11) rfl (by kernel_rfl) (by kernel_rfl) (by kernel_rfl) (fun _ _ _ h => h) (Or.inl ⟨by rfl, ?y11⟩) HS ?r11
 case y11 =>
   intro w_ hS_
   go_simp
   try with_reducible rfl
 simp only [Act.put, List.getElem_toArray, List.getElem_cons_succ, List.getElem_cons_zero, List.setIfInBounds_toArray, List.set_cons_succ, List.set_cons_zero]
 refine wpAnyH_take (i := 3) (v := .int .u64 1) rfl (by kernel_rfl) (by kernel_rfl) (by kernel_rfl) (fun _ _ _ h => h) (Or.inl ⟨by rfl, ?y12⟩) HS ?r12
 case y12 =>
   intro w_ hS_
   have c_ := cell_of_row _ _ 0 _ _ _ hS_
   go_simp
   try with_reducible rfl
 simp only [Act.put, List.getElem_toArray, List.getElem_cons_succ, List.getElem_cons_zero, List.setIfInBounds_toArray, List.set_cons_succ, List.set_cons_zero]
 refine wpAnyH_take (i := 4) (v := .agg #[.int .i64 1, .int .i64 1, .int .u64 1, .int .u64 1, .slice none 0 0]) rfl (by kernel_rfl) (by kernel_rfl) (by kernel_rfl) (fun _ _ _ h => h) (Or.inl ⟨by rfl, ?y13⟩) HS ?r13
 case y13 =>
   intro w_ hS_
   go_simp
   try with_reducible rfl
 simp only [Act.put, List.getElem_toArray, List.getElem_cons_succ, List.getElem_cons_zero, List.setIfInBounds_toArray, List.set_cons_succ, List.set_cons_zero]
 refine wpAnyH_take (i := 7) (v := ?v14) rfl (by kernel_rfl) (by kernel_rfl) (by kernel_rfl) (fun _ _ _ h => h) (Or.inl ⟨by rfl, ?y14⟩) HS ?r14
 case y14 =>
   intro w_ hS_
   go_simp
   try with_reducible rfl
 simp only [Act.put, List.getElem_toArray, List.getElem_cons_succ, List.getElem_cons_zero, List.setIfInBounds_toArray, List.set_cons_succ, List.set_cons_zero]
 refine wpAnyH_take (i := 8) (v := .agg #[.int .i64 4, .int .i64 5, .int .u64 80, .int .u64 2097168, .slice none 0 0]) rfl (by kernel_rfl) (by kernel_rfl) (by kernel_rfl) (fun _ _ _ h => h) (Or.inl ⟨by rfl, ?y15⟩) HS ?r15
 case y15 =>
   intro w_ hS_
   go_simp
   try with_reducible rfl
 simp only [Act.put, List.getElem_toArray, List.getElem_cons_succ, List.getElem_cons_zero, List.setIfInBounds_toArray, List.set_cons_succ, List.set_cons_zero]
 refine wpAnyH_one (k := 5) (fuel := 4) (by kernel_rfl) rfl (by kernel_rfl) (fun K_ hK => ?_)
 refine wp_call_ex (f := 50) (R := fun v w' => v = .agg #[.int .i64 2, .int .i64 5, .int .u64 16, .int .u64 16, .slice none 0 0] ∧ Below x1.heap.size x1 w') (by kernel_rfl) ((a_sized 2 16 x1).mono (fun e w' h => (by obtain ⟨e1, e2⟩ := h; exact ⟨_, e1, rfl, e2⟩ : ∃ v, e = .returned v ∧ v = .agg #[.int .i64 2, .int .i64 5, .int .u64 16, .int .u64 16, .slice none 0 0] ∧ Below x1.heap.size x1 w'))) (fun v_ x2 hX_ => ?_)
 obtain ⟨rfl, hb_⟩ := hX_
 replace HS := keep hb_ HS
 replace hw := Below.after hw hb_
 clear hb_
 refine hK _ _ HS ?_
 simp only [Act.put, List.getElem_toArray, List.getElem_cons_succ, List.getElem_cons_zero, List.setIfInBounds_toArray, List.set_cons_succ, List.set_cons_zero]
 clear hK
 refine wpAnyH_one (k := 6) (fuel := 3) (by kernel_rfl) rfl (by kernel_rfl) (fun K_ hK => ?_)
 refine wp_call_ex (f := 50) (R := fun v w' => v = .agg #[.int .i64 3, .int .i64 5, .int .u64 60, .int .u64 60, .slice none 0 0] ∧ Below x2.heap.size x2 w') (by kernel_rfl) ((a_sized 3 60 x2).mono (fun e w' h => (by obtain ⟨e1, e2⟩ := h; exact ⟨_, e1, rfl, e2⟩ : ∃ v, e = .returned v ∧ v = .agg #[.int .i64 3, .int .i64 5, .int .u64 60, .int .u64 60, .slice none 0 0] ∧ Below x2.heap.size x2 w'))) (fun v_ x3 hX_ => ?_)
 obtain ⟨rfl, hb_⟩ := hX_
 replace HS := keep hb_ HS
 replace hw := Below.after hw hb_
 clear hb_
 refine hK _ _ HS ?_
 simp only [Act.put, List.getElem_toArray, List.getElem_cons_succ, List.getElem_cons_zero, List.setIfInBounds_toArray, List.set_cons_succ, List.set_cons_zero]
 clear hK
 refine wpAnyH_one (k := 9) (fuel := 2) (by kernel_rfl) rfl (by kernel_rfl) (fun K_ hK => ?_)
 refine wp_val_op (.slice (some ⟨x3.heap.size, 0, none⟩) 4 4) (w' := x3.alloc (.cells #[.int .i64 1, .int .i64 1, .int .u64 1, .int .u64 1, .slice none 0 0, .int .i64 2, .int .i64 5, .int .u64 16, .int .u64 16, .slice none 0 0, .int .i64 3, .int .i64 5, .int .u64 60, .int .u64 60, .slice none 0 0, .int .i64 4, .int .i64 5, .int .u64 80, .int .u64 2097168, .slice none 0 0] 99)) (by kernel_rfl) ?_
 have hBx : Bx (x3.alloc (.cells #[.int .i64 1, .int .i64 1, .int .u64 1, .int .u64 1, .slice none 0 0, .int .i64 2, .int .i64 5, .int .u64 16, .int .u64 16, .slice none 0 0, .int .i64 3, .int .i64 5, .int .u64 60, .int .u64 60, .slice none 0 0, .int .i64 4, .int .i64 5, .int .u64 80, .int .u64 2097168, .slice none 0 0] 99)) x3.heap.size #[.int .i64 1, .int .i64 1, .int .u64 1, .int .u64 1, .slice none 0 0, .int .i64 2, .int .i64 5, .int .u64 16, .int .u64 16, .slice none 0 0, .int .i64 3, .int .i64 5, .int .u64 60, .int .u64 60, .slice none 0 0, .int .i64 4, .int .i64 5, .int .u64 80, .int .u64 2097168, .slice none 0 0] := ⟨_, hp1_0 x3 _⟩
 have hb_ : Below x3.heap.size x3 (x3.alloc (.cells #[.int .i64 1, .int .i64 1, .int .u64 1, .int .u64 1, .slice none 0 0, .int .i64 2, .int .i64 5, .int .u64 16, .int .u64 16, .slice none 0 0, .int .i64 3, .int .i64 5, .int .u64 60, .int .u64 60, .slice none 0 0, .int .i64 4, .int .i64 5, .int .u64 80, .int .u64 2097168, .slice none 0 0] 99)) := (Below.refl _ _).alloc (Nat.le_refl _) _
 replace HS := keep hb_ HS
 replace hw := Below.after hw hb_
 clear hb_
 refine hK _ _ HS ?_
 simp only [Act.put, List.getElem_toArray, List.getElem_cons_succ, List.getElem_cons_zero, List.setIfInBounds_toArray, List.set_cons_succ, List.set_cons_zero]
 clear hK
 generalize x3.alloc (.cells #[.int .i64 1, .int .i64 1, .int .u64 1, .int .u64 1, .slice none 0 0, .int .i64 2, .int .i64 5, .int .u64 16, .int .u64 16, .slice none 0 0, .int .i64 3, .int .i64 5, .int .u64 60, .int .u64 60, .slice none 0 0, .int .i64 4, .int .i64 5, .int .u64 80, .int .u64 2097168, .slice none 0 0] 99) = x4 at *
 generalize x3.heap.size = gp at *
 refine wpAnyH_one (k := 10) (fuel := 1) (by kernel_rfl) rfl (by kernel_rfl) (fun K_ hK => ?_)
 have cK := (a_compiledE1 x4 gp hBx).mono (fun e w' h => (by obtain ⟨⟨q, e1, e2, e3⟩, e4⟩ := h; exact ⟨_, e1, q, rfl, e2, e3, e4⟩ : ∃ v, e = .returned v ∧ ∃ q, v = .pointer (some ⟨q, 0, none⟩) ∧ x4.heap.size ≤ q ∧ Cdc w' q (esl 1) ∧ Below x4.heap.size x4 w'))
 refine wp_call_ex (f := 49) (R := fun v w' => ∃ q, v = .pointer (some ⟨q, 0, none⟩) ∧ x4.heap.size ≤ q ∧ Cdc w' q (esl 1) ∧ Below x4.heap.size x4 w') (by kernel_rfl) cK (fun v_ x5 hX_ => ?_)
 obtain ⟨q, rfl, hq1, hq2, hb_⟩ := hX_
 have hq3 : w.heap.size ≤ q := by have := hw.size; omega
 replace HS := keep hb_ HS
 replace hw := Below.after hw hb_
 clear hb_ cK hBx hq1
 refine hK _ _ HS ?_
 simp only [Act.put, List.getElem_toArray, List.getElem_cons_succ, List.getElem_cons_zero, List.setIfInBounds_toArray, List.set_cons_succ, List.set_cons_zero]
 clear hK
 refine wpAnyH_take (i := 11) (v := ?v16) rfl (by kernel_rfl) (by kernel_rfl) (by kernel_rfl) (fun _ _ _ h => h) (Or.inl ⟨by rfl, ?y16⟩) HS ?r16
 case y16 =>
   intro w_ hS_
   go_simp
   try with_reducible rfl
 simp only [Act.put, List.getElem_toArray, List.getElem_cons_succ, List.getElem_cons_zero, List.setIfInBounds_toArray, List.set_cons_succ, List.set_cons_zero]
 refine wpAnyH_done (by kernel_rfl) ?_ _
 refine NoPanic.normal ?_
 have A1 := hide hq2
 have A2 := hide hw
 clear hq2 hw HS
 go_wp2_with (fail)
 go_ret
 exact ⟨⟨q, rfl, hq3, A1.out⟩, A2.out⟩
theorem bkd_v2 : bkd (dg 2) (4 + 1048576) = 1179648 := by decide +kernel
theorem esl2_vld : vld (esl 2) = 0 := by
 rw [esl2]
 have h1 : ¬ lft [Slt.mk 1 1 2 2 [], .mk 2 5 16 16 [], .mk 3 5 60 60 [], .mk 4 5 80 1179664 []] 1 256 < 0 := by simp [lft, lfL, fitN, fitB]
 have e8 : (en 8).length = 1 := en_l1 (by decide)
 have ev : (en 2).length = 1 := en_l1 (by decide)
 have e18 : (en 18).length = 1 := en_l1 (by decide)
 have e16 : (en 16).length = 1 := en_l1 (by decide)
 have e26 : (en 26).length = 1 := en_l1 (by decide)
 have e60 : (en 60).length = 1 := en_l1 (by decide)
 have e34 : (en 34).length = 1 := en_l1 (by decide)
 have eM : (en 1179664).length = 3 := en_l3 (by decide) (by decide) (by decide)
 have h2 : (spL [Slt.mk 1 1 2 2 [], .mk 2 5 16 16 [], .mk 3 5 60 60 [], .mk 4 5 80 1179664 []] 0 0).2 = 1179750 := by simp [spL, slsz, hdl, tyOf, frm, cpd, e8, ev, e18, e16, e26, e60, e34, eM]
 rw [vld, if_neg h1, if_neg (by rw [h2]; decide)]
theorem esl2_slo {W : World} {g : Nat} (h : Bx W g #[.int .i64 1, .int .i64 1, .int .u64 2, .int .u64 2, .slice none 0 0, .int .i64 2, .int .i64 5, .int .u64 16, .int .u64 16, .slice none 0 0, .int .i64 3, .int .i64 5, .int .u64 60, .int .u64 60, .slice none 0 0, .int .i64 4, .int .i64 5, .int .u64 80, .int .u64 1179664, .slice none 0 0]) : Slo W (.slice (some ⟨g, 0, none⟩) 4 4) (esl 2) := by
 rw [esl2]
 have hlt := h.lt
 refine Slo.mk (some ⟨g, 0, none⟩) 4 [Slt.mk 1 1 2 2 [], .mk 2 5 16 16 [], .mk 3 5 60 60 [], .mk 4 5 80 1179664 []] [.slice none 0 0, .slice none 0 0, .slice none 0 0, .slice none 0 0] (by simp) (by simp) (fun e => by cases e) (fun i hi => ⟨g, 0, rfl, hlt, ?_, ?_⟩) (fun i hi => ?_)
 · obtain ⟨T, h⟩ := h
   intro j v hv
   rw [cell_of_row _ _ _ _ _ _ h]
   have hj : j < 5 := by have := (List.getElem?_eq_some_iff.1 hv).1; simpa [srow] using this
   have hi3 : i < 4 := hi
   rcases (by omega : i = 0 ∨ i = 1 ∨ i = 2 ∨ i = 3) with rfl | rfl | rfl | rfl <;> rcases (by omega : j = 0 ∨ j = 1 ∨ j = 2 ∨ j = 3 ∨ j = 4) with rfl | rfl | rfl | rfl | rfl <;> exact hv
 · have hi3 : i < 4 := hi
   rcases (by omega : i = 0 ∨ i = 1 ∨ i = 2 ∨ i = 3) with rfl | rfl | rfl | rfl <;> (unfold Sok; decide)
 · have hi3 : i < 4 := hi
   rcases (by omega : i = 0 ∨ i = 1 ∨ i = 2 ∨ i = 3) with rfl | rfl | rfl | rfl <;> exact slo_nil W
theorem esl2_flat : ∀ i, i < (esl 2).length → Fla (gs (esl 2) i) := fun i hi => by
 rw [esl2] at *
 have hi3 : i < 4 := hi
 rcases (by omega : i = 0 ∨ i = 1 ∨ i = 2 ∨ i = 3) with rfl | rfl | rfl | rfl <;> (unfold Fla; decide)
set_option maxRecDepth 100000 in
set_option maxHeartbeats 8000000 in
theorem a_compiledE2 (w : World) (g : Nat) (h : Bx w g #[.int .i64 1, .int .i64 1, .int .u64 2, .int .u64 2, .slice none 0 0, .int .i64 2, .int .i64 5, .int .u64 16, .int .u64 16, .slice none 0 0, .int .i64 3, .int .i64 5, .int .u64 60, .int .u64 60, .slice none 0 0, .int .i64 4, .int .i64 5, .int .u64 80, .int .u64 1179664, .slice none 0 0]) : Calls Tryz.prog 49 #[.slice (some ⟨g, 0, none⟩) 4 4] w fun e w' => (∃ q, e = .returned (.pointer (some ⟨q, 0, none⟩)) ∧ w.heap.size ≤ q ∧ Cdc w' q (esl 2)) ∧ Below w.heap.size w w' := by
 have cC := a_Compile (esl2_slo h) w (Below.refl _ _)
 go_enter Tryz.func49, Tryz.ntmps49
 go_wp2_with (fail)
 refine cC.mono ?_
 rintro e_ w1 ⟨hb, hq⟩
 rcases hq with ⟨_, q, rfl, hq1, hq2⟩ | ⟨hq, _⟩
 · have A1 := hide hq2
   have A2 := hide hb
   clear cC hq2 hb h
   go_wp2_with (fail)
   go_ret
   exact ⟨⟨q, rfl, hq1, A1.out⟩, A2.out⟩
 · exact absurd esl2_vld hq
set_option maxRecDepth 100000 in
set_option maxHeartbeats 8000000 in
theorem a_codecE2 (w : World) : Calls Tryz.prog 38 #[.agg #[.int .u64 2, .func (.func 48) #[] #[]]] w fun e w' => (∃ q, e = .returned (.pointer (some ⟨q, 0, none⟩)) ∧ w.heap.size ≤ q ∧ Cdc w' q (esl 2)) ∧ Below w.heap.size w w' := by
 have cB := hide (a_bucketOf 2 1048576 rfl (by decide))
 rw [bkd_v2] at cB
 have R0 := hp1_0 w (.cells #[.int .u64 2, .func (.func 48) #[] #[]] 69)
 have hw : Below w.heap.size w (w.alloc (.cells #[.int .u64 2, .func (.func 48) #[] #[]] 69)) := (Below.refl _ _).alloc (Nat.le_refl _) _
 go_enter Tryz.func38, Tryz.ntmps38
 iterate 5 go_step
 generalize w.alloc (.cells #[.int .u64 2, .func (.func 48) #[] #[]] 69) = w0 at *
 go_wp2_with (first | (refine wpList_load_want rfl 69 _ rfl w.heap.size rfl 69 _ (0, 0) _ R0 Tryz.underlying69 rfl infoR ?_) | fail)
 refine (cB.out w0).mono ?_
 rintro e_ x0 ⟨rfl, hb_⟩
 replace R0 := keep hb_ R0
 replace hw := Below.after hw hb_
 clear hb_ cB
 go_upto_region 2 with (fail)
 have hbd : Below x0.heap.size x0 x0.drew := below_drN (Below.refl _ _) 1
 replace R0 := keep hbd R0
 replace hw := Below.after hw hbd
 have HS : (fun W : World => W.heap[w.heap.size]? = some (.cells #[.int .u64 2, .func (.func 48) #[] #[]] 69 (0, 0))) x0.drew := R0
 clear hbd R0
 refine wp_region_noPanic ?_
 refine wp_region_held (S := fun W : World => W.heap[w.heap.size]? = some (.cells #[.int .u64 2, .func (.func 48) #[] #[]] 69 (0, 0))) (by kernel_rfl) ?_
 change wpAnyH _ _ _ _ _ _ _ _ (World.drew _)
 generalize x0.drew = x1 at *
 refine wpAnyH_take (i := 0) (v := ?v25) rfl (by kernel_rfl) (by kernel_rfl) (by kernel_rfl) (fun _ _ _ h => h) (Or.inl ⟨by rfl, ?y25⟩) HS ?r25
 case y25 =>
   intro w_ hS_
   go_simp
   try with_reducible rfl
 simp only [Act.put, List.getElem_toArray, List.getElem_cons_zero, List.setIfInBounds_toArray, List.set_cons_succ, List.set_cons_zero]
 refine wpAnyH_take (i := 1) (v := .int .u64 2) rfl (by kernel_rfl) (by kernel_rfl) (by kernel_rfl) (fun _ _ _ h => h) (Or.inl ⟨by rfl, ?y26⟩) HS ?r26
 case y26 =>
   intro w_ hS_
   have c_ := cell_of_row _ _ 0 _ _ _ hS_
   go_simp
   try with_reducible rfl
 simp only [Act.put, List.getElem_toArray, List.getElem_cons_succ, List.getElem_cons_zero, List.setIfInBounds_toArray, List.set_cons_succ, List.set_cons_zero]
 refine wpAnyH_take (i := 2) (v := ?v27) rfl (by kernel_rfl) (by kernel_rfl) (by kernel_rfl) (fun _ _ _ h => h) (Or.inl ⟨by rfl, ?y27⟩) HS ?r27
 case y27 =>
   intro w_ hS_
   go_simp
   try with_reducible rfl
 simp only [Act.put, List.getElem_toArray, List.getElem_cons_succ, List.getElem_cons_zero, List.setIfInBounds_toArray, List.set_cons_succ, List.set_cons_zero]
 refine wpAnyH_take (i := 3) (v := .int .u64 2) rfl (by kernel_rfl) (by kernel_rfl) (by kernel_rfl) (fun _ _ _ h => h) (Or.inl ⟨by rfl, ?y28⟩) HS ?r28
 case y28 =>
   intro w_ hS_
   have c_ := cell_of_row _ _ 0 _ _ _ hS_
   go_simp
   try with_reducible rfl
 simp only [Act.put, List.getElem_toArray, List.getElem_cons_succ, List.getElem_cons_zero, List.setIfInBounds_toArray, List.set_cons_succ, List.set_cons_zero]
 refine wpAnyH_take (i := 4) (v := .agg #[.int .i64 1, .int .i64 1, .int .u64 2, .int .u64 2, .slice none 0 0]) rfl (by kernel_rfl) (by kernel_rfl) (by kernel_rfl) (fun _ _ _ h => h) (Or.inl ⟨by rfl, ?y29⟩) HS ?r29
 case y29 =>
   intro w_ hS_
   go_simp
   try with_reducible rfl
 simp only [Act.put, List.getElem_toArray, List.getElem_cons_succ, List.getElem_cons_zero, List.setIfInBounds_toArray, List.set_cons_succ, List.set_cons_zero]
 refine wpAnyH_take (i := 7) (v := ?v30) rfl (by kernel_rfl) (by kernel_rfl) (by kernel_rfl) (fun _ _ _ h => h) (Or.inl ⟨by rfl, ?y30⟩) HS ?r30
 case y30 =>
   intro w_ hS_
   go_simp
   try with_reducible rfl
 simp only [Act.put, List.getElem_toArray, List.getElem_cons_succ, List.getElem_cons_zero, List.setIfInBounds_toArray, List.set_cons_succ, List.set_cons_zero]
 refine wpAnyH_take (i := 8) (v := .agg #[.int .i64 4, .int .i64 5, .int .u64 80, .int .u64 1179664, .slice none 0 0]) rfl (by kernel_rfl) (by kernel_rfl) (by kernel_rfl) (fun _ _ _ h => h) (Or.inl ⟨by rfl, ?y31⟩) HS ?r31
 case y31 =>
   intro w_ hS_
   go_simp
   try with_reducible rfl
 simp only [Act.put, List.getElem_toArray, List.getElem_cons_succ, List.getElem_cons_zero, List.setIfInBounds_toArray, List.set_cons_succ, List.set_cons_zero]
 refine wpAnyH_one (k := 5) (fuel := 4) (by kernel_rfl) rfl (by kernel_rfl) (fun K_ hK => ?_)
 refine wp_call_ex (f := 50) (R := fun v w' => v = .agg #[.int .i64 2, .int .i64 5, .int .u64 16, .int .u64 16, .slice none 0 0] ∧ Below x1.heap.size x1 w') (by kernel_rfl) ((a_sized 2 16 x1).mono (fun e w' h => (by obtain ⟨e1, e2⟩ := h; exact ⟨_, e1, rfl, e2⟩ : ∃ v, e = .returned v ∧ v = .agg #[.int .i64 2, .int .i64 5, .int .u64 16, .int .u64 16, .slice none 0 0] ∧ Below x1.heap.size x1 w'))) (fun v_ x2 hX_ => ?_)
 obtain ⟨rfl, hb_⟩ := hX_
 replace HS := keep hb_ HS
 replace hw := Below.after hw hb_
 clear hb_
 refine hK _ _ HS ?_
 simp only [Act.put, List.getElem_toArray, List.getElem_cons_succ, List.getElem_cons_zero, List.setIfInBounds_toArray, List.set_cons_succ, List.set_cons_zero]
 clear hK
 refine wpAnyH_one (k := 6) (fuel := 3) (by kernel_rfl) rfl (by kernel_rfl) (fun K_ hK => ?_)
 refine wp_call_ex (f := 50) (R := fun v w' => v = .agg #[.int .i64 3, .int .i64 5, .int .u64 60, .int .u64 60, .slice none 0 0] ∧ Below x2.heap.size x2 w') (by kernel_rfl) ((a_sized 3 60 x2).mono (fun e w' h => (by obtain ⟨e1, e2⟩ := h; exact ⟨_, e1, rfl, e2⟩ : ∃ v, e = .returned v ∧ v = .agg #[.int .i64 3, .int .i64 5, .int .u64 60, .int .u64 60, .slice none 0 0] ∧ Below x2.heap.size x2 w'))) (fun v_ x3 hX_ => ?_)
 obtain ⟨rfl, hb_⟩ := hX_
 replace HS := keep hb_ HS
 replace hw := Below.after hw hb_
 clear hb_
 refine hK _ _ HS ?_
 simp only [Act.put, List.getElem_toArray, List.getElem_cons_succ, List.getElem_cons_zero, List.setIfInBounds_toArray, List.set_cons_succ, List.set_cons_zero]
 clear hK
 refine wpAnyH_one (k := 9) (fuel := 2) (by kernel_rfl) rfl (by kernel_rfl) (fun K_ hK => ?_)
 refine wp_val_op (.slice (some ⟨x3.heap.size, 0, none⟩) 4 4) (w' := x3.alloc (.cells #[.int .i64 1, .int .i64 1, .int .u64 2, .int .u64 2, .slice none 0 0, .int .i64 2, .int .i64 5, .int .u64 16, .int .u64 16, .slice none 0 0, .int .i64 3, .int .i64 5, .int .u64 60, .int .u64 60, .slice none 0 0, .int .i64 4, .int .i64 5, .int .u64 80, .int .u64 1179664, .slice none 0 0] 99)) (by kernel_rfl) ?_
 have hBx : Bx (x3.alloc (.cells #[.int .i64 1, .int .i64 1, .int .u64 2, .int .u64 2, .slice none 0 0, .int .i64 2, .int .i64 5, .int .u64 16, .int .u64 16, .slice none 0 0, .int .i64 3, .int .i64 5, .int .u64 60, .int .u64 60, .slice none 0 0, .int .i64 4, .int .i64 5, .int .u64 80, .int .u64 1179664, .slice none 0 0] 99)) x3.heap.size #[.int .i64 1, .int .i64 1, .int .u64 2, .int .u64 2, .slice none 0 0, .int .i64 2, .int .i64 5, .int .u64 16, .int .u64 16, .slice none 0 0, .int .i64 3, .int .i64 5, .int .u64 60, .int .u64 60, .slice none 0 0, .int .i64 4, .int .i64 5, .int .u64 80, .int .u64 1179664, .slice none 0 0] := ⟨_, hp1_0 x3 _⟩
 have hb_ : Below x3.heap.size x3 (x3.alloc (.cells #[.int .i64 1, .int .i64 1, .int .u64 2, .int .u64 2, .slice none 0 0, .int .i64 2, .int .i64 5, .int .u64 16, .int .u64 16, .slice none 0 0, .int .i64 3, .int .i64 5, .int .u64 60, .int .u64 60, .slice none 0 0, .int .i64 4, .int .i64 5, .int .u64 80, .int .u64 1179664, .slice none 0 0] 99)) := (Below.refl _ _).alloc (Nat.le_refl _) _
 replace HS := keep hb_ HS
 replace hw := Below.after hw hb_
 clear hb_
 refine hK _ _ HS ?_
 simp only [Act.put, List.getElem_toArray, List.getElem_cons_succ, List.getElem_cons_zero, List.setIfInBounds_toArray, List.set_cons_succ, List.set_cons_zero]
 clear hK
 generalize x3.alloc (.cells #[.int .i64 1, .int .i64 1, .int .u64 2, .int .u64 2, .slice none 0 0, .int .i64 2, .int .i64 5, .int .u64 16, .int .u64 16, .slice none 0 0, .int .i64 3, .int .i64 5, .int .u64 60, .int .u64 60, .slice none 0 0, .int .i64 4, .int .i64 5, .int .u64 80, .int .u64 1179664, .slice none 0 0] 99) = x4 at *
 generalize x3.heap.size = gp at *
 refine wpAnyH_one (k := 10) (fuel := 1) (by kernel_rfl) rfl (by kernel_rfl) (fun K_ hK => ?_)
 have cK := (a_compiledE2 x4 gp hBx).mono (fun e w' h => (by obtain ⟨⟨q, e1, e2, e3⟩, e4⟩ := h; exact ⟨_, e1, q, rfl, e2, e3, e4⟩ : ∃ v, e = .returned v ∧ ∃ q, v = .pointer (some ⟨q, 0, none⟩) ∧ x4.heap.size ≤ q ∧ Cdc w' q (esl 2) ∧ Below x4.heap.size x4 w'))
 refine wp_call_ex (f := 49) (R := fun v w' => ∃ q, v = .pointer (some ⟨q, 0, none⟩) ∧ x4.heap.size ≤ q ∧ Cdc w' q (esl 2) ∧ Below x4.heap.size x4 w') (by kernel_rfl) cK (fun v_ x5 hX_ => ?_)
 obtain ⟨q, rfl, hq1, hq2, hb_⟩ := hX_
 have hq3 : w.heap.size ≤ q := by have := hw.size; omega
 replace HS := keep hb_ HS
 replace hw := Below.after hw hb_
 clear hb_ cK hBx hq1
 refine hK _ _ HS ?_
 simp only [Act.put, List.getElem_toArray, List.getElem_cons_succ, List.getElem_cons_zero, List.setIfInBounds_toArray, List.set_cons_succ, List.set_cons_zero]
 clear hK
 refine wpAnyH_take (i := 11) (v := ?v32) rfl (by kernel_rfl) (by kernel_rfl) (by kernel_rfl) (fun _ _ _ h => h) (Or.inl ⟨by rfl, ?y32⟩) HS ?r32
 case y32 =>
   intro w_ hS_
   go_simp
   try with_reducible rfl
 simp only [Act.put, List.getElem_toArray, List.getElem_cons_succ, List.getElem_cons_zero, List.setIfInBounds_toArray, List.set_cons_succ, List.set_cons_zero]
 refine wpAnyH_done (by kernel_rfl) ?_ _
 refine NoPanic.normal ?_
 have A1 := hide hq2
 have A2 := hide hw
 clear hq2 hw HS
 go_wp2_with (fail)
 go_ret
 exact ⟨⟨q, rfl, hq3, A1.out⟩, A2.out⟩
end Go.Proofs.YtleeadbceljfbaaGreatDoor
namespace Go.Proofs.YtleeadbceljfbaaGreatDoor
set_option maxRecDepth 100000
open Go Go.RowKit Go.Extern.Stop Go.Stop Go.Extern
theorem as_nil (t : Value) (w : World) :
   Calls Tryz.prog 40 #[.nilIface, t] w fun e w' => e = .returned (.bool false) ∧ w' = w := by
 go_enter Tryz.func40, Tryz.ntmps40
 go_wp2
 go_ret
 exact ⟨rfl, rfl⟩
theorem as_valueOf27 (t : Addr) (w : World) : (ReflectliteValue.unpack (.iface 86 (.pointer (some t)))).run Tryz.prog w
   = .ok (.agg #[.pointer (some ⟨4, 86, none⟩), .pointer (some ⟨w.heap.size, 0, none⟩), .int .u64 150]) (w.alloc (.cells #[.pointer (some t)] 86)) := by kernel_rfl
theorem as_type27 (a : Addr) (w : World) : (ReflectliteValue.methodAny (ReflectliteValue.valueError "reflectlite.Value.Type" 0) (fun t _ _ _ => ReflectliteType.toType t) #[.agg #[.pointer (some ⟨4, 86, none⟩), .pointer (some a), .int .u64 150]]).run Tryz.prog w
   = .ok (.iface 140 (.agg #[.pointer (some ⟨4, 86, none⟩)])) w := by kernel_rfl
theorem as_methodKind (h : Value) (w : World) : (Go.method 351 140 (.agg #[h]) "Kind").run Tryz.prog w = .ok (143, h) w := by kernel_rfl
theorem as_kind27 (w : World) : ((ReflectliteType.abiMethod fun t => (fun a : Nat => Value.int IntKind.u8 (a : Int)) <$> Rtype.kind t) #[.pointer (some ⟨4, 86, none⟩)]).run Tryz.prog w = .ok (.int .u8 22) w := by kernel_rfl
theorem as_kind25 (w : World) : ((ReflectliteType.abiMethod fun t => (fun a : Nat => Value.int IntKind.u8 (a : Int)) <$> Rtype.kind t) #[.pointer (some ⟨4, 83, none⟩)]).run Tryz.prog w = .ok (.int .u8 22) w := by kernel_rfl
theorem as_rlm (z : Sem Value) (f : TypeId → Addr → Nat → Nat → Sem Value) (v : Value) :
   ReflectliteValue.method z f #[v] = (do match ← ReflectliteValue.parts v with | none => z | some (t, a, fl) => f t a fl (fl % 32)) := rfl
theorem as_parts27 (a : Addr) (w : World) : (ReflectliteValue.parts (.agg #[.pointer (some ⟨4, 86, none⟩), .pointer (some a), .int .u64 150])).run Tryz.prog w = .ok (some (86, a, 150)) w := by kernel_rfl
theorem as_isNil27 (a p : Addr) (W : World) (ha : W.cell? a = some (.pointer (some p))) :
   (ReflectliteValue.method (ReflectliteValue.valueError "reflectlite.Value.IsNil" 0) ReflectliteValue.isNil #[.agg #[.pointer (some ⟨4, 86, none⟩), .pointer (some a), .int .u64 150]]).run Tryz.prog W = .ok (.bool false) W := by
 rw [as_rlm]
 simp only [Sem.run_bind, as_parts27, Result.andThen]
 simp [ReflectliteValue.isNil, loadVar, isAgg, underlying, Tryz.underlying86, ha, Result.andThen]
theorem as_methodElem (h : Value) (w : World) : (Go.method 351 140 (.agg #[h]) "Elem").run Tryz.prog w = .ok (156, .agg #[h]) w := by kernel_rfl
theorem as_methodImplements (h : Value) (w : World) : (Go.method 351 140 (.agg #[h]) "Implements").run Tryz.prog w = .ok (157, .agg #[h]) w := by kernel_rfl
theorem as_methodAssignableTo (h : Value) (w : World) : (Go.method 351 140 (.agg #[h]) "AssignableTo").run Tryz.prog w = .ok (154, .agg #[h]) w := by kernel_rfl
theorem as_elem27 (w : World) : (ReflectliteType.method ReflectliteType.elem #[.agg #[.pointer (some ⟨4, 86, none⟩)]]).run Tryz.prog w = .ok (.iface 140 (.agg #[.pointer (some ⟨4, 83, none⟩)])) w := by kernel_rfl
theorem as_implements25 (w : World) : (ReflectliteType.relation "Implements" ReflectliteType.implements_ #[.agg #[.pointer (some ⟨4, 83, none⟩)], .iface 140 (.agg #[.pointer (some ⟨4, 40, none⟩)])]).run Tryz.prog w = .ok (.bool true) w := by kernel_rfl
theorem as_typeOf25 (v : Value) (w : World) : (ReflectliteType.typeOf #[.iface 83 v]).run Tryz.prog w = .ok (.iface 140 (.agg #[.pointer (some ⟨4, 83, none⟩)])) w := by kernel_rfl
theorem as_assignable25 (w : World) : (ReflectliteType.relation "AssignableTo" ReflectliteType.assignableTo #[.agg #[.pointer (some ⟨4, 83, none⟩)], .iface 140 (.agg #[.pointer (some ⟨4, 83, none⟩)])]).run Tryz.prog w = .ok (.bool true) w := by kernel_rfl
theorem as_valueOf25 (e : Addr) (w : World) : (ReflectliteValue.unpack (.iface 83 (.pointer (some e)))).run Tryz.prog w
   = .ok (.agg #[.pointer (some ⟨4, 83, none⟩), .pointer (some ⟨w.heap.size, 0, none⟩), .int .u64 150]) (w.alloc (.cells #[.pointer (some e)] 83)) := by kernel_rfl
theorem as_elemOf27 (w : World) : (Rtype.elem? 86).run Tryz.prog w = .ok (some 83) w := by kernel_rfl
theorem as_mk25 (p : Addr) (w : World) : (ReflectliteValue.mk 83 p ReflectliteValue.flagAddr).run Tryz.prog w = .ok (.agg #[.pointer (some ⟨4, 83, none⟩), .pointer (some p), .int .u64 406]) w := by kernel_rfl
theorem as_elemV27 (a p : Addr) (W : World) (ha : W.cell? a = some (.pointer (some p))) :
   (ReflectliteValue.method (ReflectliteValue.valueError "reflectlite.Value.Elem" 0) ReflectliteValue.elem #[.agg #[.pointer (some ⟨4, 86, none⟩), .pointer (some a), .int .u64 150]]).run Tryz.prog W
     = .ok (.agg #[.pointer (some ⟨4, 83, none⟩), .pointer (some p), .int .u64 406]) W := by
 rw [as_rlm]
 simp only [Sem.run_bind, as_parts27, Result.andThen]
 simp [ReflectliteValue.elem, loadVar, isAgg, underlying, Tryz.underlying86, ha, Result.andThen, as_elemOf27, as_mk25]
theorem as_rls (v x : Value) : ReflectliteValue.set #[v, x] = (do
   let (some (dst, a, fl), some (src, b, _)) := (← ReflectliteValue.parts v, ← ReflectliteValue.parts x)
     | unsupported (.noEntry "extern/(internal/reflectlite.Value).Set.zeroValue")
   if fl / ReflectliteValue.flagAddr % 2 == 0 then unsupported (.noEntry "extern/(internal/reflectlite.Value).Set.unaddressable")
   let val ← loadVar src b
   if ← Rtype.directlyAssignable dst src then storeVar dst a val
   else if ← Rtype.implements dst src then
     if (← Rtype.kind src) == 20 then
       match val with
       | .nilIface => unsupported (.noEntry "extern/reflectlite: a nil value of one interface type handed on as a value of another")
       | _ => storeVar dst a val
     else storeVar dst a (.iface src val)
   else panicString ("reflectlite.Set: value of type " ++ (← Rtype.spelt src) ++ " is not assignable to type " ++ (← Rtype.spelt dst))
   pure (.tuple #[])) := rfl
theorem as_parts25a (a : Addr) (w : World) : (ReflectliteValue.parts (.agg #[.pointer (some ⟨4, 83, none⟩), .pointer (some a), .int .u64 406])).run Tryz.prog w = .ok (some (83, a, 406)) w := by kernel_rfl
theorem as_parts25 (a : Addr) (w : World) : (ReflectliteValue.parts (.agg #[.pointer (some ⟨4, 83, none⟩), .pointer (some a), .int .u64 150])).run Tryz.prog w = .ok (some (83, a, 150)) w := by kernel_rfl
theorem as_direct25 (w : World) : (Rtype.directlyAssignable 83 83).run Tryz.prog w = .ok true w := by kernel_rfl
theorem as_size25 (w : World) : (sizeOf 83).run Tryz.prog w = .ok 1 w := by kernel_rfl
theorem as_set25 (ta b e : Addr) (old : Value) (W : World) (hb : W.cell? b = some (.pointer (some e))) (ht : W.cell? ta = some old) (hf : W.frozen? ta = false) :
   (ReflectliteValue.set #[.agg #[.pointer (some ⟨4, 83, none⟩), .pointer (some ta), .int .u64 406], .agg #[.pointer (some ⟨4, 83, none⟩), .pointer (some b), .int .u64 150]]).run Tryz.prog W
     = .ok (.tuple #[]) (W.setCell ta (.pointer (some e))) := by
 rw [as_rls]
 simp only [Sem.run_bind, as_parts25a, as_parts25, Result.andThen]
 simp [ReflectliteValue.flagAddr, loadVar, isAgg, underlying, Tryz.underlying83, hb, Result.andThen, as_direct25, storeVar, Value.cells, storeCells, Addr.add]
 rw [run_store Tryz.prog W ta _ _ (by rfl)]
 simp [ht, hf]
set_option maxHeartbeats 4000000 in
theorem as_hit (e t : Addr) (old : Value) (w : World) (hg : w.cell? ⟨0, 0, none⟩ = some (.iface 140 (.agg #[.pointer (some ⟨4, 40, none⟩)]))) (ht0 : w.cell? t = some old) (hf0 : w.frozen? t = false) :
   Calls Tryz.prog 40 #[.iface 83 (.pointer (some e)), .iface 86 (.pointer (some t))] w fun ev w' => ev = .returned (.bool true) ∧ w' = ((((w.alloc (.cells #[.pointer (some t)] 86)).alloc (.cells #[.pointer (some ⟨4, 86, none⟩), .pointer (some ⟨w.heap.size, 0, none⟩), .int .u64 150] 112)).alloc (.cells #[.pointer (some ⟨4, 86, none⟩), .pointer (some ⟨w.heap.size, 0, none⟩), .int .u64 150] 112)).alloc (.cells #[.pointer (some e)] 83)).setCell t (.pointer (some e)) := by
 have h6 := @run_callFunc_extern Tryz.prog 56 _ (fun args => ReflectliteValue.unpack (args.getD 0 (.tuple #[]))) Tryz.func56 (by kernel_rfl) (by kernel_rfl) (by kernel_rfl) (by kernel_rfl)
 have h7 := @run_callFunc_extern Tryz.prog 57 _ (ReflectliteValue.methodAny (ReflectliteValue.valueError "reflectlite.Value.Type" 0) (fun t _ _ _ => ReflectliteType.toType t)) Tryz.func57 (by kernel_rfl) (by kernel_rfl) (by kernel_rfl) (by kernel_rfl)
 have h8 := @run_callFunc_extern Tryz.prog 58 _ (ReflectliteValue.method (ReflectliteValue.valueError "reflectlite.Value.IsNil" 0) ReflectliteValue.isNil) Tryz.func58 (by kernel_rfl) (by kernel_rfl) (by kernel_rfl) (by kernel_rfl)
 have h27 := @run_callFunc_extern Tryz.prog 143 _ (ReflectliteType.abiMethod fun t => do pure (.int .u8 (← Rtype.kind t))) Tryz.func143 (by kernel_rfl) (by kernel_rfl) (by kernel_rfl) (by kernel_rfl)
 have h37 := @run_callFunc_extern Tryz.prog 156 _ (ReflectliteType.method ReflectliteType.elem) Tryz.func156 (by kernel_rfl) (by kernel_rfl) (by kernel_rfl) (by kernel_rfl)
 have h38 := @run_callFunc_extern Tryz.prog 157 _ (ReflectliteType.relation "Implements" ReflectliteType.implements_) Tryz.func157 (by kernel_rfl) (by kernel_rfl) (by kernel_rfl) (by kernel_rfl)
 have h10 := @run_callFunc_extern Tryz.prog 72 _ ReflectliteType.typeOf Tryz.func72 (by kernel_rfl) (by kernel_rfl) (by kernel_rfl) (by kernel_rfl)
 have h35 := @run_callFunc_extern Tryz.prog 154 _ (ReflectliteType.relation "AssignableTo" ReflectliteType.assignableTo) Tryz.func154 (by kernel_rfl) (by kernel_rfl) (by kernel_rfl) (by kernel_rfl)
 have h11 := @run_callFunc_extern Tryz.prog 73 _ (ReflectliteValue.method (ReflectliteValue.valueError "reflectlite.Value.Elem" 0) ReflectliteValue.elem) Tryz.func73 (by kernel_rfl) (by kernel_rfl) (by kernel_rfl) (by kernel_rfl)
 have h12 := @run_callFunc_extern Tryz.prog 74 _ ReflectliteValue.set Tryz.func74 (by kernel_rfl) (by kernel_rfl) (by kernel_rfl) (by kernel_rfl)
 have tO := as_typeOf25
 have mA := as_methodAssignableTo
 have a25 := as_assignable25
 have v25 := as_valueOf25
 have f6 := as_valueOf27
 have f7 := as_type27
 have mK := as_methodKind
 have mE := as_methodElem
 have mI := as_methodImplements
 have k27 := as_kind27
 have k25 := as_kind25
 have e27 := as_elem27
 have i25 := as_implements25
 have n8 := as_isNil27 ⟨w.heap.size, 0, none⟩ t ((w.alloc (.cells #[.pointer (some t)] 86)).alloc (.cells #[.pointer (some ⟨4, 86, none⟩), .pointer (some ⟨w.heap.size, 0, none⟩), .int .u64 150] 112)) (by simp)
 have hlt : 0 < w.heap.size := by
   rcases Nat.lt_or_ge 0 w.heap.size with h | h
   · exact h
   · simp [World.cell?, Array.getElem?_eq_none h] at hg
 have hg2 : ((w.alloc (.cells #[.pointer (some t)] 86)).alloc (.cells #[.pointer (some ⟨4, 86, none⟩), .pointer (some ⟨w.heap.size, 0, none⟩), .int .u64 150] 112)).cell? ⟨0, 0, none⟩ = some (.iface 140 (.agg #[.pointer (some ⟨4, 40, none⟩)])) := by
   rw [World.cell?_alloc_lt _ _ ⟨0, 0, none⟩ (by simp <;> omega), World.cell?_alloc_lt _ _ ⟨0, 0, none⟩ hlt]; exact hg
 have htl : t.block < w.heap.size := by
   rcases Nat.lt_or_ge t.block w.heap.size with h | h
   · exact h
   · simp [World.cell?, Array.getElem?_eq_none h] at ht0
 have el := as_elemV27 ⟨w.heap.size, 0, none⟩ t (((w.alloc (.cells #[.pointer (some t)] 86)).alloc (.cells #[.pointer (some ⟨4, 86, none⟩), .pointer (some ⟨w.heap.size, 0, none⟩), .int .u64 150] 112)).alloc (.cells #[.pointer (some ⟨4, 86, none⟩), .pointer (some ⟨w.heap.size, 0, none⟩), .int .u64 150] 112)) (by rw [World.cell?_alloc_lt _ _ ⟨w.heap.size, 0, none⟩ (by simp; omega)]; simp)
 have st := as_set25 t ⟨w.heap.size + 1 + 1 + 1, 0, none⟩ e old ((((w.alloc (.cells #[.pointer (some t)] 86)).alloc (.cells #[.pointer (some ⟨4, 86, none⟩), .pointer (some ⟨w.heap.size, 0, none⟩), .int .u64 150] 112)).alloc (.cells #[.pointer (some ⟨4, 86, none⟩), .pointer (some ⟨w.heap.size, 0, none⟩), .int .u64 150] 112)).alloc (.cells #[.pointer (some e)] 83))
   (by rw [World.cell?_alloc_at _ _ _ _ (by simp)]; rfl)
   (by rw [World.cell?_alloc_lt _ _ t (by simp; omega), World.cell?_alloc_lt _ _ t (by simp; omega), World.cell?_alloc_lt _ _ t (by simp; omega), World.cell?_alloc_lt _ _ t htl]; exact ht0)
   (by rw [World.frozen?_alloc_old _ _ t (by simp; omega), World.frozen?_alloc_old _ _ t (by simp; omega), World.frozen?_alloc_old _ _ t (by simp; omega), World.frozen?_alloc_old _ _ t (Nat.ne_of_lt htl)]; exact hf0)
 go_enter Tryz.func40, Tryz.ntmps40
 go_wp2
 refine wp_loop_rounds 1 ?_
 rw [rounds_succ]
 go_wp2
 go_ret
 exact ⟨rfl, rfl⟩
def Ety (w : World) : Prop := w.cell? ⟨0, 0, none⟩ = some (.iface 140 (.agg #[.pointer (some ⟨4, 40, none⟩)]))
end Go.Proofs.YtleeadbceljfbaaGreatDoor
namespace Go.Proofs.YtleeadbceljfbaaGreatDoor
set_option maxRecDepth 100000
open Go Go.RowKit Go.Sort
attribute [local go_sem] setCell_drewN alloc_drewN
def bsl : List Slt := [.mk 1 5 32 32 [], .mk 2 5 32 32 [], .mk 3 4 0 0 [], .mk 4 5 32 32 []]
def bcs : Array Value := #[.int .i64 1, .int .i64 5, .int .u64 32, .int .u64 32, .slice none 0 0, .int .i64 2, .int .i64 5, .int .u64 32, .int .u64 32, .slice none 0 0, .int .i64 3, .int .i64 4, .int .u64 0, .int .u64 0, .slice none 0 0, .int .i64 4, .int .i64 5, .int .u64 32, .int .u64 32, .slice none 0 0]
theorem bsl_vld : vld bsl = 0 := by
 have h1 : ¬ lft bsl 1 256 < 0 := by simp [lft, bsl, lfL, fitN, fitB]
 have e10 : (en 10).length = 1 := by rw [en_lo (by decide)]; rfl
 have e32 : (en 32).length = 1 := by rw [en_lo (by decide)]; rfl
 have e18 : (en 18).length = 1 := by rw [en_lo (by decide)]; rfl
 have e24 : (en 24).length = 1 := by rw [en_lo (by decide)]; rfl
 have e34 : (en 34).length = 1 := by rw [en_lo (by decide)]; rfl
 have h2 : (spL bsl 0 0).2 = 104 := by simp [bsl, spL, slsz, hdl, tyOf, frm, cpd, e10, e32, e18, e24, e34]
 rw [vld, if_neg h1, if_neg (by rw [h2]; decide)]
theorem bsl_slo {W : World} {g : Nat} (h : Bx W g bcs) : Slo W (.slice (some ⟨g, 0, none⟩) 4 4) bsl := by
 have hlt := h.lt
 refine Slo.mk (some ⟨g, 0, none⟩) 4 bsl [.slice none 0 0, .slice none 0 0, .slice none 0 0, .slice none 0 0] (by simp [bsl]) (by simp [bsl]) (fun e => by cases e) (fun i hi => ⟨g, 0, rfl, hlt, ?_, ?_⟩) (fun i hi => ?_)
 · obtain ⟨T, h⟩ := h
   intro j v hv
   rw [cell_of_row _ _ _ _ _ _ h]
   have hj : j < 5 := by have := (List.getElem?_eq_some_iff.1 hv).1; simpa [srow] using this
   have hi3 : i < 4 := hi
   rcases (by omega : i = 0 ∨ i = 1 ∨ i = 2 ∨ i = 3) with rfl | rfl | rfl | rfl <;> rcases (by omega : j = 0 ∨ j = 1 ∨ j = 2 ∨ j = 3 ∨ j = 4) with rfl | rfl | rfl | rfl | rfl <;> exact hv
 · have hi3 : i < 4 := hi
   rcases (by omega : i = 0 ∨ i = 1 ∨ i = 2 ∨ i = 3) with rfl | rfl | rfl | rfl <;> (unfold Sok; decide)
 · have hi3 : i < 4 := hi
   rcases (by omega : i = 0 ∨ i = 1 ∨ i = 2 ∨ i = 3) with rfl | rfl | rfl | rfl <;> exact Slo.mk none 0 [] [] (by simp) (by simp) (fun _ => rfl) (fun i hi => by simp at hi) (fun i hi => by simp at hi)
theorem bsl_flat : ∀ i, i < bsl.length → Fla (gs bsl i) := fun i hi => by
 have hi3 : i < 4 := hi
 rcases (by omega : i = 0 ∨ i = 1 ∨ i = 2 ∨ i = 3) with rfl | rfl | rfl | rfl <;> (unfold Fla; decide)
theorem infoSlB : (Tryz.prog.info? 99).map (·.size) = some 5 := by kernel_rfl
end Go.Proofs.YtleeadbceljfbaaGreatDoor
