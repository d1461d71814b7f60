import Derived.Test.YtgfeacnhdlgpoaaDoorProg
import Derived.WalkKit
import Derived.WalkSpells
import Derived.WalkLawsBesides
import Derived.Lib.QuietBelow
import Derived.BigQuiet
import Derived.OrdersHeld
import Derived.OwnWalk
import Derived.Deep.RegionHeld3
import Derived.Deep.Cut
import Derived.Deep.CutRange
import Derived.Test.YtgfeacnhdlgpoaaDoorTre
namespace Go.Proofs.YtgfeacnhdlgpoaaDoor
set_option maxRecDepth 100000
open Go Go.RowKit Go.Sort
attribute [local go_sem] setCell_drewN alloc_drewN
theorem e_bslK {o : Oper} {a : Act} (x : Operand) (ho : o.op = .buildSlice 31 1 #[(0, x)]) (key : List Int) (hkl : key.length = 32) (hx : a.eval x = .agg (irow .u8 key)) (w : World) : (execOp a.eval o).run Tryd.prog w = .ok (.value (.slice (some ⟨w.heap.size, 0, none⟩) 1 1)) (w.alloc (.cells (irow .u8 key) 24)) := by
  have hr := run_bslK key hkl w
  simp [execOp, ho, hx, hr, Result.andThen]
theorem OwnK.empty (W : World) {b : Nat} (hb : b ≤ W.heap.size) : OwnK (W.alloc (.cells #[] 24)) b (.slice (some ⟨W.heap.size, 0, none⟩) 0 0) [] := ⟨rfl, .inr ⟨W.heap.size, 0, #[], rfl, hb, hp1_0 W _, Nat.le_refl _, by decide, rfl, rfl⟩⟩
theorem lng_lt : ∀ (n i : Nat), lng n i ≤ n := by
  intro n
  induction n using Nat.strongRecOn with
  | ind n ih =>
    intro i
    by_cases h : n < 2
    · rw [lng_one h]; omega
    · have a := ct_lt h
      have b := ct_pos n
      by_cases hi : i < ctN n
      · have := ih _ a i; rw [lng_lo h hi]; omega
      · have := ih (n - ctN n) (by omega) (i - ctN n); rw [lng_hi h hi]; omega
theorem kys_lt : ∀ (n m : Nat) (wh : Bool), 1 ≤ m → kys n m wh ≤ n + 1 := by
  intro n
  induction n using Nat.strongRecOn with
  | ind n ih =>
    intro m wh hm
    by_cases h : n ≤ m
    · rw [kys_end h]; cases wh <;> simp
    · have a := ct_lt (n := n) (by omega)
      have b := ct_pos n
      by_cases hi : m ≤ ctN n
      · have := ih _ a m wh hm; rw [kys_lo hm (by omega) hi]; omega
      · have := ih (n - ctN n) (by omega) (m - ctN n) false (by omega); rw [kys_hi hm (by omega) hi]; omega
set_option maxRecDepth 100000 in
set_option maxHeartbeats 8000000 in
theorem a_path1 (w : World) (ao : Option Addr) (cap : Nat) (i : Value) : Calls Tryd.prog 57 #[.slice ao 1 cap, i] w fun e w' => ∃ v, e = .returned v ∧ OwnK w' w.heap.size v [] ∧ Below w.heap.size w w' := by
  have hw : Below w.heap.size w w := Below.refl _ _
  go_enter Tryd.func57, Tryd.ntmps57
  go_wp2_with (fail)
  go_ret
  exact ⟨_, rfl, OwnK.nil _ _, hw⟩
set_option maxRecDepth 100000 in
set_option maxHeartbeats 8000000 in
theorem a_pathlo {R : List Int} {P : List (List Int)} (hR : R.length = 32) (hP : P.length ≤ 4398046511000) (w : World) (ao : Option Addr) (n cap k i : Nat) (hn : 2 ≤ n) (hm : n ≤ 4398046511000) (hc : n ≤ cap) (hk : k < n) (hz : ao = none → cap = 0) (hi : i < k) (_hin : i < n) (cC : Gives 44 #[.int .i64 (n : Int)] (.int .i64 (k : Int))) (cP : (∀ W, Below w.heap.size w W → Calls Tryd.prog 57 #[.slice ao k cap, .int .i64 (i : Int)] W fun e w' => ∃ v, e = .returned v ∧ OwnK w' W.heap.size v P ∧ Below W.heap.size W w')) (cR : (∀ W, Below w.heap.size w W → Calls Tryd.prog 18 #[sltl ao n cap k] W fun e w' => e = .returned (.agg (irow .u8 R)) ∧ Below W.heap.size W w')) : Calls Tryd.prog 57 #[.slice ao n cap, .int .i64 (i : Int)] w fun e w' => ∃ v, e = .returned v ∧ OwnK w' w.heap.size v (P ++ [R]) ∧ Below w.heap.size w w' := by
  have d1 : decide ((n : Int) = 1) = false := by simp; omega
  have d2 : decide ((i : Int) < (k : Int)) = true := by simp; omega
  have hw : Below w.heap.size w w := Below.refl _ _
  go_enter Tryd.func57, Tryd.ntmps57
  go_wp2_with (fail)
  refine (cC.at _).mono ?_
  rintro e_ w1 ⟨rfl, hb⟩
  replace hw := Below.after hw hb
  clear hb
  clear cC
  go_wp2_with (fail)
  have hb : Below w1.heap.size w1 w1.drew := below_drN (Below.refl _ _) 1
  replace hw := Below.after hw hb
  clear hb
  refine wp_region_noPanic ?_
  refine wp_region_held (S := fun _ => True) (by kernel_rfl) ?_
  change wpAnyH _ _ _ _ _ _ _ _ (World.drew _)
  generalize w1.drew = wd9 at *
  refine wpAnyH_take (i := 0) (v := ?v10) rfl (by kernel_rfl) (by kernel_rfl) (by kernel_rfl) (fun _ _ _ h => h) (Or.inl ⟨by rfl, ?y10⟩) (trivial) ?r10
  case y10 =>
    intro w_ hS_
    go_simp
    try with_reducible rfl
  simp only [Act.put, List.getElem_toArray, List.getElem_cons_zero, List.setIfInBounds_toArray, List.set_cons_succ, List.set_cons_zero]
  refine wpAnyH_take (i := 1) (v := ?v11) rfl (by kernel_rfl) (by kernel_rfl) (by kernel_rfl) (fun _ _ _ h => h) (Or.inl ⟨by rfl, ?y11⟩) (trivial) ?r11
  case y11 =>
    intro w_ hS_
    go_simp
    try with_reducible rfl
  simp only [Act.put, List.getElem_toArray, List.getElem_cons_succ, List.getElem_cons_zero, List.setIfInBounds_toArray, List.set_cons_succ, List.set_cons_zero]
  refine wpAnyH_take (i := 2) (v := .slice ao k cap) rfl (by kernel_rfl) (by kernel_rfl) (by kernel_rfl) (fun _ _ _ h => h) (Or.inl ⟨by rfl, ?y12⟩) (trivial) ?r12
  case y12 =>
    intro w_ hS_
    simp only [List.getElem_toArray, List.getElem_cons_succ, List.getElem_cons_zero]
    exact e_slice _ _ _ _ rfl _ (slk_head ao n cap k (by omega) hz _)
  simp only [Act.put, List.getElem_toArray, List.getElem_cons_succ, List.getElem_cons_zero, List.setIfInBounds_toArray, List.set_cons_succ, List.set_cons_zero]
  refine wpAnyH_take (i := 3) (v := ?v13) rfl (by kernel_rfl) (by kernel_rfl) (by kernel_rfl) (fun _ _ _ h => h) (Or.inl ⟨by rfl, ?y13⟩) (trivial) ?r13
  case y13 =>
    intro w_ hS_
    go_simp
    try with_reducible rfl
  simp only [Act.put, List.getElem_toArray, List.getElem_cons_succ, List.getElem_cons_zero, List.setIfInBounds_toArray, List.set_cons_succ, List.set_cons_zero]
  refine wpAnyH_take (i := 5) (v := ?v14) rfl (by kernel_rfl) (by kernel_rfl) (by kernel_rfl) (fun _ _ _ h => h) (Or.inl ⟨by rfl, ?y14⟩) (trivial) ?r14
  case y14 =>
    intro w_ hS_
    go_simp
    try with_reducible rfl
  simp only [Act.put, List.getElem_toArray, List.getElem_cons_succ, List.getElem_cons_zero, List.setIfInBounds_toArray, List.set_cons_succ, List.set_cons_zero]
  refine wpAnyH_take (i := 6) (v := ?v15) rfl (by kernel_rfl) (by kernel_rfl) (by kernel_rfl) (fun _ _ _ h => h) (Or.inl ⟨by rfl, ?y15⟩) (trivial) ?r15
  case y15 =>
    intro w_ hS_
    go_simp
    try with_reducible rfl
  simp only [Act.put, List.getElem_toArray, List.getElem_cons_succ, List.getElem_cons_zero, List.setIfInBounds_toArray, List.set_cons_succ, List.set_cons_zero]
  refine wpAnyH_take (i := 7) (v := sltl ao n cap k) rfl (by kernel_rfl) (by kernel_rfl) (by kernel_rfl) (fun _ _ _ h => h) (Or.inl ⟨by rfl, ?y16⟩) (trivial) ?r16
  case y16 =>
    intro w_ hS_
    simp only [List.getElem_toArray, List.getElem_cons_succ, List.getElem_cons_zero]
    exact e_slice _ _ _ _ rfl _ (slk_tail ao n cap k (by omega) _)
  simp only [Act.put, List.getElem_toArray, List.getElem_cons_succ, List.getElem_cons_zero, List.setIfInBounds_toArray, List.set_cons_succ, List.set_cons_zero]
  have hs0 := hw.size
  refine eH_one (k := 4) (fuel := 4) (by kernel_rfl) rfl (by kernel_rfl) (fun K_ hK_ => ?_)
  refine wp_call_ex (f := 57) (by kernel_rfl) (cP _ hw) (fun v_ wq17 hX_ => ?_)
  obtain ⟨hO, hb⟩ := hX_
  replace hw := Below.after hw hb
  clear hb
  refine hK_ _ _ (trivial) ?_
  simp only [Act.put, List.getElem_toArray, List.getElem_cons_succ, List.getElem_cons_zero, List.setIfInBounds_toArray, List.set_cons_succ, List.set_cons_zero]
  clear hK_
  replace hO := hO.down hs0
  refine eH_one (k := 8) (fuel := 3) (by kernel_rfl) rfl (by kernel_rfl) (fun K_ hK_ => ?_)
  refine wp_call_ex (f := 18) (by kernel_rfl) (ex1e (cR _ hw)) (fun v_ wq18 hX_ => ?_)
  obtain ⟨rfl, hb⟩ := hX_
  replace hO := hO.keep hb
  replace hw := Below.after hw hb
  clear hb
  refine hK_ _ _ (trivial) ?_
  simp only [Act.put, List.getElem_toArray, List.getElem_cons_succ, List.getElem_cons_zero, List.setIfInBounds_toArray, List.set_cons_succ, List.set_cons_zero]
  clear hK_
  refine eH_one (k := 9) (fuel := 2) (by kernel_rfl) rfl (by kernel_rfl) (fun K_ hK_ => ?_)
  refine e_world_op (.slice (some ⟨wq18.heap.size, 0, none⟩) 1 1) (wq18.alloc (.cells (irow .u8 R) 24)) (e_bslK _ rfl R hR rfl _) ?_
  have hb : Below wq18.heap.size wq18 (wq18.alloc (.cells (irow .u8 R) 24)) := (Below.refl _ _).alloc (Nat.le_refl _) _
  have rg19 := hp1_0 wq18 (.cells (irow .u8 R) 24)
  have sz_g19 := hw.size
  replace hO := hO.keep hb
  replace hw := Below.after hw hb
  clear hb
  refine hK_ _ _ (trivial) ?_
  simp only [Act.put, List.getElem_toArray, List.getElem_cons_succ, List.getElem_cons_zero, List.setIfInBounds_toArray, List.set_cons_succ, List.set_cons_zero]
  clear hK_
  generalize (wq18.alloc (.cells (irow .u8 R) 24)) = wq19 at *
  generalize wq18.heap.size = g19 at *
  refine eH_one (k := 10) (fuel := 1) (by kernel_rfl) rfl (by kernel_rfl) (fun K_ hK_ => ?_)
  refine wp_append_K _ _ rfl w.heap.size _ P rfl hO g19 R hR rfl rg19 hP hw.size (fun v' w' h1 h2 _ => ?_)
  replace hw := hw.grown h2 hw.size (fun k e => (hO.lt k e).1)
  refine hK_ _ _ (trivial) ?_
  simp only [Act.put, List.getElem_toArray, List.getElem_cons_succ, List.getElem_cons_zero, List.setIfInBounds_toArray, List.set_cons_succ, List.set_cons_zero]
  clear hK_
  refine wpAnyH_take (i := 11) (v := ?v20) rfl (by kernel_rfl) (by kernel_rfl) (by kernel_rfl) (fun _ _ _ h => h) (Or.inl ⟨by rfl, ?y20⟩) (trivial) ?r20
  case y20 =>
    intro w_ hS_
    go_simp
    try with_reducible rfl
  simp only [Act.put, List.getElem_toArray, List.getElem_cons_succ, List.getElem_cons_zero, List.setIfInBounds_toArray, List.set_cons_succ, List.set_cons_zero]
  refine wpAnyH_done (by kernel_rfl) ?_ _
  refine NoPanic.normal ?_
  go_wp2_with (fail)
  go_ret
  exact ⟨_, rfl, h1, hw⟩
set_option maxRecDepth 100000 in
set_option maxHeartbeats 8000000 in
theorem a_pathhi {R : List Int} {P : List (List Int)} (hR : R.length = 32) (hP : P.length ≤ 4398046511000) (w : World) (ao : Option Addr) (n cap k i : Nat) (hn : 2 ≤ n) (hm : n ≤ 4398046511000) (hc : n ≤ cap) (hk : k < n) (hz : ao = none → cap = 0) (hi : ¬ i < k) (hin : i < n) (cC : Gives 44 #[.int .i64 (n : Int)] (.int .i64 (k : Int))) (cP : (∀ W, Below w.heap.size w W → Calls Tryd.prog 57 #[sltl ao n cap k, .int .i64 ((i : Int) - (k : Int))] W fun e w' => ∃ v, e = .returned v ∧ OwnK w' W.heap.size v P ∧ Below W.heap.size W w')) (cR : (∀ W, Below w.heap.size w W → Calls Tryd.prog 18 #[.slice ao k cap] W fun e w' => e = .returned (.agg (irow .u8 R)) ∧ Below W.heap.size W w')) : Calls Tryd.prog 57 #[.slice ao n cap, .int .i64 (i : Int)] w fun e w' => ∃ v, e = .returned v ∧ OwnK w' w.heap.size v (P ++ [R]) ∧ Below w.heap.size w w' := by
  have d1 : decide ((n : Int) = 1) = false := by simp; omega
  have d2 : decide ((i : Int) < (k : Int)) = false := by simp; omega
  have q1 : IntKind.i64.wrap ((i : Int) - (k : Int)) = (i : Int) - (k : Int) := by rw [IntKind.wrap_i64]; omega
  have hw : Below w.heap.size w w := Below.refl _ _
  go_enter Tryd.func57, Tryd.ntmps57
  go_wp2_with (fail)
  refine (cC.at _).mono ?_
  rintro e_ w1 ⟨rfl, hb⟩
  replace hw := Below.after hw hb
  clear hb
  clear cC
  go_wp2_with (fail)
  have hb : Below w1.heap.size w1 w1.drew := below_drN (Below.refl _ _) 1
  replace hw := Below.after hw hb
  clear hb
  refine wp_region_noPanic ?_
  refine wp_region_held (S := fun _ => True) (by kernel_rfl) ?_
  change wpAnyH _ _ _ _ _ _ _ _ (World.drew _)
  generalize w1.drew = wd21 at *
  refine wpAnyH_take (i := 0) (v := ?v22) rfl (by kernel_rfl) (by kernel_rfl) (by kernel_rfl) (fun _ _ _ h => h) (Or.inl ⟨by rfl, ?y22⟩) (trivial) ?r22
  case y22 =>
    intro w_ hS_
    go_simp
    try with_reducible rfl
  simp only [Act.put, List.getElem_toArray, List.getElem_cons_zero, List.setIfInBounds_toArray, List.set_cons_succ, List.set_cons_zero]
  refine wpAnyH_take (i := 1) (v := ?v23) rfl (by kernel_rfl) (by kernel_rfl) (by kernel_rfl) (fun _ _ _ h => h) (Or.inl ⟨by rfl, ?y23⟩) (trivial) ?r23
  case y23 =>
    intro w_ hS_
    go_simp
    try with_reducible rfl
  simp only [Act.put, List.getElem_toArray, List.getElem_cons_succ, List.getElem_cons_zero, List.setIfInBounds_toArray, List.set_cons_succ, List.set_cons_zero]
  refine wpAnyH_take (i := 2) (v := sltl ao n cap k) rfl (by kernel_rfl) (by kernel_rfl) (by kernel_rfl) (fun _ _ _ h => h) (Or.inl ⟨by rfl, ?y24⟩) (trivial) ?r24
  case y24 =>
    intro w_ hS_
    simp only [List.getElem_toArray, List.getElem_cons_succ, List.getElem_cons_zero]
    exact e_slice _ _ _ _ rfl _ (slk_tail ao n cap k (by omega) _)
  simp only [Act.put, List.getElem_toArray, List.getElem_cons_succ, List.getElem_cons_zero, List.setIfInBounds_toArray, List.set_cons_succ, List.set_cons_zero]
  refine wpAnyH_take (i := 3) (v := ?v25) rfl (by kernel_rfl) (by kernel_rfl) (by kernel_rfl) (fun _ _ _ h => h) (Or.inl ⟨by rfl, ?y25⟩) (trivial) ?r25
  case y25 =>
    intro w_ hS_
    go_simp
    try with_reducible rfl
  simp only [Act.put, List.getElem_toArray, List.getElem_cons_succ, List.getElem_cons_zero, List.setIfInBounds_toArray, List.set_cons_succ, List.set_cons_zero]
  refine wpAnyH_take (i := 4) (v := ?v26) rfl (by kernel_rfl) (by kernel_rfl) (by kernel_rfl) (fun _ _ _ h => h) (Or.inl ⟨by rfl, ?y26⟩) (trivial) ?r26
  case y26 =>
    intro w_ hS_
    go_simp
    try with_reducible rfl
  simp only [Act.put, List.getElem_toArray, List.getElem_cons_succ, List.getElem_cons_zero, List.setIfInBounds_toArray, List.set_cons_succ, List.set_cons_zero]
  refine wpAnyH_take (i := 5) (v := .int .i64 ((i : Int) - (k : Int))) rfl (by kernel_rfl) (by kernel_rfl) (by kernel_rfl) (fun _ _ _ h => h) (Or.inl ⟨by rfl, ?y27⟩) (trivial) ?r27
  case y27 =>
    intro w_ hS_
    first | (go_simp; done) | (go_simp; exact q1)
  simp only [Act.put, List.getElem_toArray, List.getElem_cons_succ, List.getElem_cons_zero, List.setIfInBounds_toArray, List.set_cons_succ, List.set_cons_zero]
  refine wpAnyH_take (i := 7) (v := ?v28) rfl (by kernel_rfl) (by kernel_rfl) (by kernel_rfl) (fun _ _ _ h => h) (Or.inl ⟨by rfl, ?y28⟩) (trivial) ?r28
  case y28 =>
    intro w_ hS_
    go_simp
    try with_reducible rfl
  simp only [Act.put, List.getElem_toArray, List.getElem_cons_succ, List.getElem_cons_zero, List.setIfInBounds_toArray, List.set_cons_succ, List.set_cons_zero]
  refine wpAnyH_take (i := 8) (v := ?v29) rfl (by kernel_rfl) (by kernel_rfl) (by kernel_rfl) (fun _ _ _ h => h) (Or.inl ⟨by rfl, ?y29⟩) (trivial) ?r29
  case y29 =>
    intro w_ hS_
    go_simp
    try with_reducible rfl
  simp only [Act.put, List.getElem_toArray, List.getElem_cons_succ, List.getElem_cons_zero, List.setIfInBounds_toArray, List.set_cons_succ, List.set_cons_zero]
  refine wpAnyH_take (i := 9) (v := .slice ao k cap) rfl (by kernel_rfl) (by kernel_rfl) (by kernel_rfl) (fun _ _ _ h => h) (Or.inl ⟨by rfl, ?y30⟩) (trivial) ?r30
  case y30 =>
    intro w_ hS_
    simp only [List.getElem_toArray, List.getElem_cons_succ, List.getElem_cons_zero]
    exact e_slice _ _ _ _ rfl _ (slk_head ao n cap k (by omega) hz _)
  simp only [Act.put, List.getElem_toArray, List.getElem_cons_succ, List.getElem_cons_zero, List.setIfInBounds_toArray, List.set_cons_succ, List.set_cons_zero]
  have hs0 := hw.size
  refine eH_one (k := 6) (fuel := 4) (by kernel_rfl) rfl (by kernel_rfl) (fun K_ hK_ => ?_)
  refine wp_call_ex (f := 57) (by kernel_rfl) (cP _ hw) (fun v_ wq31 hX_ => ?_)
  obtain ⟨hO, hb⟩ := hX_
  replace hw := Below.after hw hb
  clear hb
  refine hK_ _ _ (trivial) ?_
  simp only [Act.put, List.getElem_toArray, List.getElem_cons_succ, List.getElem_cons_zero, List.setIfInBounds_toArray, List.set_cons_succ, List.set_cons_zero]
  clear hK_
  replace hO := hO.down hs0
  refine eH_one (k := 10) (fuel := 3) (by kernel_rfl) rfl (by kernel_rfl) (fun K_ hK_ => ?_)
  refine wp_call_ex (f := 18) (by kernel_rfl) (ex1e (cR _ hw)) (fun v_ wq32 hX_ => ?_)
  obtain ⟨rfl, hb⟩ := hX_
  replace hO := hO.keep hb
  replace hw := Below.after hw hb
  clear hb
  refine hK_ _ _ (trivial) ?_
  simp only [Act.put, List.getElem_toArray, List.getElem_cons_succ, List.getElem_cons_zero, List.setIfInBounds_toArray, List.set_cons_succ, List.set_cons_zero]
  clear hK_
  refine eH_one (k := 11) (fuel := 2) (by kernel_rfl) rfl (by kernel_rfl) (fun K_ hK_ => ?_)
  refine e_world_op (.slice (some ⟨wq32.heap.size, 0, none⟩) 1 1) (wq32.alloc (.cells (irow .u8 R) 24)) (e_bslK _ rfl R hR rfl _) ?_
  have hb : Below wq32.heap.size wq32 (wq32.alloc (.cells (irow .u8 R) 24)) := (Below.refl _ _).alloc (Nat.le_refl _) _
  have rg33 := hp1_0 wq32 (.cells (irow .u8 R) 24)
  have sz_g33 := hw.size
  replace hO := hO.keep hb
  replace hw := Below.after hw hb
  clear hb
  refine hK_ _ _ (trivial) ?_
  simp only [Act.put, List.getElem_toArray, List.getElem_cons_succ, List.getElem_cons_zero, List.setIfInBounds_toArray, List.set_cons_succ, List.set_cons_zero]
  clear hK_
  generalize (wq32.alloc (.cells (irow .u8 R) 24)) = wq33 at *
  generalize wq32.heap.size = g33 at *
  refine eH_one (k := 12) (fuel := 1) (by kernel_rfl) rfl (by kernel_rfl) (fun K_ hK_ => ?_)
  refine wp_append_K _ _ rfl w.heap.size _ P rfl hO g33 R hR rfl rg33 hP hw.size (fun v' w' h1 h2 _ => ?_)
  replace hw := hw.grown h2 hw.size (fun k e => (hO.lt k e).1)
  refine hK_ _ _ (trivial) ?_
  simp only [Act.put, List.getElem_toArray, List.getElem_cons_succ, List.getElem_cons_zero, List.setIfInBounds_toArray, List.set_cons_succ, List.set_cons_zero]
  clear hK_
  refine wpAnyH_take (i := 13) (v := ?v34) rfl (by kernel_rfl) (by kernel_rfl) (by kernel_rfl) (fun _ _ _ h => h) (Or.inl ⟨by rfl, ?y34⟩) (trivial) ?r34
  case y34 =>
    intro w_ hS_
    go_simp
    try with_reducible rfl
  simp only [Act.put, List.getElem_toArray, List.getElem_cons_succ, List.getElem_cons_zero, List.setIfInBounds_toArray, List.set_cons_succ, List.set_cons_zero]
  refine wpAnyH_done (by kernel_rfl) ?_ _
  refine NoPanic.normal ?_
  go_wp2_with (fail)
  go_ret
  exact ⟨_, rfl, h1, hw⟩
theorem a_path : ∀ (n : Nat) (l : List (List Int)) (i : Nat) (w : World) (v : Value), l.length = n → i < n → Sta w → Kon w → Ksl w v l → Calls Tryd.prog 57 #[v, .int .i64 (i : Int)] w fun e w' => ∃ v, e = .returned v ∧ OwnK w' w.heap.size v (pth sumL l i) ∧ Below w.heap.size w w' := by
  intro n
  induction n using Nat.strongRecOn with
  | ind n ih =>
    rintro l i w v rfl hi hS hK hL
    obtain ⟨ao, cap, rfl, hc, hz⟩ := hL.slc
    by_cases h2 : l.length < 2
    · rw [pth_one sumL h2, show l.length = 1 by omega]
      exact a_path1 w ao cap _
    · have a := ct_lt h2
      have b := ct_pos l.length
      have l1 : (l.take (ctN l.length)).length = ctN l.length := by rw [List.length_take]; omega
      have l2 : (l.drop (ctN l.length)).length = l.length - ctN l.length := by rw [List.length_drop]
      have kA := Ky.rt (hL.ok.take (ctN l.length))
      have kB := Ky.rt (hL.ok.drop (ctN l.length))
      have hle := hL.le
      by_cases hk : i < ctN l.length
      · rw [pth_lo sumL h2 hk]
        exact a_pathlo kB.1 (by rw [pth_len sumL _ _ _ l1]; exact Nat.le_trans (lng_lt _ _) (by omega)) w ao l.length cap (ctN l.length) i (by omega) hle hc a hz hk hi (a_cut _ h2 hle) (fun W hW => ih _ a _ _ _ _ l1 hk (hS.below hW) (hK.below hW) ((hL.keep hW).head (by omega))) (fun W hW => a_Root _ _ _ _ l2 (hS.below hW) (hK.below hW) ((hL.keep hW).tail (by omega)))
      · rw [pth_hi sumL h2 hk]
        have ei : (i : Int) - (ctN l.length : Int) = ((i - ctN l.length : Nat) : Int) := by omega
        exact a_pathhi kA.1 (by rw [pth_len sumL _ _ _ l2]; exact Nat.le_trans (lng_lt _ _) (by omega)) w ao l.length cap (ctN l.length) i (by omega) hle hc a hz hk hi (a_cut _ h2 hle) (fun W hW => by rw [ei]; exact ih (l.length - ctN l.length) (by omega) _ _ _ _ l2 (by omega) (hS.below hW) (hK.below hW) ((hL.keep hW).tail (by omega))) (fun W hW => a_Root _ _ _ _ l1 (hS.below hW) (hK.below hW) ((hL.keep hW).head (by omega)))
set_option maxRecDepth 100000 in
set_option maxHeartbeats 8000000 in
theorem r_path1 (w : World) (ao : Option Addr) (cap : Nat) (i : Value) : Calls Tryd.prog 40 #[.slice ao 1 cap, i] w fun e w' => ∃ v, e = .returned v ∧ OwnK w' w.heap.size v [] ∧ Below w.heap.size w w' := by
  have hw : Below w.heap.size w w := Below.refl _ _
  go_enter Tryd.func40, Tryd.ntmps40
  go_wp2_with (fail)
  go_ret
  exact ⟨_, rfl, OwnK.empty _ (Nat.le_refl _), hw.alloc (Nat.le_refl _) _⟩
set_option maxRecDepth 100000 in
set_option maxHeartbeats 8000000 in
theorem r_pathlo {R : List Int} {P : List (List Int)} (hR : R.length = 32) (hP : P.length ≤ 4398046511000) (w : World) (ao : Option Addr) (n cap k i : Nat) (hn : 2 ≤ n) (hm : n ≤ 4398046511000) (hc : n ≤ cap) (hk : k < n) (hz : ao = none → cap = 0) (hi : i < k) (_hin : i < n) (cC : Gives 45 #[.int .i64 (n : Int)] (.int .i64 (k : Int))) (cP : (∀ W, Below w.heap.size w W → Calls Tryd.prog 40 #[.slice ao k cap, .int .i64 (i : Int)] W fun e w' => ∃ v, e = .returned v ∧ OwnK w' W.heap.size v P ∧ Below W.heap.size W w')) (cR : (∀ W, Below w.heap.size w W → Calls Tryd.prog 19 #[sltl ao n cap k] W fun e w' => e = .returned (.agg (irow .u8 R)) ∧ Below W.heap.size W w')) : Calls Tryd.prog 40 #[.slice ao n cap, .int .i64 (i : Int)] w fun e w' => ∃ v, e = .returned v ∧ OwnK w' w.heap.size v (P ++ [R]) ∧ Below w.heap.size w w' := by
  have d1 : decide ((n : Int) = 1) = false := by simp; omega
  have d2 : decide ((i : Int) < (k : Int)) = true := by simp; omega
  have hw : Below w.heap.size w w := Below.refl _ _
  go_enter Tryd.func40, Tryd.ntmps40
  go_wp2_with (fail)
  refine (cC.at _).mono ?_
  rintro e_ w1 ⟨rfl, hb⟩
  replace hw := Below.after hw hb
  clear hb
  clear cC
  go_wp2_with (fail)
  have hb : Below w1.heap.size w1 w1.drew := below_drN (Below.refl _ _) 1
  replace hw := Below.after hw hb
  clear hb
  refine wp_region_noPanic ?_
  refine wp_region_held (S := fun _ => True) (by kernel_rfl) ?_
  change wpAnyH _ _ _ _ _ _ _ _ (World.drew _)
  generalize w1.drew = wd35 at *
  refine wpAnyH_take (i := 0) (v := ?v36) rfl (by kernel_rfl) (by kernel_rfl) (by kernel_rfl) (fun _ _ _ h => h) (Or.inl ⟨by rfl, ?y36⟩) (trivial) ?r36
  case y36 =>
    intro w_ hS_
    go_simp
    try with_reducible rfl
  simp only [Act.put, List.getElem_toArray, List.getElem_cons_zero, List.setIfInBounds_toArray, List.set_cons_succ, List.set_cons_zero]
  refine wpAnyH_take (i := 1) (v := ?v37) rfl (by kernel_rfl) (by kernel_rfl) (by kernel_rfl) (fun _ _ _ h => h) (Or.inl ⟨by rfl, ?y37⟩) (trivial) ?r37
  case y37 =>
    intro w_ hS_
    go_simp
    try with_reducible rfl
  simp only [Act.put, List.getElem_toArray, List.getElem_cons_succ, List.getElem_cons_zero, List.setIfInBounds_toArray, List.set_cons_succ, List.set_cons_zero]
  refine wpAnyH_take (i := 2) (v := .slice ao k cap) rfl (by kernel_rfl) (by kernel_rfl) (by kernel_rfl) (fun _ _ _ h => h) (Or.inl ⟨by rfl, ?y38⟩) (trivial) ?r38
  case y38 =>
    intro w_ hS_
    simp only [List.getElem_toArray, List.getElem_cons_succ, List.getElem_cons_zero]
    exact e_slice _ _ _ _ rfl _ (slk_head ao n cap k (by omega) hz _)
  simp only [Act.put, List.getElem_toArray, List.getElem_cons_succ, List.getElem_cons_zero, List.setIfInBounds_toArray, List.set_cons_succ, List.set_cons_zero]
  refine wpAnyH_take (i := 3) (v := ?v39) rfl (by kernel_rfl) (by kernel_rfl) (by kernel_rfl) (fun _ _ _ h => h) (Or.inl ⟨by rfl, ?y39⟩) (trivial) ?r39
  case y39 =>
    intro w_ hS_
    go_simp
    try with_reducible rfl
  simp only [Act.put, List.getElem_toArray, List.getElem_cons_succ, List.getElem_cons_zero, List.setIfInBounds_toArray, List.set_cons_succ, List.set_cons_zero]
  refine wpAnyH_take (i := 5) (v := ?v40) rfl (by kernel_rfl) (by kernel_rfl) (by kernel_rfl) (fun _ _ _ h => h) (Or.inl ⟨by rfl, ?y40⟩) (trivial) ?r40
  case y40 =>
    intro w_ hS_
    go_simp
    try with_reducible rfl
  simp only [Act.put, List.getElem_toArray, List.getElem_cons_succ, List.getElem_cons_zero, List.setIfInBounds_toArray, List.set_cons_succ, List.set_cons_zero]
  refine wpAnyH_take (i := 6) (v := ?v41) rfl (by kernel_rfl) (by kernel_rfl) (by kernel_rfl) (fun _ _ _ h => h) (Or.inl ⟨by rfl, ?y41⟩) (trivial) ?r41
  case y41 =>
    intro w_ hS_
    go_simp
    try with_reducible rfl
  simp only [Act.put, List.getElem_toArray, List.getElem_cons_succ, List.getElem_cons_zero, List.setIfInBounds_toArray, List.set_cons_succ, List.set_cons_zero]
  refine wpAnyH_take (i := 7) (v := sltl ao n cap k) rfl (by kernel_rfl) (by kernel_rfl) (by kernel_rfl) (fun _ _ _ h => h) (Or.inl ⟨by rfl, ?y42⟩) (trivial) ?r42
  case y42 =>
    intro w_ hS_
    simp only [List.getElem_toArray, List.getElem_cons_succ, List.getElem_cons_zero]
    exact e_slice _ _ _ _ rfl _ (slk_tail ao n cap k (by omega) _)
  simp only [Act.put, List.getElem_toArray, List.getElem_cons_succ, List.getElem_cons_zero, List.setIfInBounds_toArray, List.set_cons_succ, List.set_cons_zero]
  have hs0 := hw.size
  refine eH_one (k := 4) (fuel := 4) (by kernel_rfl) rfl (by kernel_rfl) (fun K_ hK_ => ?_)
  refine wp_call_ex (f := 40) (by kernel_rfl) (cP _ hw) (fun v_ wq43 hX_ => ?_)
  obtain ⟨hO, hb⟩ := hX_
  replace hw := Below.after hw hb
  clear hb
  refine hK_ _ _ (trivial) ?_
  simp only [Act.put, List.getElem_toArray, List.getElem_cons_succ, List.getElem_cons_zero, List.setIfInBounds_toArray, List.set_cons_succ, List.set_cons_zero]
  clear hK_
  replace hO := hO.down hs0
  refine eH_one (k := 8) (fuel := 3) (by kernel_rfl) rfl (by kernel_rfl) (fun K_ hK_ => ?_)
  refine wp_call_ex (f := 19) (by kernel_rfl) (ex1e (cR _ hw)) (fun v_ wq44 hX_ => ?_)
  obtain ⟨rfl, hb⟩ := hX_
  replace hO := hO.keep hb
  replace hw := Below.after hw hb
  clear hb
  refine hK_ _ _ (trivial) ?_
  simp only [Act.put, List.getElem_toArray, List.getElem_cons_succ, List.getElem_cons_zero, List.setIfInBounds_toArray, List.set_cons_succ, List.set_cons_zero]
  clear hK_
  refine eH_one (k := 9) (fuel := 2) (by kernel_rfl) rfl (by kernel_rfl) (fun K_ hK_ => ?_)
  refine e_world_op (.slice (some ⟨wq44.heap.size, 0, none⟩) 1 1) (wq44.alloc (.cells (irow .u8 R) 24)) (e_bslK _ rfl R hR rfl _) ?_
  have hb : Below wq44.heap.size wq44 (wq44.alloc (.cells (irow .u8 R) 24)) := (Below.refl _ _).alloc (Nat.le_refl _) _
  have rg45 := hp1_0 wq44 (.cells (irow .u8 R) 24)
  have sz_g45 := hw.size
  replace hO := hO.keep hb
  replace hw := Below.after hw hb
  clear hb
  refine hK_ _ _ (trivial) ?_
  simp only [Act.put, List.getElem_toArray, List.getElem_cons_succ, List.getElem_cons_zero, List.setIfInBounds_toArray, List.set_cons_succ, List.set_cons_zero]
  clear hK_
  generalize (wq44.alloc (.cells (irow .u8 R) 24)) = wq45 at *
  generalize wq44.heap.size = g45 at *
  refine eH_one (k := 10) (fuel := 1) (by kernel_rfl) rfl (by kernel_rfl) (fun K_ hK_ => ?_)
  refine wp_append_K _ _ rfl w.heap.size _ P rfl hO g45 R hR rfl rg45 hP hw.size (fun v' w' h1 h2 _ => ?_)
  replace hw := hw.grown h2 hw.size (fun k e => (hO.lt k e).1)
  refine hK_ _ _ (trivial) ?_
  simp only [Act.put, List.getElem_toArray, List.getElem_cons_succ, List.getElem_cons_zero, List.setIfInBounds_toArray, List.set_cons_succ, List.set_cons_zero]
  clear hK_
  refine wpAnyH_take (i := 11) (v := ?v46) rfl (by kernel_rfl) (by kernel_rfl) (by kernel_rfl) (fun _ _ _ h => h) (Or.inl ⟨by rfl, ?y46⟩) (trivial) ?r46
  case y46 =>
    intro w_ hS_
    go_simp
    try with_reducible rfl
  simp only [Act.put, List.getElem_toArray, List.getElem_cons_succ, List.getElem_cons_zero, List.setIfInBounds_toArray, List.set_cons_succ, List.set_cons_zero]
  refine wpAnyH_done (by kernel_rfl) ?_ _
  refine NoPanic.normal ?_
  go_wp2_with (fail)
  go_ret
  exact ⟨_, rfl, h1, hw⟩
set_option maxRecDepth 100000 in
set_option maxHeartbeats 8000000 in
theorem r_pathhi {R : List Int} {P : List (List Int)} (hR : R.length = 32) (hP : P.length ≤ 4398046511000) (w : World) (ao : Option Addr) (n cap k i : Nat) (hn : 2 ≤ n) (hm : n ≤ 4398046511000) (hc : n ≤ cap) (hk : k < n) (hz : ao = none → cap = 0) (hi : ¬ i < k) (hin : i < n) (cC : Gives 45 #[.int .i64 (n : Int)] (.int .i64 (k : Int))) (cP : (∀ W, Below w.heap.size w W → Calls Tryd.prog 40 #[sltl ao n cap k, .int .i64 ((i : Int) - (k : Int))] W fun e w' => ∃ v, e = .returned v ∧ OwnK w' W.heap.size v P ∧ Below W.heap.size W w')) (cR : (∀ W, Below w.heap.size w W → Calls Tryd.prog 19 #[.slice ao k cap] W fun e w' => e = .returned (.agg (irow .u8 R)) ∧ Below W.heap.size W w')) : Calls Tryd.prog 40 #[.slice ao n cap, .int .i64 (i : Int)] w fun e w' => ∃ v, e = .returned v ∧ OwnK w' w.heap.size v (P ++ [R]) ∧ Below w.heap.size w w' := by
  have d1 : decide ((n : Int) = 1) = false := by simp; omega
  have d2 : decide ((i : Int) < (k : Int)) = false := by simp; omega
  have q1 : IntKind.i64.wrap ((i : Int) - (k : Int)) = (i : Int) - (k : Int) := by rw [IntKind.wrap_i64]; omega
  have hw : Below w.heap.size w w := Below.refl _ _
  go_enter Tryd.func40, Tryd.ntmps40
  go_wp2_with (fail)
  refine (cC.at _).mono ?_
  rintro e_ w1 ⟨rfl, hb⟩
  replace hw := Below.after hw hb
  clear hb
  clear cC
  go_wp2_with (fail)
  have hb : Below w1.heap.size w1 w1.drew := below_drN (Below.refl _ _) 1
  replace hw := Below.after hw hb
  clear hb
  refine wp_region_noPanic ?_
  refine wp_region_held (S := fun _ => True) (by kernel_rfl) ?_
  change wpAnyH _ _ _ _ _ _ _ _ (World.drew _)
  generalize w1.drew = wd47 at *
  refine wpAnyH_take (i := 0) (v := ?v48) rfl (by kernel_rfl) (by kernel_rfl) (by kernel_rfl) (fun _ _ _ h => h) (Or.inl ⟨by rfl, ?y48⟩) (trivial) ?r48
  case y48 =>
    intro w_ hS_
    go_simp
    try with_reducible rfl
  simp only [Act.put, List.getElem_toArray, List.getElem_cons_zero, List.setIfInBounds_toArray, List.set_cons_succ, List.set_cons_zero]
  refine wpAnyH_take (i := 1) (v := ?v49) rfl (by kernel_rfl) (by kernel_rfl) (by kernel_rfl) (fun _ _ _ h => h) (Or.inl ⟨by rfl, ?y49⟩) (trivial) ?r49
  case y49 =>
    intro w_ hS_
    go_simp
    try with_reducible rfl
  simp only [Act.put, List.getElem_toArray, List.getElem_cons_succ, List.getElem_cons_zero, List.setIfInBounds_toArray, List.set_cons_succ, List.set_cons_zero]
  refine wpAnyH_take (i := 2) (v := sltl ao n cap k) rfl (by kernel_rfl) (by kernel_rfl) (by kernel_rfl) (fun _ _ _ h => h) (Or.inl ⟨by rfl, ?y50⟩) (trivial) ?r50
  case y50 =>
    intro w_ hS_
    simp only [List.getElem_toArray, List.getElem_cons_succ, List.getElem_cons_zero]
    exact e_slice _ _ _ _ rfl _ (slk_tail ao n cap k (by omega) _)
  simp only [Act.put, List.getElem_toArray, List.getElem_cons_succ, List.getElem_cons_zero, List.setIfInBounds_toArray, List.set_cons_succ, List.set_cons_zero]
  refine wpAnyH_take (i := 3) (v := ?v51) rfl (by kernel_rfl) (by kernel_rfl) (by kernel_rfl) (fun _ _ _ h => h) (Or.inl ⟨by rfl, ?y51⟩) (trivial) ?r51
  case y51 =>
    intro w_ hS_
    go_simp
    try with_reducible rfl
  simp only [Act.put, List.getElem_toArray, List.getElem_cons_succ, List.getElem_cons_zero, List.setIfInBounds_toArray, List.set_cons_succ, List.set_cons_zero]
  refine wpAnyH_take (i := 4) (v := ?v52) rfl (by kernel_rfl) (by kernel_rfl) (by kernel_rfl) (fun _ _ _ h => h) (Or.inl ⟨by rfl, ?y52⟩) (trivial) ?r52
  case y52 =>
    intro w_ hS_
    go_simp
    try with_reducible rfl
  simp only [Act.put, List.getElem_toArray, List.getElem_cons_succ, List.getElem_cons_zero, List.setIfInBounds_toArray, List.set_cons_succ, List.set_cons_zero]
  refine wpAnyH_take (i := 5) (v := .int .i64 ((i : Int) - (k : Int))) rfl (by kernel_rfl) (by kernel_rfl) (by kernel_rfl) (fun _ _ _ h => h) (Or.inl ⟨by rfl, ?y53⟩) (trivial) ?r53
  case y53 =>
    intro w_ hS_
    first | (go_simp; done) | (go_simp; exact q1)
  simp only [Act.put, List.getElem_toArray, List.getElem_cons_succ, List.getElem_cons_zero, List.setIfInBounds_toArray, List.set_cons_succ, List.set_cons_zero]
  refine wpAnyH_take (i := 7) (v := ?v54) rfl (by kernel_rfl) (by kernel_rfl) (by kernel_rfl) (fun _ _ _ h => h) (Or.inl ⟨by rfl, ?y54⟩) (trivial) ?r54
  case y54 =>
    intro w_ hS_
    go_simp
    try with_reducible rfl
  simp only [Act.put, List.getElem_toArray, List.getElem_cons_succ, List.getElem_cons_zero, List.setIfInBounds_toArray, List.set_cons_succ, List.set_cons_zero]
  refine wpAnyH_take (i := 8) (v := ?v55) rfl (by kernel_rfl) (by kernel_rfl) (by kernel_rfl) (fun _ _ _ h => h) (Or.inl ⟨by rfl, ?y55⟩) (trivial) ?r55
  case y55 =>
    intro w_ hS_
    go_simp
    try with_reducible rfl
  simp only [Act.put, List.getElem_toArray, List.getElem_cons_succ, List.getElem_cons_zero, List.setIfInBounds_toArray, List.set_cons_succ, List.set_cons_zero]
  refine wpAnyH_take (i := 9) (v := .slice ao k cap) rfl (by kernel_rfl) (by kernel_rfl) (by kernel_rfl) (fun _ _ _ h => h) (Or.inl ⟨by rfl, ?y56⟩) (trivial) ?r56
  case y56 =>
    intro w_ hS_
    simp only [List.getElem_toArray, List.getElem_cons_succ, List.getElem_cons_zero]
    exact e_slice _ _ _ _ rfl _ (slk_head ao n cap k (by omega) hz _)
  simp only [Act.put, List.getElem_toArray, List.getElem_cons_succ, List.getElem_cons_zero, List.setIfInBounds_toArray, List.set_cons_succ, List.set_cons_zero]
  have hs0 := hw.size
  refine eH_one (k := 6) (fuel := 4) (by kernel_rfl) rfl (by kernel_rfl) (fun K_ hK_ => ?_)
  refine wp_call_ex (f := 40) (by kernel_rfl) (cP _ hw) (fun v_ wq57 hX_ => ?_)
  obtain ⟨hO, hb⟩ := hX_
  replace hw := Below.after hw hb
  clear hb
  refine hK_ _ _ (trivial) ?_
  simp only [Act.put, List.getElem_toArray, List.getElem_cons_succ, List.getElem_cons_zero, List.setIfInBounds_toArray, List.set_cons_succ, List.set_cons_zero]
  clear hK_
  replace hO := hO.down hs0
  refine eH_one (k := 10) (fuel := 3) (by kernel_rfl) rfl (by kernel_rfl) (fun K_ hK_ => ?_)
  refine wp_call_ex (f := 19) (by kernel_rfl) (ex1e (cR _ hw)) (fun v_ wq58 hX_ => ?_)
  obtain ⟨rfl, hb⟩ := hX_
  replace hO := hO.keep hb
  replace hw := Below.after hw hb
  clear hb
  refine hK_ _ _ (trivial) ?_
  simp only [Act.put, List.getElem_toArray, List.getElem_cons_succ, List.getElem_cons_zero, List.setIfInBounds_toArray, List.set_cons_succ, List.set_cons_zero]
  clear hK_
  refine eH_one (k := 11) (fuel := 2) (by kernel_rfl) rfl (by kernel_rfl) (fun K_ hK_ => ?_)
  refine e_world_op (.slice (some ⟨wq58.heap.size, 0, none⟩) 1 1) (wq58.alloc (.cells (irow .u8 R) 24)) (e_bslK _ rfl R hR rfl _) ?_
  have hb : Below wq58.heap.size wq58 (wq58.alloc (.cells (irow .u8 R) 24)) := (Below.refl _ _).alloc (Nat.le_refl _) _
  have rg59 := hp1_0 wq58 (.cells (irow .u8 R) 24)
  have sz_g59 := hw.size
  replace hO := hO.keep hb
  replace hw := Below.after hw hb
  clear hb
  refine hK_ _ _ (trivial) ?_
  simp only [Act.put, List.getElem_toArray, List.getElem_cons_succ, List.getElem_cons_zero, List.setIfInBounds_toArray, List.set_cons_succ, List.set_cons_zero]
  clear hK_
  generalize (wq58.alloc (.cells (irow .u8 R) 24)) = wq59 at *
  generalize wq58.heap.size = g59 at *
  refine eH_one (k := 12) (fuel := 1) (by kernel_rfl) rfl (by kernel_rfl) (fun K_ hK_ => ?_)
  refine wp_append_K _ _ rfl w.heap.size _ P rfl hO g59 R hR rfl rg59 hP hw.size (fun v' w' h1 h2 _ => ?_)
  replace hw := hw.grown h2 hw.size (fun k e => (hO.lt k e).1)
  refine hK_ _ _ (trivial) ?_
  simp only [Act.put, List.getElem_toArray, List.getElem_cons_succ, List.getElem_cons_zero, List.setIfInBounds_toArray, List.set_cons_succ, List.set_cons_zero]
  clear hK_
  refine wpAnyH_take (i := 13) (v := ?v60) rfl (by kernel_rfl) (by kernel_rfl) (by kernel_rfl) (fun _ _ _ h => h) (Or.inl ⟨by rfl, ?y60⟩) (trivial) ?r60
  case y60 =>
    intro w_ hS_
    go_simp
    try with_reducible rfl
  simp only [Act.put, List.getElem_toArray, List.getElem_cons_succ, List.getElem_cons_zero, List.setIfInBounds_toArray, List.set_cons_succ, List.set_cons_zero]
  refine wpAnyH_done (by kernel_rfl) ?_ _
  refine NoPanic.normal ?_
  go_wp2_with (fail)
  go_ret
  exact ⟨_, rfl, h1, hw⟩
theorem r_path : ∀ (n : Nat) (l : List (List Int)) (i : Nat) (w : World) (v : Value), l.length = n → i < n → Ksl w v l → Calls Tryd.prog 40 #[v, .int .i64 (i : Int)] w fun e w' => ∃ v, e = .returned v ∧ OwnK w' w.heap.size v (pth sumL l i) ∧ Below w.heap.size w w' := by
  intro n
  induction n using Nat.strongRecOn with
  | ind n ih =>
    rintro l i w v rfl hi hL
    obtain ⟨ao, cap, rfl, hc, hz⟩ := hL.slc
    by_cases h2 : l.length < 2
    · rw [pth_one sumL h2, show l.length = 1 by omega]
      exact r_path1 w ao cap _
    · have a := ct_lt h2
      have b := ct_pos l.length
      have l1 : (l.take (ctN l.length)).length = ctN l.length := by rw [List.length_take]; omega
      have l2 : (l.drop (ctN l.length)).length = l.length - ctN l.length := by rw [List.length_drop]
      have kA := Ky.rt (hL.ok.take (ctN l.length))
      have kB := Ky.rt (hL.ok.drop (ctN l.length))
      have hle := hL.le
      by_cases hk : i < ctN l.length
      · rw [pth_lo sumL h2 hk]
        exact r_pathlo kB.1 (by rw [pth_len sumL _ _ _ l1]; exact Nat.le_trans (lng_lt _ _) (by omega)) w ao l.length cap (ctN l.length) i (by omega) hle hc a hz hk hi (r_cut _ h2 hle) (fun W hW => ih _ a _ _ _ _ l1 hk ((hL.keep hW).head (by omega))) (fun W hW => r_Root _ _ _ _ l2 ((hL.keep hW).tail (by omega)))
      · rw [pth_hi sumL h2 hk]
        have ei : (i : Int) - (ctN l.length : Int) = ((i - ctN l.length : Nat) : Int) := by omega
        exact r_pathhi kA.1 (by rw [pth_len sumL _ _ _ l2]; exact Nat.le_trans (lng_lt _ _) (by omega)) w ao l.length cap (ctN l.length) i (by omega) hle hc a hz hk hi (r_cut _ h2 hle) (fun W hW => by rw [ei]; exact ih (l.length - ctN l.length) (by omega) _ _ _ _ l2 (by omega) ((hL.keep hW).tail (by omega))) (fun W hW => r_Root _ _ _ _ l1 ((hL.keep hW).head (by omega)))
theorem wpList_bslK {w : World} {ops : Array Oper} {rest : List Oper} {o : Oper} {a : Act} {Q : Exit → Act → World → Prop} (hgd : o.guard = none) (x : Operand) (ho : o.op = .buildSlice 31 1 #[(0, x)]) (key : List Int) (hkl : key.length = 32) (hx : a.eval x = .agg (irow .u8 key))
    (h : wpList Tryd.prog ops Q rest (a.put o.dst (.slice (some ⟨w.heap.size, 0, none⟩) 1 1)) (w.alloc (.cells (irow .u8 key) 24))) : wpList Tryd.prog ops Q (o :: rest) a w := by
  refine wpList_plain hgd fun K hK => ?_
  refine e_world_op _ _ ?_ (hK _ _ h)
  have hr := run_bslK key hkl w
  simp [execOp, ho, hx, hr, Result.andThen]
set_option maxRecDepth 100000 in
set_option maxHeartbeats 8000000 in
theorem a_grow0 (w : World) (ao : Option Addr) (n cap : Nat) : Calls Tryd.prog 56 #[.slice ao n cap, .int .i64 (n : Int), .bool true] w fun e w' => ∃ v, e = .returned v ∧ OwnK w' w.heap.size v [] ∧ Below w.heap.size w w' := by
  have hw : Below w.heap.size w w := Below.refl _ _
  go_enter Tryd.func56, Tryd.ntmps56
  have d1 : decide ((n : Int) = (n : Int)) = true := by simp
  go_wp2_with (fail)
  go_ret
  exact ⟨_, rfl, OwnK.nil _ _, hw⟩
set_option maxRecDepth 100000 in
set_option maxHeartbeats 8000000 in
theorem a_grow1 {R : List Int} (hR : R.length = 32) (w : World) (ao : Option Addr) (n cap : Nat) (cR : (∀ W, Below w.heap.size w W → Calls Tryd.prog 18 #[.slice ao n cap] W fun e w' => e = .returned (.agg (irow .u8 R)) ∧ Below W.heap.size W w')) : Calls Tryd.prog 56 #[.slice ao n cap, .int .i64 (n : Int), .bool false] w fun e w' => ∃ v, e = .returned v ∧ OwnK w' w.heap.size v [R] ∧ Below w.heap.size w w' := by
  have hw : Below w.heap.size w w := Below.refl _ _
  go_enter Tryd.func56, Tryd.ntmps56
  have d1 : decide ((n : Int) = (n : Int)) = true := by simp
  go_wp2_with (fail)
  refine (cR _ hw).mono ?_
  rintro e_ w1 ⟨rfl, hb⟩
  replace hw := Below.after hw hb
  clear hb
  have hs := hw.size
  have rg := hp1_0 w1 (.cells (irow .u8 R) 24)
  have hw2 : Below w.heap.size w (w1.alloc (.cells (irow .u8 R) 24)) := hw.alloc hs _
  go_wp2_with (first | (refine wpList_bslK rfl _ rfl R hR rfl ?_) | fail)
  go_ret
  exact ⟨_, rfl, OwnK.single hR rg hs, hw2⟩
set_option maxRecDepth 100000 in
set_option maxHeartbeats 8000000 in
theorem a_growlo {R : List Int} {P : List (List Int)} (hR : R.length = 32) (hP : P.length ≤ 4398046511000) (w : World) (ao : Option Addr) (n cap k i : Nat) (_hn : 2 ≤ n) (_hm : n ≤ 4398046511000) (hc : n ≤ cap) (hk : k < n) (hz : ao = none → cap = 0) (wh : Bool) (hi : i ≤ k) (hin : i < n) (cC : Gives 44 #[.int .i64 (n : Int)] (.int .i64 (k : Int))) (cP : (∀ W, Below w.heap.size w W → Calls Tryd.prog 56 #[.slice ao k cap, .int .i64 (i : Int), .bool wh] W fun e w' => ∃ v, e = .returned v ∧ OwnK w' W.heap.size v P ∧ Below W.heap.size W w')) (cR : (∀ W, Below w.heap.size w W → Calls Tryd.prog 18 #[sltl ao n cap k] W fun e w' => e = .returned (.agg (irow .u8 R)) ∧ Below W.heap.size W w')) : Calls Tryd.prog 56 #[.slice ao n cap, .int .i64 (i : Int), .bool wh] w fun e w' => ∃ v, e = .returned v ∧ OwnK w' w.heap.size v (P ++ [R]) ∧ Below w.heap.size w w' := by
  have d1 : decide ((i : Int) = (n : Int)) = false := by simp; omega
  have d2 : decide ((i : Int) ≤ (k : Int)) = true := by simp; omega
  have hw : Below w.heap.size w w := Below.refl _ _
  go_enter Tryd.func56, Tryd.ntmps56
  go_wp2_with (fail)
  refine (cC.at _).mono ?_
  rintro e_ w1 ⟨rfl, hb⟩
  replace hw := Below.after hw hb
  clear hb
  clear cC
  go_wp2_with (fail)
  have hb : Below w1.heap.size w1 w1.drew := below_drN (Below.refl _ _) 1
  replace hw := Below.after hw hb
  clear hb
  refine wp_region_noPanic ?_
  refine wp_region_held (S := fun _ => True) (by kernel_rfl) ?_
  change wpAnyH _ _ _ _ _ _ _ _ (World.drew _)
  generalize w1.drew = wd61 at *
  refine wpAnyH_take (i := 0) (v := ?v62) rfl (by kernel_rfl) (by kernel_rfl) (by kernel_rfl) (fun _ _ _ h => h) (Or.inl ⟨by rfl, ?y62⟩) (trivial) ?r62
  case y62 =>
    intro w_ hS_
    go_simp
    try with_reducible rfl
  simp only [Act.put, List.getElem_toArray, List.getElem_cons_zero, List.setIfInBounds_toArray, List.set_cons_succ, List.set_cons_zero]
  refine wpAnyH_take (i := 1) (v := ?v63) rfl (by kernel_rfl) (by kernel_rfl) (by kernel_rfl) (fun _ _ _ h => h) (Or.inl ⟨by rfl, ?y63⟩) (trivial) ?r63
  case y63 =>
    intro w_ hS_
    go_simp
    try with_reducible rfl
  simp only [Act.put, List.getElem_toArray, List.getElem_cons_succ, List.getElem_cons_zero, List.setIfInBounds_toArray, List.set_cons_succ, List.set_cons_zero]
  refine wpAnyH_take (i := 2) (v := .slice ao k cap) rfl (by kernel_rfl) (by kernel_rfl) (by kernel_rfl) (fun _ _ _ h => h) (Or.inl ⟨by rfl, ?y64⟩) (trivial) ?r64
  case y64 =>
    intro w_ hS_
    simp only [List.getElem_toArray, List.getElem_cons_succ, List.getElem_cons_zero]
    exact e_slice _ _ _ _ rfl _ (slk_head ao n cap k (by omega) hz _)
  simp only [Act.put, List.getElem_toArray, List.getElem_cons_succ, List.getElem_cons_zero, List.setIfInBounds_toArray, List.set_cons_succ, List.set_cons_zero]
  refine wpAnyH_take (i := 3) (v := ?v65) rfl (by kernel_rfl) (by kernel_rfl) (by kernel_rfl) (fun _ _ _ h => h) (Or.inl ⟨by rfl, ?y65⟩) (trivial) ?r65
  case y65 =>
    intro w_ hS_
    go_simp
    try with_reducible rfl
  simp only [Act.put, List.getElem_toArray, List.getElem_cons_succ, List.getElem_cons_zero, List.setIfInBounds_toArray, List.set_cons_succ, List.set_cons_zero]
  refine wpAnyH_take (i := 4) (v := ?v66) rfl (by kernel_rfl) (by kernel_rfl) (by kernel_rfl) (fun _ _ _ h => h) (Or.inl ⟨by rfl, ?y66⟩) (trivial) ?r66
  case y66 =>
    intro w_ hS_
    go_simp
    try with_reducible rfl
  simp only [Act.put, List.getElem_toArray, List.getElem_cons_succ, List.getElem_cons_zero, List.setIfInBounds_toArray, List.set_cons_succ, List.set_cons_zero]
  refine wpAnyH_take (i := 6) (v := ?v67) rfl (by kernel_rfl) (by kernel_rfl) (by kernel_rfl) (fun _ _ _ h => h) (Or.inl ⟨by rfl, ?y67⟩) (trivial) ?r67
  case y67 =>
    intro w_ hS_
    go_simp
    try with_reducible rfl
  simp only [Act.put, List.getElem_toArray, List.getElem_cons_succ, List.getElem_cons_zero, List.setIfInBounds_toArray, List.set_cons_succ, List.set_cons_zero]
  refine wpAnyH_take (i := 7) (v := ?v68) rfl (by kernel_rfl) (by kernel_rfl) (by kernel_rfl) (fun _ _ _ h => h) (Or.inl ⟨by rfl, ?y68⟩) (trivial) ?r68
  case y68 =>
    intro w_ hS_
    go_simp
    try with_reducible rfl
  simp only [Act.put, List.getElem_toArray, List.getElem_cons_succ, List.getElem_cons_zero, List.setIfInBounds_toArray, List.set_cons_succ, List.set_cons_zero]
  refine wpAnyH_take (i := 8) (v := sltl ao n cap k) rfl (by kernel_rfl) (by kernel_rfl) (by kernel_rfl) (fun _ _ _ h => h) (Or.inl ⟨by rfl, ?y69⟩) (trivial) ?r69
  case y69 =>
    intro w_ hS_
    simp only [List.getElem_toArray, List.getElem_cons_succ, List.getElem_cons_zero]
    exact e_slice _ _ _ _ rfl _ (slk_tail ao n cap k (by omega) _)
  simp only [Act.put, List.getElem_toArray, List.getElem_cons_succ, List.getElem_cons_zero, List.setIfInBounds_toArray, List.set_cons_succ, List.set_cons_zero]
  have hs0 := hw.size
  refine eH_one (k := 5) (fuel := 4) (by kernel_rfl) rfl (by kernel_rfl) (fun K_ hK_ => ?_)
  refine wp_call_ex (f := 56) (by kernel_rfl) (cP _ hw) (fun v_ wq70 hX_ => ?_)
  obtain ⟨hO, hb⟩ := hX_
  replace hw := Below.after hw hb
  clear hb
  refine hK_ _ _ (trivial) ?_
  simp only [Act.put, List.getElem_toArray, List.getElem_cons_succ, List.getElem_cons_zero, List.setIfInBounds_toArray, List.set_cons_succ, List.set_cons_zero]
  clear hK_
  replace hO := hO.down hs0
  refine eH_one (k := 9) (fuel := 3) (by kernel_rfl) rfl (by kernel_rfl) (fun K_ hK_ => ?_)
  refine wp_call_ex (f := 18) (by kernel_rfl) (ex1e (cR _ hw)) (fun v_ wq71 hX_ => ?_)
  obtain ⟨rfl, hb⟩ := hX_
  replace hO := hO.keep hb
  replace hw := Below.after hw hb
  clear hb
  refine hK_ _ _ (trivial) ?_
  simp only [Act.put, List.getElem_toArray, List.getElem_cons_succ, List.getElem_cons_zero, List.setIfInBounds_toArray, List.set_cons_succ, List.set_cons_zero]
  clear hK_
  refine eH_one (k := 10) (fuel := 2) (by kernel_rfl) rfl (by kernel_rfl) (fun K_ hK_ => ?_)
  refine e_world_op (.slice (some ⟨wq71.heap.size, 0, none⟩) 1 1) (wq71.alloc (.cells (irow .u8 R) 24)) (e_bslK _ rfl R hR rfl _) ?_
  have hb : Below wq71.heap.size wq71 (wq71.alloc (.cells (irow .u8 R) 24)) := (Below.refl _ _).alloc (Nat.le_refl _) _
  have rg72 := hp1_0 wq71 (.cells (irow .u8 R) 24)
  have sz_g72 := hw.size
  replace hO := hO.keep hb
  replace hw := Below.after hw hb
  clear hb
  refine hK_ _ _ (trivial) ?_
  simp only [Act.put, List.getElem_toArray, List.getElem_cons_succ, List.getElem_cons_zero, List.setIfInBounds_toArray, List.set_cons_succ, List.set_cons_zero]
  clear hK_
  generalize (wq71.alloc (.cells (irow .u8 R) 24)) = wq72 at *
  generalize wq71.heap.size = g72 at *
  refine eH_one (k := 11) (fuel := 1) (by kernel_rfl) rfl (by kernel_rfl) (fun K_ hK_ => ?_)
  refine wp_append_K _ _ rfl w.heap.size _ P rfl hO g72 R hR rfl rg72 hP hw.size (fun v' w' h1 h2 _ => ?_)
  replace hw := hw.grown h2 hw.size (fun k e => (hO.lt k e).1)
  refine hK_ _ _ (trivial) ?_
  simp only [Act.put, List.getElem_toArray, List.getElem_cons_succ, List.getElem_cons_zero, List.setIfInBounds_toArray, List.set_cons_succ, List.set_cons_zero]
  clear hK_
  refine wpAnyH_take (i := 12) (v := ?v73) rfl (by kernel_rfl) (by kernel_rfl) (by kernel_rfl) (fun _ _ _ h => h) (Or.inl ⟨by rfl, ?y73⟩) (trivial) ?r73
  case y73 =>
    intro w_ hS_
    go_simp
    try with_reducible rfl
  simp only [Act.put, List.getElem_toArray, List.getElem_cons_succ, List.getElem_cons_zero, List.setIfInBounds_toArray, List.set_cons_succ, List.set_cons_zero]
  refine wpAnyH_done (by kernel_rfl) ?_ _
  refine NoPanic.normal ?_
  go_wp2_with (fail)
  go_ret
  exact ⟨_, rfl, h1, hw⟩
set_option maxRecDepth 100000 in
set_option maxHeartbeats 8000000 in
theorem a_growhi {R : List Int} {P : List (List Int)} (hR : R.length = 32) (hP : P.length ≤ 4398046511000) (w : World) (ao : Option Addr) (n cap k i : Nat) (hn : 2 ≤ n) (hm : n ≤ 4398046511000) (hc : n ≤ cap) (hk : k < n) (hz : ao = none → cap = 0) (wh : Bool) (hi : ¬ i ≤ k) (hin : i < n) (cC : Gives 44 #[.int .i64 (n : Int)] (.int .i64 (k : Int))) (cP : (∀ W, Below w.heap.size w W → Calls Tryd.prog 56 #[sltl ao n cap k, .int .i64 ((i : Int) - (k : Int)), .bool false] W fun e w' => ∃ v, e = .returned v ∧ OwnK w' W.heap.size v P ∧ Below W.heap.size W w')) (cR : (∀ W, Below w.heap.size w W → Calls Tryd.prog 18 #[.slice ao k cap] W fun e w' => e = .returned (.agg (irow .u8 R)) ∧ Below W.heap.size W w')) : Calls Tryd.prog 56 #[.slice ao n cap, .int .i64 (i : Int), .bool wh] w fun e w' => ∃ v, e = .returned v ∧ OwnK w' w.heap.size v (P ++ [R]) ∧ Below w.heap.size w w' := by
  have d1 : decide ((i : Int) = (n : Int)) = false := by simp; omega
  have d2 : decide ((i : Int) ≤ (k : Int)) = false := by simp; omega
  have q1 : IntKind.i64.wrap ((i : Int) - (k : Int)) = (i : Int) - (k : Int) := by rw [IntKind.wrap_i64]; omega
  have hw : Below w.heap.size w w := Below.refl _ _
  go_enter Tryd.func56, Tryd.ntmps56
  go_wp2_with (fail)
  refine (cC.at _).mono ?_
  rintro e_ w1 ⟨rfl, hb⟩
  replace hw := Below.after hw hb
  clear hb
  clear cC
  go_wp2_with (fail)
  have hb : Below w1.heap.size w1 w1.drew := below_drN (Below.refl _ _) 1
  replace hw := Below.after hw hb
  clear hb
  refine wp_region_noPanic ?_
  refine wp_region_held (S := fun _ => True) (by kernel_rfl) ?_
  change wpAnyH _ _ _ _ _ _ _ _ (World.drew _)
  generalize w1.drew = wd74 at *
  refine wpAnyH_take (i := 0) (v := ?v75) rfl (by kernel_rfl) (by kernel_rfl) (by kernel_rfl) (fun _ _ _ h => h) (Or.inl ⟨by rfl, ?y75⟩) (trivial) ?r75
  case y75 =>
    intro w_ hS_
    go_simp
    try with_reducible rfl
  simp only [Act.put, List.getElem_toArray, List.getElem_cons_zero, List.setIfInBounds_toArray, List.set_cons_succ, List.set_cons_zero]
  refine wpAnyH_take (i := 1) (v := ?v76) rfl (by kernel_rfl) (by kernel_rfl) (by kernel_rfl) (fun _ _ _ h => h) (Or.inl ⟨by rfl, ?y76⟩) (trivial) ?r76
  case y76 =>
    intro w_ hS_
    go_simp
    try with_reducible rfl
  simp only [Act.put, List.getElem_toArray, List.getElem_cons_succ, List.getElem_cons_zero, List.setIfInBounds_toArray, List.set_cons_succ, List.set_cons_zero]
  refine wpAnyH_take (i := 2) (v := sltl ao n cap k) rfl (by kernel_rfl) (by kernel_rfl) (by kernel_rfl) (fun _ _ _ h => h) (Or.inl ⟨by rfl, ?y77⟩) (trivial) ?r77
  case y77 =>
    intro w_ hS_
    simp only [List.getElem_toArray, List.getElem_cons_succ, List.getElem_cons_zero]
    exact e_slice _ _ _ _ rfl _ (slk_tail ao n cap k (by omega) _)
  simp only [Act.put, List.getElem_toArray, List.getElem_cons_succ, List.getElem_cons_zero, List.setIfInBounds_toArray, List.set_cons_succ, List.set_cons_zero]
  refine wpAnyH_take (i := 3) (v := ?v78) rfl (by kernel_rfl) (by kernel_rfl) (by kernel_rfl) (fun _ _ _ h => h) (Or.inl ⟨by rfl, ?y78⟩) (trivial) ?r78
  case y78 =>
    intro w_ hS_
    go_simp
    try with_reducible rfl
  simp only [Act.put, List.getElem_toArray, List.getElem_cons_succ, List.getElem_cons_zero, List.setIfInBounds_toArray, List.set_cons_succ, List.set_cons_zero]
  refine wpAnyH_take (i := 4) (v := ?v79) rfl (by kernel_rfl) (by kernel_rfl) (by kernel_rfl) (fun _ _ _ h => h) (Or.inl ⟨by rfl, ?y79⟩) (trivial) ?r79
  case y79 =>
    intro w_ hS_
    go_simp
    try with_reducible rfl
  simp only [Act.put, List.getElem_toArray, List.getElem_cons_succ, List.getElem_cons_zero, List.setIfInBounds_toArray, List.set_cons_succ, List.set_cons_zero]
  refine wpAnyH_take (i := 5) (v := .int .i64 ((i : Int) - (k : Int))) rfl (by kernel_rfl) (by kernel_rfl) (by kernel_rfl) (fun _ _ _ h => h) (Or.inl ⟨by rfl, ?y80⟩) (trivial) ?r80
  case y80 =>
    intro w_ hS_
    first | (go_simp; done) | (go_simp; exact q1)
  simp only [Act.put, List.getElem_toArray, List.getElem_cons_succ, List.getElem_cons_zero, List.setIfInBounds_toArray, List.set_cons_succ, List.set_cons_zero]
  refine wpAnyH_take (i := 7) (v := ?v81) rfl (by kernel_rfl) (by kernel_rfl) (by kernel_rfl) (fun _ _ _ h => h) (Or.inl ⟨by rfl, ?y81⟩) (trivial) ?r81
  case y81 =>
    intro w_ hS_
    go_simp
    try with_reducible rfl
  simp only [Act.put, List.getElem_toArray, List.getElem_cons_succ, List.getElem_cons_zero, List.setIfInBounds_toArray, List.set_cons_succ, List.set_cons_zero]
  refine wpAnyH_take (i := 8) (v := ?v82) rfl (by kernel_rfl) (by kernel_rfl) (by kernel_rfl) (fun _ _ _ h => h) (Or.inl ⟨by rfl, ?y82⟩) (trivial) ?r82
  case y82 =>
    intro w_ hS_
    go_simp
    try with_reducible rfl
  simp only [Act.put, List.getElem_toArray, List.getElem_cons_succ, List.getElem_cons_zero, List.setIfInBounds_toArray, List.set_cons_succ, List.set_cons_zero]
  refine wpAnyH_take (i := 9) (v := .slice ao k cap) rfl (by kernel_rfl) (by kernel_rfl) (by kernel_rfl) (fun _ _ _ h => h) (Or.inl ⟨by rfl, ?y83⟩) (trivial) ?r83
  case y83 =>
    intro w_ hS_
    simp only [List.getElem_toArray, List.getElem_cons_succ, List.getElem_cons_zero]
    exact e_slice _ _ _ _ rfl _ (slk_head ao n cap k (by omega) hz _)
  simp only [Act.put, List.getElem_toArray, List.getElem_cons_succ, List.getElem_cons_zero, List.setIfInBounds_toArray, List.set_cons_succ, List.set_cons_zero]
  have hs0 := hw.size
  refine eH_one (k := 6) (fuel := 4) (by kernel_rfl) rfl (by kernel_rfl) (fun K_ hK_ => ?_)
  refine wp_call_ex (f := 56) (by kernel_rfl) (cP _ hw) (fun v_ wq84 hX_ => ?_)
  obtain ⟨hO, hb⟩ := hX_
  replace hw := Below.after hw hb
  clear hb
  refine hK_ _ _ (trivial) ?_
  simp only [Act.put, List.getElem_toArray, List.getElem_cons_succ, List.getElem_cons_zero, List.setIfInBounds_toArray, List.set_cons_succ, List.set_cons_zero]
  clear hK_
  replace hO := hO.down hs0
  refine eH_one (k := 10) (fuel := 3) (by kernel_rfl) rfl (by kernel_rfl) (fun K_ hK_ => ?_)
  refine wp_call_ex (f := 18) (by kernel_rfl) (ex1e (cR _ hw)) (fun v_ wq85 hX_ => ?_)
  obtain ⟨rfl, hb⟩ := hX_
  replace hO := hO.keep hb
  replace hw := Below.after hw hb
  clear hb
  refine hK_ _ _ (trivial) ?_
  simp only [Act.put, List.getElem_toArray, List.getElem_cons_succ, List.getElem_cons_zero, List.setIfInBounds_toArray, List.set_cons_succ, List.set_cons_zero]
  clear hK_
  refine eH_one (k := 11) (fuel := 2) (by kernel_rfl) rfl (by kernel_rfl) (fun K_ hK_ => ?_)
  refine e_world_op (.slice (some ⟨wq85.heap.size, 0, none⟩) 1 1) (wq85.alloc (.cells (irow .u8 R) 24)) (e_bslK _ rfl R hR rfl _) ?_
  have hb : Below wq85.heap.size wq85 (wq85.alloc (.cells (irow .u8 R) 24)) := (Below.refl _ _).alloc (Nat.le_refl _) _
  have rg86 := hp1_0 wq85 (.cells (irow .u8 R) 24)
  have sz_g86 := hw.size
  replace hO := hO.keep hb
  replace hw := Below.after hw hb
  clear hb
  refine hK_ _ _ (trivial) ?_
  simp only [Act.put, List.getElem_toArray, List.getElem_cons_succ, List.getElem_cons_zero, List.setIfInBounds_toArray, List.set_cons_succ, List.set_cons_zero]
  clear hK_
  generalize (wq85.alloc (.cells (irow .u8 R) 24)) = wq86 at *
  generalize wq85.heap.size = g86 at *
  refine eH_one (k := 12) (fuel := 1) (by kernel_rfl) rfl (by kernel_rfl) (fun K_ hK_ => ?_)
  refine wp_append_K _ _ rfl w.heap.size _ P rfl hO g86 R hR rfl rg86 hP hw.size (fun v' w' h1 h2 _ => ?_)
  replace hw := hw.grown h2 hw.size (fun k e => (hO.lt k e).1)
  refine hK_ _ _ (trivial) ?_
  simp only [Act.put, List.getElem_toArray, List.getElem_cons_succ, List.getElem_cons_zero, List.setIfInBounds_toArray, List.set_cons_succ, List.set_cons_zero]
  clear hK_
  refine wpAnyH_take (i := 13) (v := ?v87) rfl (by kernel_rfl) (by kernel_rfl) (by kernel_rfl) (fun _ _ _ h => h) (Or.inl ⟨by rfl, ?y87⟩) (trivial) ?r87
  case y87 =>
    intro w_ hS_
    go_simp
    try with_reducible rfl
  simp only [Act.put, List.getElem_toArray, List.getElem_cons_succ, List.getElem_cons_zero, List.setIfInBounds_toArray, List.set_cons_succ, List.set_cons_zero]
  refine wpAnyH_done (by kernel_rfl) ?_ _
  refine NoPanic.normal ?_
  go_wp2_with (fail)
  go_ret
  exact ⟨_, rfl, h1, hw⟩
theorem a_growth : ∀ (n : Nat) (l : List (List Int)) (m : Nat) (wh : Bool) (w : World) (v : Value), l.length = n → 1 ≤ m → m ≤ n → Sta w → Kon w → Ksl w v l → Calls Tryd.prog 56 #[v, .int .i64 (m : Int), .bool wh] w fun e w' => ∃ v, e = .returned v ∧ OwnK w' w.heap.size v (gro sumL l m wh) ∧ Below w.heap.size w w' := by
  intro n
  induction n using Nat.strongRecOn with
  | ind n ih =>
    rintro l m wh w v rfl hm hml hS hK hL
    obtain ⟨ao, cap, rfl, hc, hz⟩ := hL.slc
    have hle := hL.le
    by_cases h : l.length ≤ m
    · obtain rfl : m = l.length := by omega
      rw [gro_end sumL h]
      cases wh with
      | true => exact a_grow0 w ao _ cap
      | false => exact a_grow1 (Ky.rt hL.ok).1 w ao _ cap (fun W hW => a_Root _ _ _ _ rfl (hS.below hW) (hK.below hW) (hL.keep hW))
    · have h2 : ¬ l.length < 2 := by omega
      have a := ct_lt h2
      have b := ct_pos l.length
      have l1 : (l.take (ctN l.length)).length = ctN l.length := by rw [List.length_take]; omega
      have l2 : (l.drop (ctN l.length)).length = l.length - ctN l.length := by rw [List.length_drop]
      have kA := Ky.rt (hL.ok.take (ctN l.length))
      have kB := Ky.rt (hL.ok.drop (ctN l.length))
      by_cases hk : m ≤ ctN l.length
      · rw [gro_lo sumL hm (by omega) hk]
        exact a_growlo kB.1 (by rw [gro_len sumL _ _ _ _ l1 hm]; exact Nat.le_trans (kys_lt _ _ _ hm) (by omega)) w ao l.length cap (ctN l.length) m (by omega) hle hc a hz wh hk (by omega) (a_cut _ h2 hle) (fun W hW => ih _ a _ _ _ _ _ l1 hm hk (hS.below hW) (hK.below hW) ((hL.keep hW).head (by omega))) (fun W hW => a_Root _ _ _ _ l2 (hS.below hW) (hK.below hW) ((hL.keep hW).tail (by omega)))
      · rw [gro_hi sumL hm (by omega) hk]
        have ei : (m : Int) - (ctN l.length : Int) = ((m - ctN l.length : Nat) : Int) := by omega
        exact a_growhi kA.1 (by rw [gro_len sumL _ _ _ _ l2 (by omega)]; exact Nat.le_trans (kys_lt _ _ _ (by omega)) (by omega)) w ao l.length cap (ctN l.length) m (by omega) hle hc a hz wh hk (by omega) (a_cut _ h2 hle) (fun W hW => by rw [ei]; exact ih (l.length - ctN l.length) (by omega) _ _ _ _ _ l2 (by omega) (by omega) (hS.below hW) (hK.below hW) ((hL.keep hW).tail (by omega))) (fun W hW => a_Root _ _ _ _ l1 (hS.below hW) (hK.below hW) ((hL.keep hW).head (by omega)))
set_option maxRecDepth 100000 in
set_option maxHeartbeats 8000000 in
theorem r_grow0 (w : World) (ao : Option Addr) (n cap : Nat) : Calls Tryd.prog 67 #[.slice ao n cap, .int .i64 (n : Int), .bool true] w fun e w' => ∃ v, e = .returned v ∧ OwnK w' w.heap.size v [] ∧ Below w.heap.size w w' := by
  have hw : Below w.heap.size w w := Below.refl _ _
  go_enter Tryd.func67, Tryd.ntmps67
  have d1 : decide ((n : Int) = (n : Int)) = true := by simp
  go_wp2_with (fail)
  go_ret
  exact ⟨_, rfl, OwnK.empty _ (Nat.le_refl _), hw.alloc (Nat.le_refl _) _⟩
set_option maxRecDepth 100000 in
set_option maxHeartbeats 8000000 in
theorem r_grow1 {R : List Int} (hR : R.length = 32) (w : World) (ao : Option Addr) (n cap : Nat) (cR : (∀ W, Below w.heap.size w W → Calls Tryd.prog 19 #[.slice ao n cap] W fun e w' => e = .returned (.agg (irow .u8 R)) ∧ Below W.heap.size W w')) : Calls Tryd.prog 67 #[.slice ao n cap, .int .i64 (n : Int), .bool false] w fun e w' => ∃ v, e = .returned v ∧ OwnK w' w.heap.size v [R] ∧ Below w.heap.size w w' := by
  have hw : Below w.heap.size w w := Below.refl _ _
  go_enter Tryd.func67, Tryd.ntmps67
  have d1 : decide ((n : Int) = (n : Int)) = true := by simp
  go_wp2_with (fail)
  refine (cR _ hw).mono ?_
  rintro e_ w1 ⟨rfl, hb⟩
  replace hw := Below.after hw hb
  clear hb
  have hs := hw.size
  have rg := hp1_0 w1 (.cells (irow .u8 R) 24)
  have hw2 : Below w.heap.size w (w1.alloc (.cells (irow .u8 R) 24)) := hw.alloc hs _
  go_wp2_with (first | (refine wpList_bslK rfl _ rfl R hR rfl ?_) | fail)
  go_ret
  exact ⟨_, rfl, OwnK.single hR rg hs, hw2⟩
set_option maxRecDepth 100000 in
set_option maxHeartbeats 8000000 in
theorem r_growlo {R : List Int} {P : List (List Int)} (hR : R.length = 32) (hP : P.length ≤ 4398046511000) (w : World) (ao : Option Addr) (n cap k i : Nat) (_hn : 2 ≤ n) (_hm : n ≤ 4398046511000) (hc : n ≤ cap) (hk : k < n) (hz : ao = none → cap = 0) (wh : Bool) (hi : i ≤ k) (hin : i < n) (cC : Gives 45 #[.int .i64 (n : Int)] (.int .i64 (k : Int))) (cP : (∀ W, Below w.heap.size w W → Calls Tryd.prog 67 #[.slice ao k cap, .int .i64 (i : Int), .bool wh] W fun e w' => ∃ v, e = .returned v ∧ OwnK w' W.heap.size v P ∧ Below W.heap.size W w')) (cR : (∀ W, Below w.heap.size w W → Calls Tryd.prog 19 #[sltl ao n cap k] W fun e w' => e = .returned (.agg (irow .u8 R)) ∧ Below W.heap.size W w')) : Calls Tryd.prog 67 #[.slice ao n cap, .int .i64 (i : Int), .bool wh] w fun e w' => ∃ v, e = .returned v ∧ OwnK w' w.heap.size v (P ++ [R]) ∧ Below w.heap.size w w' := by
  have d1 : decide ((i : Int) = (n : Int)) = false := by simp; omega
  have d2 : decide ((i : Int) ≤ (k : Int)) = true := by simp; omega
  have hw : Below w.heap.size w w := Below.refl _ _
  go_enter Tryd.func67, Tryd.ntmps67
  go_wp2_with (fail)
  refine (cC.at _).mono ?_
  rintro e_ w1 ⟨rfl, hb⟩
  replace hw := Below.after hw hb
  clear hb
  clear cC
  go_wp2_with (fail)
  have hb : Below w1.heap.size w1 w1.drew := below_drN (Below.refl _ _) 1
  replace hw := Below.after hw hb
  clear hb
  refine wp_region_noPanic ?_
  refine wp_region_held (S := fun _ => True) (by kernel_rfl) ?_
  change wpAnyH _ _ _ _ _ _ _ _ (World.drew _)
  generalize w1.drew = wd88 at *
  refine wpAnyH_take (i := 0) (v := ?v89) rfl (by kernel_rfl) (by kernel_rfl) (by kernel_rfl) (fun _ _ _ h => h) (Or.inl ⟨by rfl, ?y89⟩) (trivial) ?r89
  case y89 =>
    intro w_ hS_
    go_simp
    try with_reducible rfl
  simp only [Act.put, List.getElem_toArray, List.getElem_cons_zero, List.setIfInBounds_toArray, List.set_cons_succ, List.set_cons_zero]
  refine wpAnyH_take (i := 1) (v := ?v90) rfl (by kernel_rfl) (by kernel_rfl) (by kernel_rfl) (fun _ _ _ h => h) (Or.inl ⟨by rfl, ?y90⟩) (trivial) ?r90
  case y90 =>
    intro w_ hS_
    go_simp
    try with_reducible rfl
  simp only [Act.put, List.getElem_toArray, List.getElem_cons_succ, List.getElem_cons_zero, List.setIfInBounds_toArray, List.set_cons_succ, List.set_cons_zero]
  refine wpAnyH_take (i := 2) (v := .slice ao k cap) rfl (by kernel_rfl) (by kernel_rfl) (by kernel_rfl) (fun _ _ _ h => h) (Or.inl ⟨by rfl, ?y91⟩) (trivial) ?r91
  case y91 =>
    intro w_ hS_
    simp only [List.getElem_toArray, List.getElem_cons_succ, List.getElem_cons_zero]
    exact e_slice _ _ _ _ rfl _ (slk_head ao n cap k (by omega) hz _)
  simp only [Act.put, List.getElem_toArray, List.getElem_cons_succ, List.getElem_cons_zero, List.setIfInBounds_toArray, List.set_cons_succ, List.set_cons_zero]
  refine wpAnyH_take (i := 3) (v := ?v92) rfl (by kernel_rfl) (by kernel_rfl) (by kernel_rfl) (fun _ _ _ h => h) (Or.inl ⟨by rfl, ?y92⟩) (trivial) ?r92
  case y92 =>
    intro w_ hS_
    go_simp
    try with_reducible rfl
  simp only [Act.put, List.getElem_toArray, List.getElem_cons_succ, List.getElem_cons_zero, List.setIfInBounds_toArray, List.set_cons_succ, List.set_cons_zero]
  refine wpAnyH_take (i := 4) (v := ?v93) rfl (by kernel_rfl) (by kernel_rfl) (by kernel_rfl) (fun _ _ _ h => h) (Or.inl ⟨by rfl, ?y93⟩) (trivial) ?r93
  case y93 =>
    intro w_ hS_
    go_simp
    try with_reducible rfl
  simp only [Act.put, List.getElem_toArray, List.getElem_cons_succ, List.getElem_cons_zero, List.setIfInBounds_toArray, List.set_cons_succ, List.set_cons_zero]
  refine wpAnyH_take (i := 6) (v := ?v94) rfl (by kernel_rfl) (by kernel_rfl) (by kernel_rfl) (fun _ _ _ h => h) (Or.inl ⟨by rfl, ?y94⟩) (trivial) ?r94
  case y94 =>
    intro w_ hS_
    go_simp
    try with_reducible rfl
  simp only [Act.put, List.getElem_toArray, List.getElem_cons_succ, List.getElem_cons_zero, List.setIfInBounds_toArray, List.set_cons_succ, List.set_cons_zero]
  refine wpAnyH_take (i := 7) (v := ?v95) rfl (by kernel_rfl) (by kernel_rfl) (by kernel_rfl) (fun _ _ _ h => h) (Or.inl ⟨by rfl, ?y95⟩) (trivial) ?r95
  case y95 =>
    intro w_ hS_
    go_simp
    try with_reducible rfl
  simp only [Act.put, List.getElem_toArray, List.getElem_cons_succ, List.getElem_cons_zero, List.setIfInBounds_toArray, List.set_cons_succ, List.set_cons_zero]
  refine wpAnyH_take (i := 8) (v := sltl ao n cap k) rfl (by kernel_rfl) (by kernel_rfl) (by kernel_rfl) (fun _ _ _ h => h) (Or.inl ⟨by rfl, ?y96⟩) (trivial) ?r96
  case y96 =>
    intro w_ hS_
    simp only [List.getElem_toArray, List.getElem_cons_succ, List.getElem_cons_zero]
    exact e_slice _ _ _ _ rfl _ (slk_tail ao n cap k (by omega) _)
  simp only [Act.put, List.getElem_toArray, List.getElem_cons_succ, List.getElem_cons_zero, List.setIfInBounds_toArray, List.set_cons_succ, List.set_cons_zero]
  have hs0 := hw.size
  refine eH_one (k := 5) (fuel := 4) (by kernel_rfl) rfl (by kernel_rfl) (fun K_ hK_ => ?_)
  refine wp_call_ex (f := 67) (by kernel_rfl) (cP _ hw) (fun v_ wq97 hX_ => ?_)
  obtain ⟨hO, hb⟩ := hX_
  replace hw := Below.after hw hb
  clear hb
  refine hK_ _ _ (trivial) ?_
  simp only [Act.put, List.getElem_toArray, List.getElem_cons_succ, List.getElem_cons_zero, List.setIfInBounds_toArray, List.set_cons_succ, List.set_cons_zero]
  clear hK_
  replace hO := hO.down hs0
  refine eH_one (k := 9) (fuel := 3) (by kernel_rfl) rfl (by kernel_rfl) (fun K_ hK_ => ?_)
  refine wp_call_ex (f := 19) (by kernel_rfl) (ex1e (cR _ hw)) (fun v_ wq98 hX_ => ?_)
  obtain ⟨rfl, hb⟩ := hX_
  replace hO := hO.keep hb
  replace hw := Below.after hw hb
  clear hb
  refine hK_ _ _ (trivial) ?_
  simp only [Act.put, List.getElem_toArray, List.getElem_cons_succ, List.getElem_cons_zero, List.setIfInBounds_toArray, List.set_cons_succ, List.set_cons_zero]
  clear hK_
  refine eH_one (k := 10) (fuel := 2) (by kernel_rfl) rfl (by kernel_rfl) (fun K_ hK_ => ?_)
  refine e_world_op (.slice (some ⟨wq98.heap.size, 0, none⟩) 1 1) (wq98.alloc (.cells (irow .u8 R) 24)) (e_bslK _ rfl R hR rfl _) ?_
  have hb : Below wq98.heap.size wq98 (wq98.alloc (.cells (irow .u8 R) 24)) := (Below.refl _ _).alloc (Nat.le_refl _) _
  have rg99 := hp1_0 wq98 (.cells (irow .u8 R) 24)
  have sz_g99 := hw.size
  replace hO := hO.keep hb
  replace hw := Below.after hw hb
  clear hb
  refine hK_ _ _ (trivial) ?_
  simp only [Act.put, List.getElem_toArray, List.getElem_cons_succ, List.getElem_cons_zero, List.setIfInBounds_toArray, List.set_cons_succ, List.set_cons_zero]
  clear hK_
  generalize (wq98.alloc (.cells (irow .u8 R) 24)) = wq99 at *
  generalize wq98.heap.size = g99 at *
  refine eH_one (k := 11) (fuel := 1) (by kernel_rfl) rfl (by kernel_rfl) (fun K_ hK_ => ?_)
  refine wp_append_K _ _ rfl w.heap.size _ P rfl hO g99 R hR rfl rg99 hP hw.size (fun v' w' h1 h2 _ => ?_)
  replace hw := hw.grown h2 hw.size (fun k e => (hO.lt k e).1)
  refine hK_ _ _ (trivial) ?_
  simp only [Act.put, List.getElem_toArray, List.getElem_cons_succ, List.getElem_cons_zero, List.setIfInBounds_toArray, List.set_cons_succ, List.set_cons_zero]
  clear hK_
  refine wpAnyH_take (i := 12) (v := ?v100) rfl (by kernel_rfl) (by kernel_rfl) (by kernel_rfl) (fun _ _ _ h => h) (Or.inl ⟨by rfl, ?y100⟩) (trivial) ?r100
  case y100 =>
    intro w_ hS_
    go_simp
    try with_reducible rfl
  simp only [Act.put, List.getElem_toArray, List.getElem_cons_succ, List.getElem_cons_zero, List.setIfInBounds_toArray, List.set_cons_succ, List.set_cons_zero]
  refine wpAnyH_done (by kernel_rfl) ?_ _
  refine NoPanic.normal ?_
  go_wp2_with (fail)
  go_ret
  exact ⟨_, rfl, h1, hw⟩
set_option maxRecDepth 100000 in
set_option maxHeartbeats 8000000 in
theorem r_growhi {R : List Int} {P : List (List Int)} (hR : R.length = 32) (hP : P.length ≤ 4398046511000) (w : World) (ao : Option Addr) (n cap k i : Nat) (hn : 2 ≤ n) (hm : n ≤ 4398046511000) (hc : n ≤ cap) (hk : k < n) (hz : ao = none → cap = 0) (wh : Bool) (hi : ¬ i ≤ k) (hin : i < n) (cC : Gives 45 #[.int .i64 (n : Int)] (.int .i64 (k : Int))) (cP : (∀ W, Below w.heap.size w W → Calls Tryd.prog 67 #[sltl ao n cap k, .int .i64 ((i : Int) - (k : Int)), .bool false] W fun e w' => ∃ v, e = .returned v ∧ OwnK w' W.heap.size v P ∧ Below W.heap.size W w')) (cR : (∀ W, Below w.heap.size w W → Calls Tryd.prog 19 #[.slice ao k cap] W fun e w' => e = .returned (.agg (irow .u8 R)) ∧ Below W.heap.size W w')) : Calls Tryd.prog 67 #[.slice ao n cap, .int .i64 (i : Int), .bool wh] w fun e w' => ∃ v, e = .returned v ∧ OwnK w' w.heap.size v (P ++ [R]) ∧ Below w.heap.size w w' := by
  have d1 : decide ((i : Int) = (n : Int)) = false := by simp; omega
  have d2 : decide ((i : Int) ≤ (k : Int)) = false := by simp; omega
  have q1 : IntKind.i64.wrap ((i : Int) - (k : Int)) = (i : Int) - (k : Int) := by rw [IntKind.wrap_i64]; omega
  have hw : Below w.heap.size w w := Below.refl _ _
  go_enter Tryd.func67, Tryd.ntmps67
  go_wp2_with (fail)
  refine (cC.at _).mono ?_
  rintro e_ w1 ⟨rfl, hb⟩
  replace hw := Below.after hw hb
  clear hb
  clear cC
  go_wp2_with (fail)
  have hb : Below w1.heap.size w1 w1.drew := below_drN (Below.refl _ _) 1
  replace hw := Below.after hw hb
  clear hb
  refine wp_region_noPanic ?_
  refine wp_region_held (S := fun _ => True) (by kernel_rfl) ?_
  change wpAnyH _ _ _ _ _ _ _ _ (World.drew _)
  generalize w1.drew = wd101 at *
  refine wpAnyH_take (i := 0) (v := ?v102) rfl (by kernel_rfl) (by kernel_rfl) (by kernel_rfl) (fun _ _ _ h => h) (Or.inl ⟨by rfl, ?y102⟩) (trivial) ?r102
  case y102 =>
    intro w_ hS_
    go_simp
    try with_reducible rfl
  simp only [Act.put, List.getElem_toArray, List.getElem_cons_zero, List.setIfInBounds_toArray, List.set_cons_succ, List.set_cons_zero]
  refine wpAnyH_take (i := 1) (v := ?v103) rfl (by kernel_rfl) (by kernel_rfl) (by kernel_rfl) (fun _ _ _ h => h) (Or.inl ⟨by rfl, ?y103⟩) (trivial) ?r103
  case y103 =>
    intro w_ hS_
    go_simp
    try with_reducible rfl
  simp only [Act.put, List.getElem_toArray, List.getElem_cons_succ, List.getElem_cons_zero, List.setIfInBounds_toArray, List.set_cons_succ, List.set_cons_zero]
  refine wpAnyH_take (i := 2) (v := sltl ao n cap k) rfl (by kernel_rfl) (by kernel_rfl) (by kernel_rfl) (fun _ _ _ h => h) (Or.inl ⟨by rfl, ?y104⟩) (trivial) ?r104
  case y104 =>
    intro w_ hS_
    simp only [List.getElem_toArray, List.getElem_cons_succ, List.getElem_cons_zero]
    exact e_slice _ _ _ _ rfl _ (slk_tail ao n cap k (by omega) _)
  simp only [Act.put, List.getElem_toArray, List.getElem_cons_succ, List.getElem_cons_zero, List.setIfInBounds_toArray, List.set_cons_succ, List.set_cons_zero]
  refine wpAnyH_take (i := 3) (v := ?v105) rfl (by kernel_rfl) (by kernel_rfl) (by kernel_rfl) (fun _ _ _ h => h) (Or.inl ⟨by rfl, ?y105⟩) (trivial) ?r105
  case y105 =>
    intro w_ hS_
    go_simp
    try with_reducible rfl
  simp only [Act.put, List.getElem_toArray, List.getElem_cons_succ, List.getElem_cons_zero, List.setIfInBounds_toArray, List.set_cons_succ, List.set_cons_zero]
  refine wpAnyH_take (i := 4) (v := ?v106) rfl (by kernel_rfl) (by kernel_rfl) (by kernel_rfl) (fun _ _ _ h => h) (Or.inl ⟨by rfl, ?y106⟩) (trivial) ?r106
  case y106 =>
    intro w_ hS_
    go_simp
    try with_reducible rfl
  simp only [Act.put, List.getElem_toArray, List.getElem_cons_succ, List.getElem_cons_zero, List.setIfInBounds_toArray, List.set_cons_succ, List.set_cons_zero]
  refine wpAnyH_take (i := 5) (v := .int .i64 ((i : Int) - (k : Int))) rfl (by kernel_rfl) (by kernel_rfl) (by kernel_rfl) (fun _ _ _ h => h) (Or.inl ⟨by rfl, ?y107⟩) (trivial) ?r107
  case y107 =>
    intro w_ hS_
    first | (go_simp; done) | (go_simp; exact q1)
  simp only [Act.put, List.getElem_toArray, List.getElem_cons_succ, List.getElem_cons_zero, List.setIfInBounds_toArray, List.set_cons_succ, List.set_cons_zero]
  refine wpAnyH_take (i := 7) (v := ?v108) rfl (by kernel_rfl) (by kernel_rfl) (by kernel_rfl) (fun _ _ _ h => h) (Or.inl ⟨by rfl, ?y108⟩) (trivial) ?r108
  case y108 =>
    intro w_ hS_
    go_simp
    try with_reducible rfl
  simp only [Act.put, List.getElem_toArray, List.getElem_cons_succ, List.getElem_cons_zero, List.setIfInBounds_toArray, List.set_cons_succ, List.set_cons_zero]
  refine wpAnyH_take (i := 8) (v := ?v109) rfl (by kernel_rfl) (by kernel_rfl) (by kernel_rfl) (fun _ _ _ h => h) (Or.inl ⟨by rfl, ?y109⟩) (trivial) ?r109
  case y109 =>
    intro w_ hS_
    go_simp
    try with_reducible rfl
  simp only [Act.put, List.getElem_toArray, List.getElem_cons_succ, List.getElem_cons_zero, List.setIfInBounds_toArray, List.set_cons_succ, List.set_cons_zero]
  refine wpAnyH_take (i := 9) (v := .slice ao k cap) rfl (by kernel_rfl) (by kernel_rfl) (by kernel_rfl) (fun _ _ _ h => h) (Or.inl ⟨by rfl, ?y110⟩) (trivial) ?r110
  case y110 =>
    intro w_ hS_
    simp only [List.getElem_toArray, List.getElem_cons_succ, List.getElem_cons_zero]
    exact e_slice _ _ _ _ rfl _ (slk_head ao n cap k (by omega) hz _)
  simp only [Act.put, List.getElem_toArray, List.getElem_cons_succ, List.getElem_cons_zero, List.setIfInBounds_toArray, List.set_cons_succ, List.set_cons_zero]
  have hs0 := hw.size
  refine eH_one (k := 6) (fuel := 4) (by kernel_rfl) rfl (by kernel_rfl) (fun K_ hK_ => ?_)
  refine wp_call_ex (f := 67) (by kernel_rfl) (cP _ hw) (fun v_ wq111 hX_ => ?_)
  obtain ⟨hO, hb⟩ := hX_
  replace hw := Below.after hw hb
  clear hb
  refine hK_ _ _ (trivial) ?_
  simp only [Act.put, List.getElem_toArray, List.getElem_cons_succ, List.getElem_cons_zero, List.setIfInBounds_toArray, List.set_cons_succ, List.set_cons_zero]
  clear hK_
  replace hO := hO.down hs0
  refine eH_one (k := 10) (fuel := 3) (by kernel_rfl) rfl (by kernel_rfl) (fun K_ hK_ => ?_)
  refine wp_call_ex (f := 19) (by kernel_rfl) (ex1e (cR _ hw)) (fun v_ wq112 hX_ => ?_)
  obtain ⟨rfl, hb⟩ := hX_
  replace hO := hO.keep hb
  replace hw := Below.after hw hb
  clear hb
  refine hK_ _ _ (trivial) ?_
  simp only [Act.put, List.getElem_toArray, List.getElem_cons_succ, List.getElem_cons_zero, List.setIfInBounds_toArray, List.set_cons_succ, List.set_cons_zero]
  clear hK_
  refine eH_one (k := 11) (fuel := 2) (by kernel_rfl) rfl (by kernel_rfl) (fun K_ hK_ => ?_)
  refine e_world_op (.slice (some ⟨wq112.heap.size, 0, none⟩) 1 1) (wq112.alloc (.cells (irow .u8 R) 24)) (e_bslK _ rfl R hR rfl _) ?_
  have hb : Below wq112.heap.size wq112 (wq112.alloc (.cells (irow .u8 R) 24)) := (Below.refl _ _).alloc (Nat.le_refl _) _
  have rg113 := hp1_0 wq112 (.cells (irow .u8 R) 24)
  have sz_g113 := hw.size
  replace hO := hO.keep hb
  replace hw := Below.after hw hb
  clear hb
  refine hK_ _ _ (trivial) ?_
  simp only [Act.put, List.getElem_toArray, List.getElem_cons_succ, List.getElem_cons_zero, List.setIfInBounds_toArray, List.set_cons_succ, List.set_cons_zero]
  clear hK_
  generalize (wq112.alloc (.cells (irow .u8 R) 24)) = wq113 at *
  generalize wq112.heap.size = g113 at *
  refine eH_one (k := 12) (fuel := 1) (by kernel_rfl) rfl (by kernel_rfl) (fun K_ hK_ => ?_)
  refine wp_append_K _ _ rfl w.heap.size _ P rfl hO g113 R hR rfl rg113 hP hw.size (fun v' w' h1 h2 _ => ?_)
  replace hw := hw.grown h2 hw.size (fun k e => (hO.lt k e).1)
  refine hK_ _ _ (trivial) ?_
  simp only [Act.put, List.getElem_toArray, List.getElem_cons_succ, List.getElem_cons_zero, List.setIfInBounds_toArray, List.set_cons_succ, List.set_cons_zero]
  clear hK_
  refine wpAnyH_take (i := 13) (v := ?v114) rfl (by kernel_rfl) (by kernel_rfl) (by kernel_rfl) (fun _ _ _ h => h) (Or.inl ⟨by rfl, ?y114⟩) (trivial) ?r114
  case y114 =>
    intro w_ hS_
    go_simp
    try with_reducible rfl
  simp only [Act.put, List.getElem_toArray, List.getElem_cons_succ, List.getElem_cons_zero, List.setIfInBounds_toArray, List.set_cons_succ, List.set_cons_zero]
  refine wpAnyH_done (by kernel_rfl) ?_ _
  refine NoPanic.normal ?_
  go_wp2_with (fail)
  go_ret
  exact ⟨_, rfl, h1, hw⟩
theorem r_growth : ∀ (n : Nat) (l : List (List Int)) (m : Nat) (wh : Bool) (w : World) (v : Value), l.length = n → 1 ≤ m → m ≤ n → Ksl w v l → Calls Tryd.prog 67 #[v, .int .i64 (m : Int), .bool wh] w fun e w' => ∃ v, e = .returned v ∧ OwnK w' w.heap.size v (gro sumL l m wh) ∧ Below w.heap.size w w' := by
  intro n
  induction n using Nat.strongRecOn with
  | ind n ih =>
    rintro l m wh w v rfl hm hml hL
    obtain ⟨ao, cap, rfl, hc, hz⟩ := hL.slc
    have hle := hL.le
    by_cases h : l.length ≤ m
    · obtain rfl : m = l.length := by omega
      rw [gro_end sumL h]
      cases wh with
      | true => exact r_grow0 w ao _ cap
      | false => exact r_grow1 (Ky.rt hL.ok).1 w ao _ cap (fun W hW => r_Root _ _ _ _ rfl (hL.keep hW))
    · have h2 : ¬ l.length < 2 := by omega
      have a := ct_lt h2
      have b := ct_pos l.length
      have l1 : (l.take (ctN l.length)).length = ctN l.length := by rw [List.length_take]; omega
      have l2 : (l.drop (ctN l.length)).length = l.length - ctN l.length := by rw [List.length_drop]
      have kA := Ky.rt (hL.ok.take (ctN l.length))
      have kB := Ky.rt (hL.ok.drop (ctN l.length))
      by_cases hk : m ≤ ctN l.length
      · rw [gro_lo sumL hm (by omega) hk]
        exact r_growlo kB.1 (by rw [gro_len sumL _ _ _ _ l1 hm]; exact Nat.le_trans (kys_lt _ _ _ hm) (by omega)) w ao l.length cap (ctN l.length) m (by omega) hle hc a hz wh hk (by omega) (r_cut _ h2 hle) (fun W hW => ih _ a _ _ _ _ _ l1 hm hk ((hL.keep hW).head (by omega))) (fun W hW => r_Root _ _ _ _ l2 ((hL.keep hW).tail (by omega)))
      · rw [gro_hi sumL hm (by omega) hk]
        have ei : (m : Int) - (ctN l.length : Int) = ((m - ctN l.length : Nat) : Int) := by omega
        exact r_growhi kA.1 (by rw [gro_len sumL _ _ _ _ l2 (by omega)]; exact Nat.le_trans (kys_lt _ _ _ (by omega)) (by omega)) w ao l.length cap (ctN l.length) m (by omega) hle hc a hz wh hk (by omega) (r_cut _ h2 hle) (fun W hW => by rw [ei]; exact ih (l.length - ctN l.length) (by omega) _ _ _ _ _ l2 (by omega) (by omega) ((hL.keep hW).tail (by omega))) (fun W hW => r_Root _ _ _ _ l1 ((hL.keep hW).head (by omega)))
end Go.Proofs.YtgfeacnhdlgpoaaDoor
