import Derived.Test.YtdfpmgjholdknaaDoorUy
import Derived.OrdersHeld
import Derived.Deep.RegionLaw
import Derived.Test.YtdfpmgjholdknaaDoorKa
namespace Go.Proofs.YtdfpmgjholdknaaDoor
set_option maxRecDepth 100000
open Go Go.RowKit Go.Sort
attribute [local go_sem] setCell_drewN alloc_drewN
section
variable {P : Program} {ops : Array Oper} {Q : Exit → Act → World → Prop} {md : Region.Mode} {S : World → Prop}
/-- The one operation that may come up, where S is kept. -/
theorem wpAnyH_one {k : Nat} {o : Oper} {fuel : Nat} {listed : Array Bool} {a : Act} {w : World} (hr : Region.ready md ops listed = [k]) (hi : ops[k]? = some o) (hw : Region.wanted o (yielded ops a.tmps) = true)
    (h : ∀ K : Act → World → Prop, (∀ a' w', S w' → wpAnyH P md ops Q S fuel (listed.setIfInBounds k true) a' w' → K a' w') → o.wp P a w K Q) : wpAnyH P md ops Q S (fuel + 1) listed a w := by
  refine wpAnyH_all hr (by simp) (fun i hi' => ?_)
  obtain rfl : i = k := by simpa using hi'
  unfold wpOp
  simp only [hi, hw, if_true]
  exact .inl (h _ (fun a' w' hS hn => ⟨hS, hn⟩))
end
set_option maxRecDepth 100000 in
set_option maxHeartbeats 4000000 in
theorem a_ready_msg (R : Value → World → Prop) (hR : ∀ v V V', R v V → Below V.heap.size V V' → R v V') (no : Int) (so : Option Addr) (sn sc : Nat) (w : World)
    (hC : ∀ V, Below w.heap.size w V → Calls Tryd.prog 12 #[.slice so sn sc] V fun e w' => ∃ v, e = .returned v ∧ (∃ xo xn xc, v = .slice xo xn xc) ∧ Below V.heap.size V w' ∧ R v w') :
    Calls Tryd.prog 21 #[.agg #[.int .i64 no, .iface 35 (.slice so sn sc)]] w fun e w' => ∃ (n : Nat) (x : Value) (w4 : World), w.heap.size + 1 + 1 ≤ n ∧ e = .returned (.agg #[.int .i64 no, .int .i64 2, (.func (.func 53) #[] #[.pointer (some ⟨n + 1, 0, none⟩)] : Value), (.func (.func 55) #[] #[.pointer (some ⟨n, 0, none⟩), .pointer (some ⟨n + 1, 0, none⟩)] : Value), (.func (.func 57) #[] #[.pointer (some ⟨n + 1, 0, none⟩)] : Value)]) ∧ Below w.heap.size w w' ∧ Bx w' n #[.int .i64 no] ∧ Bx w' (n + 1) #[x] ∧ R x w4 ∧ Below w.heap.size w w4 ∧ w' = w4.setRow (w.heap.size + 1) #[.int .i64 no, .int .i64 2, (.func (.func 53) #[] #[.pointer (some ⟨n + 1, 0, none⟩)] : Value), (.func (.func 55) #[] #[.pointer (some ⟨n, 0, none⟩), .pointer (some ⟨n + 1, 0, none⟩)] : Value), (.func (.func 57) #[] #[.pointer (some ⟨n + 1, 0, none⟩)] : Value)] := by
  have R0 := hp2_0 w (.cells #[.int .i64 no, .iface 35 (.slice so sn sc)] 63) (.cells #[.int .i64 0, .int .i64 0, .nilFunc, .nilFunc, .nilFunc] 70)
  have R1 := hp2_1 w (.cells #[.int .i64 no, .iface 35 (.slice so sn sc)] 63) (.cells #[.int .i64 0, .int .i64 0, .nilFunc, .nilFunc, .nilFunc] 70)
  have hb : Below w.heap.size w ((w.alloc (.cells #[.int .i64 no, .iface 35 (.slice so sn sc)] 63)).alloc (.cells #[.int .i64 0, .int .i64 0, .nilFunc, .nilFunc, .nilFunc] 70)) := ((Below.refl _ _).alloc (Nat.le_refl _) _).alloc (by simp) _
  have hz : ((w.alloc (.cells #[.int .i64 no, .iface 35 (.slice so sn sc)] 63)).alloc (.cells #[.int .i64 0, .int .i64 0, .nilFunc, .nilFunc, .nilFunc] 70)).heap.size = w.heap.size + 1 + 1 := by simp
  have c1 : ((w.alloc (.cells #[.int .i64 no, .iface 35 (.slice so sn sc)] 63)).alloc (.cells #[.int .i64 0, .int .i64 0, .nilFunc, .nilFunc, .nilFunc] 70)).cell? ⟨w.heap.size, 1, none⟩ = some (.iface 35 (.slice so sn sc)) := cell_of_row _ _ _ _ _ _ R0
  have t0 := ta_message_numbers (.slice so sn sc)
  have t1 := ta_message_floats (.slice so sn sc)
  have t2 := ta_message_octets (.slice so sn sc)
  have t3 := ta_message (.slice so sn sc)
  have A0 := hide R0
  have A1 := hide R1
  have A2 := hide hb
  have A3 := hide hz
  clear R0 R1 hb hz
  go_enter Tryd.func21, Tryd.ntmps21
  go_wp2_with (fail)
  generalize ((w.alloc (.cells #[.int .i64 no, .iface 35 (.slice so sn sc)] 63)).alloc (.cells #[.int .i64 0, .int .i64 0, .nilFunc, .nilFunc, .nilFunc] 70)) = w2 at *
  have R0 := A0.out
  have R1 := A1.out
  have hb := A2.out
  have hz := A3.out
  clear A0 A1 A2 A3 c1 t0 t1 t2 t3
  refine wp_region_held (S := fun W => W.heap[w.heap.size]? = some (.cells #[.int .i64 no, .iface 35 (.slice so sn sc)] 63 (0, 0))) (by kernel_rfl) ?_
  change wpAnyH _ _ _ _ _ _ _ _ (World.drew _)
  have hbd : Below w2.heap.size w2 w2.drew := below_drN (Below.refl _ _) 1
  replace R0 := keep hbd R0
  replace R1 := keep hbd R1
  replace hb := Below.after hb hbd
  have hz2 : w.heap.size + 1 + 1 ≤ w2.drew.heap.size := Nat.le_trans (Nat.le_of_eq hz.symm) hbd.size
  clear hbd hz
  generalize w2.drew = w3 at *
  refine wpAnyH_take (i := 0) (v := ?v1) rfl (by kernel_rfl) (by kernel_rfl) (by kernel_rfl) (fun _ _ _ h => h) (Or.inl ⟨by rfl, ?y1⟩) R0 ?r1
  case y1 =>
    intro w_ hS_
    go_simp
    try with_reducible rfl
  simp only [Act.put, List.getElem_toArray, List.getElem_cons_zero, List.setIfInBounds_toArray, List.set_cons_succ, List.set_cons_zero]
  refine wpAnyH_take (i := 1) (v := .int .i64 no) rfl (by kernel_rfl) (by kernel_rfl) (by kernel_rfl) (fun _ _ _ h => h) (Or.inl ⟨by rfl, ?y2⟩) R0 ?r2
  case y2 =>
    intro w_ hS_
    have c_ := cell_of_row _ _ 0 _ _ _ hS_
    go_simp
    try with_reducible rfl
  simp only [Act.put, List.getElem_toArray, List.getElem_cons_succ, List.getElem_cons_zero, List.setIfInBounds_toArray, List.set_cons_succ, List.set_cons_zero]
  refine wpAnyH_take (i := 2) (v := ?v3) rfl (by kernel_rfl) (by kernel_rfl) (by kernel_rfl) (fun _ _ _ h => h) (Or.inl ⟨by rfl, ?y3⟩) R0 ?r3
  case y3 =>
    intro w_ hS_
    go_simp
    try with_reducible rfl
  simp only [Act.put, List.getElem_toArray, List.getElem_cons_succ, List.getElem_cons_zero, List.setIfInBounds_toArray, List.set_cons_succ, List.set_cons_zero]
  refine wpAnyH_one (k := 3) (fuel := 2) (by kernel_rfl) rfl (by kernel_rfl) (fun K_ hK => ?_)
  refine wp_call_ex (f := 12) (by kernel_rfl) (hC w3 hb) (fun x w4 hX_ => ?_)
  obtain ⟨⟨xo, xn, xc, rfl⟩, hb4, hx⟩ := hX_
  replace R0 := keep hb4 R0
  replace R1 := keep hb4 R1
  replace hb := Below.after hb hb4
  replace hz2 : w.heap.size + 1 + 1 ≤ w4.heap.size := Nat.le_trans hz2 hb4.size
  clear hb4 hC
  refine hK _ _ R0 ?_
  simp only [Act.put, List.getElem_toArray, List.getElem_cons_succ, List.getElem_cons_zero, List.setIfInBounds_toArray, List.set_cons_succ, List.set_cons_zero]
  clear hK
  refine wpAnyH_one (k := 4) (fuel := 1) (by kernel_rfl) rfl (by kernel_rfl) (fun K_ hK => ?_)
  refine wp_call_ex (f := 37) (R := fun v w' => v = .agg #[.int .i64 no, .int .i64 2, (.func (.func 53) #[] #[.pointer (some ⟨w4.heap.size + 1, 0, none⟩)] : Value), (.func (.func 55) #[] #[.pointer (some ⟨w4.heap.size, 0, none⟩), .pointer (some ⟨w4.heap.size + 1, 0, none⟩)] : Value), (.func (.func 57) #[] #[.pointer (some ⟨w4.heap.size + 1, 0, none⟩)] : Value)] ∧ Below w4.heap.size w4 w' ∧ (∃ T, w'.heap[w4.heap.size]? = some (.cells #[.int .i64 no] T (0, 0))) ∧ (∃ T, w'.heap[w4.heap.size + 1]? = some (.cells #[.slice xo xn xc] T (0, 0)))) (by kernel_rfl) ((a_inner no xo xn xc w4).mono fun e w' h => ⟨_, h.1, rfl, h.2⟩) (fun v_ w5 hX_ => ?_)
  obtain ⟨rfl, hb5, ⟨T0, b0⟩, ⟨T1, b1⟩⟩ := hX_
  replace R0 := keep hb5 R0
  replace R1 := keep hb5 R1
  replace hx := hR _ _ _ hx hb5
  replace hb := Below.after hb hb5
  refine hK _ _ R0 ?_
  simp only [Act.put, List.getElem_toArray, List.getElem_cons_succ, List.getElem_cons_zero, List.setIfInBounds_toArray, List.set_cons_succ, List.set_cons_zero]
  clear hK
  refine wpAnyH_one (k := 5) (fuel := 0) (by kernel_rfl) rfl (by kernel_rfl) (fun K_ hK => ?_)
  refine wp_store_row 70 _ _ rfl (w.heap.size + 1) #[.int .i64 no, .int .i64 2, (.func (.func 53) #[] #[.pointer (some ⟨w4.heap.size + 1, 0, none⟩)] : Value), (.func (.func 55) #[] #[.pointer (some ⟨w4.heap.size, 0, none⟩), .pointer (some ⟨w4.heap.size + 1, 0, none⟩)] : Value), (.func (.func 57) #[] #[.pointer (some ⟨w4.heap.size + 1, 0, none⟩)] : Value)] rfl rfl 70 _ R1 infoSt rfl (by simp [Value.oneCell']) ?_
  refine hK _ _ ((setRow_other w5 (w.heap.size + 1) w.heap.size _ (by omega)).trans R0) ?_
  simp only [Act.put, List.getElem_toArray, List.getElem_cons_succ, List.getElem_cons_zero]
  clear hK
  refine wpAnyH_done (by kernel_rfl) ?_ _
  go_wp2_with (fail)
  exact bodyPost_ret (v := .agg #[.int .i64 no, .int .i64 2, (.func (.func 53) #[] #[.pointer (some ⟨w4.heap.size + 1, 0, none⟩)] : Value), (.func (.func 55) #[] #[.pointer (some ⟨w4.heap.size, 0, none⟩), .pointer (some ⟨w4.heap.size + 1, 0, none⟩)] : Value), (.func (.func 57) #[] #[.pointer (some ⟨w4.heap.size + 1, 0, none⟩)] : Value)]) (results_cell_row Tryd.results21 _ _ (w.heap.size + 1) _ #[.int .i64 no, .int .i64 2, (.func (.func 53) #[] #[.pointer (some ⟨w4.heap.size + 1, 0, none⟩)] : Value), (.func (.func 55) #[] #[.pointer (some ⟨w4.heap.size, 0, none⟩), .pointer (some ⟨w4.heap.size + 1, 0, none⟩)] : Value), (.func (.func 57) #[] #[.pointer (some ⟨w4.heap.size + 1, 0, none⟩)] : Value)] _ _ rfl (setRow_heap _ _ _ _ _ _ R1) Tryd.underlying70 rfl infoSt) rfl ⟨w4.heap.size, _, w5, hz2, rfl, below_setRow hb (by omega) _, ⟨T0, (setRow_other _ _ _ _ (by omega)).trans b0⟩, ⟨T1, (setRow_other _ _ _ _ (by omega)).trans b1⟩, hx, hb, rfl⟩
set_option maxRecDepth 100000 in
set_option maxHeartbeats 4000000 in
theorem a_ready_lst (R : Value → World → Prop) (hR : ∀ v V V', R v V → Below V.heap.size V V' → R v V') (no l mo : Int) (so : Option Addr) (sn sc : Nat) (w : World)
    (hC : ∀ V, Below w.heap.size w V → Calls Tryd.prog 12 #[.slice so sn sc] V fun e w' => ∃ v, e = .returned v ∧ (∃ xo xn xc, v = .slice xo xn xc) ∧ Below V.heap.size V w' ∧ R v w') :
    Calls Tryd.prog 21 #[.agg #[.int .i64 no, .iface 96 (.agg #[.int .u64 l, .int .u64 mo, .slice so sn sc])]] w fun e w' => ∃ (n : Nat) (x : Value) (w4 : World), w.heap.size + 1 + 1 ≤ n ∧ e = .returned (.agg #[.int .i64 no, .int .i64 2, (.func (.func 60) #[] #[.pointer (some ⟨n, 0, none⟩), .pointer (some ⟨n + 1, 0, none⟩), .pointer (some ⟨n + 1 + 1, 0, none⟩)] : Value), (.func (.func 62) #[] #[.pointer (some ⟨n, 0, none⟩), .pointer (some ⟨n + 1 + 1, 0, none⟩)] : Value), (.func (.func 64) #[] #[.pointer (some ⟨n + 1, 0, none⟩), .pointer (some ⟨n + 1 + 1, 0, none⟩)] : Value)]) ∧ Below w.heap.size w w' ∧ Bx w' n #[.int .i64 no] ∧ Bx w' (n + 1) #[.int .u64 l, .int .u64 mo, .slice so sn sc] ∧ Bx w' (n + 1 + 1) #[x] ∧ R x w4 ∧ Below w.heap.size w w4 ∧ w' = w4.setRow (w.heap.size + 1) #[.int .i64 no, .int .i64 2, (.func (.func 60) #[] #[.pointer (some ⟨n, 0, none⟩), .pointer (some ⟨n + 1, 0, none⟩), .pointer (some ⟨n + 1 + 1, 0, none⟩)] : Value), (.func (.func 62) #[] #[.pointer (some ⟨n, 0, none⟩), .pointer (some ⟨n + 1 + 1, 0, none⟩)] : Value), (.func (.func 64) #[] #[.pointer (some ⟨n + 1, 0, none⟩), .pointer (some ⟨n + 1 + 1, 0, none⟩)] : Value)] := by
  have R0 := xp3_0 w (.cells #[.int .i64 no, .iface 96 (.agg #[.int .u64 l, .int .u64 mo, .slice so sn sc])] 63) (.cells #[.int .i64 0, .int .i64 0, .nilFunc, .nilFunc, .nilFunc] 70) (.cells #[.int .u64 l, .int .u64 mo, .slice so sn sc] 96)
  have R1 := xp3_1 w (.cells #[.int .i64 no, .iface 96 (.agg #[.int .u64 l, .int .u64 mo, .slice so sn sc])] 63) (.cells #[.int .i64 0, .int .i64 0, .nilFunc, .nilFunc, .nilFunc] 70) (.cells #[.int .u64 l, .int .u64 mo, .slice so sn sc] 96)
  have R2 := xp3_2 w (.cells #[.int .i64 no, .iface 96 (.agg #[.int .u64 l, .int .u64 mo, .slice so sn sc])] 63) (.cells #[.int .i64 0, .int .i64 0, .nilFunc, .nilFunc, .nilFunc] 70) (.cells #[.int .u64 l, .int .u64 mo, .slice so sn sc] 96)
  have hb := xb3 w (.cells #[.int .i64 no, .iface 96 (.agg #[.int .u64 l, .int .u64 mo, .slice so sn sc])] 63) (.cells #[.int .i64 0, .int .i64 0, .nilFunc, .nilFunc, .nilFunc] 70) (.cells #[.int .u64 l, .int .u64 mo, .slice so sn sc] 96)
  have hz : (((w.alloc (.cells #[.int .i64 no, .iface 96 (.agg #[.int .u64 l, .int .u64 mo, .slice so sn sc])] 63)).alloc (.cells #[.int .i64 0, .int .i64 0, .nilFunc, .nilFunc, .nilFunc] 70)).alloc (.cells #[.int .u64 l, .int .u64 mo, .slice so sn sc] 96)).heap.size = w.heap.size + 1 + 1 + 1 := by simp
  have t0 := ta_lists_numbers (.agg #[.int .u64 l, .int .u64 mo, .slice so sn sc])
  have t1 := ta_lists_floats (.agg #[.int .u64 l, .int .u64 mo, .slice so sn sc])
  have t2 := ta_lists_octets (.agg #[.int .u64 l, .int .u64 mo, .slice so sn sc])
  have t3 := ta_lists_message (.agg #[.int .u64 l, .int .u64 mo, .slice so sn sc])
  have t4 := ta_lists (.agg #[.int .u64 l, .int .u64 mo, .slice so sn sc])
  have A0 := hide R0
  have A1 := hide R1
  have A2 := hide hb
  have A3 := hide hz
  have A4 := hide R2
  clear R0 R1 R2 hb hz
  go_enter Tryd.func21, Tryd.ntmps21
  go_wp2_with (fail)
  generalize (((w.alloc (.cells #[.int .i64 no, .iface 96 (.agg #[.int .u64 l, .int .u64 mo, .slice so sn sc])] 63)).alloc (.cells #[.int .i64 0, .int .i64 0, .nilFunc, .nilFunc, .nilFunc] 70)).alloc (.cells #[.int .u64 l, .int .u64 mo, .slice so sn sc] 96)) = w2 at *
  have R0 := A0.out
  have R1 := A1.out
  have R2 := A4.out
  have hb := A2.out
  have hz := A3.out
  clear A0 A1 A2 A3 A4 t0 t1 t2 t3 t4
  refine wp_region_held (S := fun W => W.heap[w.heap.size]? = some (.cells #[.int .i64 no, .iface 96 (.agg #[.int .u64 l, .int .u64 mo, .slice so sn sc])] 63 (0, 0)) ∧ W.heap[w.heap.size + 1 + 1]? = some (.cells #[.int .u64 l, .int .u64 mo, .slice so sn sc] 96 (0, 0))) (by kernel_rfl) ?_
  change wpAnyH _ _ _ _ _ _ _ _ (World.drew _)
  have hbd : Below w2.heap.size w2 w2.drew := below_drN (Below.refl _ _) 1
  replace R0 := keep hbd R0
  replace R1 := keep hbd R1
  replace R2 := keep hbd R2
  replace hb := Below.after hb hbd
  have hz2 : w.heap.size + 1 + 1 + 1 ≤ w2.drew.heap.size := Nat.le_trans (Nat.le_of_eq hz.symm) hbd.size
  clear hbd hz
  generalize w2.drew = w3 at *
  refine wpAnyH_take (i := 0) (v := ?v4) rfl (by kernel_rfl) (by kernel_rfl) (by kernel_rfl) (fun _ _ _ h => h) (Or.inl ⟨by rfl, ?y4⟩) ⟨R0, R2⟩ ?r4
  case y4 =>
    intro w_ hS_
    go_simp
    try with_reducible rfl
  simp only [Act.put, List.getElem_toArray, List.getElem_cons_zero, List.setIfInBounds_toArray, List.set_cons_succ, List.set_cons_zero]
  refine wpAnyH_take (i := 1) (v := .int .i64 no) rfl (by kernel_rfl) (by kernel_rfl) (by kernel_rfl) (fun _ _ _ h => h) (Or.inl ⟨by rfl, ?y5⟩) ⟨R0, R2⟩ ?r5
  case y5 =>
    intro w_ hS_
    have c_ := cell_of_row _ _ 0 _ _ _ hS_.1
    go_simp
    try with_reducible rfl
  simp only [Act.put, List.getElem_toArray, List.getElem_cons_succ, List.getElem_cons_zero, List.setIfInBounds_toArray, List.set_cons_succ, List.set_cons_zero]
  refine wpAnyH_take (i := 2) (v := .agg #[.int .u64 l, .int .u64 mo, .slice so sn sc]) rfl (by kernel_rfl) (by kernel_rfl) (by kernel_rfl) (fun _ _ _ h => h) (Or.inl ⟨by rfl, ?y6⟩) ⟨R0, R2⟩ ?r6
  case y6 =>
    intro w_ hS_
    have c0_ := cell_of_row _ _ 0 _ _ _ hS_.2
    have c1_ := cell_of_row _ _ 1 _ _ _ hS_.2
    have c2_ := cell_of_row _ _ 2 _ _ _ hS_.2
    go_simp
    try with_reducible rfl
  simp only [Act.put, List.getElem_toArray, List.getElem_cons_succ, List.getElem_cons_zero, List.setIfInBounds_toArray, List.set_cons_succ, List.set_cons_zero]
  refine wpAnyH_take (i := 3) (v := ?v7) rfl (by kernel_rfl) (by kernel_rfl) (by kernel_rfl) (fun _ _ _ h => h) (Or.inl ⟨by rfl, ?y7⟩) ⟨R0, R2⟩ ?r7
  case y7 =>
    intro w_ hS_
    go_simp
    try with_reducible rfl
  simp only [Act.put, List.getElem_toArray, List.getElem_cons_succ, List.getElem_cons_zero, List.setIfInBounds_toArray, List.set_cons_succ, List.set_cons_zero]
  refine wpAnyH_take (i := 4) (v := .slice so sn sc) rfl (by kernel_rfl) (by kernel_rfl) (by kernel_rfl) (fun _ _ _ h => h) (Or.inl ⟨by rfl, ?y8⟩) ⟨R0, R2⟩ ?r8
  case y8 =>
    intro w_ hS_
    have c0_ := cell_of_row _ _ 0 _ _ _ hS_.2
    have c1_ := cell_of_row _ _ 1 _ _ _ hS_.2
    have c2_ := cell_of_row _ _ 2 _ _ _ hS_.2
    go_simp
    try with_reducible rfl
  simp only [Act.put, List.getElem_toArray, List.getElem_cons_succ, List.getElem_cons_zero, List.setIfInBounds_toArray, List.set_cons_succ, List.set_cons_zero]
  refine wpAnyH_one (k := 5) (fuel := 2) (by kernel_rfl) rfl (by kernel_rfl) (fun K_ hK => ?_)
  refine wp_call_ex (f := 12) (by kernel_rfl) (hC w3 hb) (fun x w4 hX_ => ?_)
  obtain ⟨⟨xo, xn, xc, rfl⟩, hb4, hx⟩ := hX_
  replace R0 := keep hb4 R0
  replace R1 := keep hb4 R1
  replace R2 := keep hb4 R2
  replace hb := Below.after hb hb4
  replace hz2 : w.heap.size + 1 + 1 + 1 ≤ w4.heap.size := Nat.le_trans hz2 hb4.size
  clear hb4 hC
  refine hK _ _ ⟨R0, R2⟩ ?_
  simp only [Act.put, List.getElem_toArray, List.getElem_cons_succ, List.getElem_cons_zero, List.setIfInBounds_toArray, List.set_cons_succ, List.set_cons_zero]
  clear hK
  refine wpAnyH_one (k := 6) (fuel := 1) (by kernel_rfl) rfl (by kernel_rfl) (fun K_ hK => ?_)
  refine wp_call_ex (f := 38) (R := fun v w' => v = .agg #[.int .i64 no, .int .i64 2, (.func (.func 60) #[] #[.pointer (some ⟨w4.heap.size, 0, none⟩), .pointer (some ⟨w4.heap.size + 1, 0, none⟩), .pointer (some ⟨w4.heap.size + 1 + 1, 0, none⟩)] : Value), (.func (.func 62) #[] #[.pointer (some ⟨w4.heap.size, 0, none⟩), .pointer (some ⟨w4.heap.size + 1 + 1, 0, none⟩)] : Value), (.func (.func 64) #[] #[.pointer (some ⟨w4.heap.size + 1, 0, none⟩), .pointer (some ⟨w4.heap.size + 1 + 1, 0, none⟩)] : Value)] ∧ Below w4.heap.size w4 w' ∧ (∃ T, w'.heap[w4.heap.size]? = some (.cells #[.int .i64 no] T (0, 0))) ∧ (∃ T, w'.heap[w4.heap.size + 1]? = some (.cells #[.int .u64 l, .int .u64 mo, .slice so sn sc] T (0, 0))) ∧ (∃ T, w'.heap[w4.heap.size + 1 + 1]? = some (.cells #[.slice xo xn xc] T (0, 0)))) (by kernel_rfl) ((a_listed no l mo so sn sc xo xn xc w4).mono fun e w' h => ⟨_, h.1, rfl, h.2⟩) (fun v_ w5 hX_ => ?_)
  obtain ⟨rfl, hb5, ⟨T0, b0⟩, ⟨T1, b1⟩, ⟨T2, b2⟩⟩ := hX_
  replace R0 := keep hb5 R0
  replace R1 := keep hb5 R1
  replace R2 := keep hb5 R2
  replace hx := hR _ _ _ hx hb5
  replace hb := Below.after hb hb5
  refine hK _ _ ⟨R0, R2⟩ ?_
  simp only [Act.put, List.getElem_toArray, List.getElem_cons_succ, List.getElem_cons_zero, List.setIfInBounds_toArray, List.set_cons_succ, List.set_cons_zero]
  clear hK
  refine wpAnyH_one (k := 7) (fuel := 0) (by kernel_rfl) rfl (by kernel_rfl) (fun K_ hK => ?_)
  refine wp_store_row 70 _ _ rfl (w.heap.size + 1) #[.int .i64 no, .int .i64 2, (.func (.func 60) #[] #[.pointer (some ⟨w4.heap.size, 0, none⟩), .pointer (some ⟨w4.heap.size + 1, 0, none⟩), .pointer (some ⟨w4.heap.size + 1 + 1, 0, none⟩)] : Value), (.func (.func 62) #[] #[.pointer (some ⟨w4.heap.size, 0, none⟩), .pointer (some ⟨w4.heap.size + 1 + 1, 0, none⟩)] : Value), (.func (.func 64) #[] #[.pointer (some ⟨w4.heap.size + 1, 0, none⟩), .pointer (some ⟨w4.heap.size + 1 + 1, 0, none⟩)] : Value)] rfl rfl 70 _ R1 infoSt rfl (by simp [Value.oneCell']) ?_
  refine hK _ _ ⟨(setRow_other w5 (w.heap.size + 1) w.heap.size _ (by omega)).trans R0, (setRow_other w5 (w.heap.size + 1) (w.heap.size + 1 + 1) _ (by omega)).trans R2⟩ ?_
  simp only [Act.put, List.getElem_toArray, List.getElem_cons_succ, List.getElem_cons_zero]
  clear hK
  refine wpAnyH_done (by kernel_rfl) ?_ _
  go_wp2_with (fail)
  exact bodyPost_ret (v := .agg #[.int .i64 no, .int .i64 2, (.func (.func 60) #[] #[.pointer (some ⟨w4.heap.size, 0, none⟩), .pointer (some ⟨w4.heap.size + 1, 0, none⟩), .pointer (some ⟨w4.heap.size + 1 + 1, 0, none⟩)] : Value), (.func (.func 62) #[] #[.pointer (some ⟨w4.heap.size, 0, none⟩), .pointer (some ⟨w4.heap.size + 1 + 1, 0, none⟩)] : Value), (.func (.func 64) #[] #[.pointer (some ⟨w4.heap.size + 1, 0, none⟩), .pointer (some ⟨w4.heap.size + 1 + 1, 0, none⟩)] : Value)]) (results_cell_row Tryd.results21 _ _ (w.heap.size + 1) _ #[.int .i64 no, .int .i64 2, (.func (.func 60) #[] #[.pointer (some ⟨w4.heap.size, 0, none⟩), .pointer (some ⟨w4.heap.size + 1, 0, none⟩), .pointer (some ⟨w4.heap.size + 1 + 1, 0, none⟩)] : Value), (.func (.func 62) #[] #[.pointer (some ⟨w4.heap.size, 0, none⟩), .pointer (some ⟨w4.heap.size + 1 + 1, 0, none⟩)] : Value), (.func (.func 64) #[] #[.pointer (some ⟨w4.heap.size + 1, 0, none⟩), .pointer (some ⟨w4.heap.size + 1 + 1, 0, none⟩)] : Value)] _ _ rfl (setRow_heap _ _ _ _ _ _ R1) Tryd.underlying70 rfl infoSt) rfl ⟨w4.heap.size, _, w5, by omega, rfl, below_setRow hb (by omega) _, ⟨T0, (setRow_other _ _ _ _ (by omega)).trans b0⟩, ⟨T1, (setRow_other _ _ _ _ (by omega)).trans b1⟩, ⟨T2, (setRow_other _ _ _ _ (by omega)).trans b2⟩, hx, hb, rfl⟩
end Go.Proofs.YtdfpmgjholdknaaDoor
