import Derived.Test.YtleeadbceljfbaaGreatDoorAsf
import Derived.Test.YtleeadbceljfbaaGreatDoorJrg
import Derived.OwnWalk
import Derived.Deep.Cut
import Derived.Deep.RegionHeld3
import Derived.OrdersHeld
namespace Go.Proofs.YtleeadbceljfbaaGreatDoor
set_option maxRecDepth 100000
open Go Go.RowKit Go.Sort
attribute [local go_sem] setCell_drewN alloc_drewN
theorem wpAnyH_skip {P : Program} {ops : Array Oper} {Q : Exit → Act → World → Prop} {md : Region.Mode} {S : World → Prop} {k : Nat} {o : Oper} {fuel : Nat} {listed : Array Bool} {a : Act} {w : World} (hr : Region.ready md ops listed = [k]) (hi : ops[k]? = some o) (hw : Region.wanted o (yielded ops a.tmps) = false) (hS : S w)
    (h : wpAnyH P md ops Q S fuel (listed.setIfInBounds k true) (a.put o.dst undef) w) : wpAnyH P md ops Q S (fuel + 1) listed a w := by
  refine wpAnyH_all hr (by simp) (fun i hi' => ?_)
  obtain rfl : i = k := by simpa using hi'
  unfold wpOp
  simp only [hi, hw, Bool.false_eq_true, if_false]
  exact ⟨hS, h⟩
theorem run_eql_op {P : Program} {o : Oper} {a : Act} {w : World} (t u : TypeId) (x y : Operand) (ho : o.op = .binOp .eql t x y u) (X Y : Array Value) (hx : a.eval x = .agg X) (hy : a.eval y = .agg Y) (hg : P.eqGuardType P.depth t = false) (B : Bool) (he : (Op.equalIn 10000 t (.agg X) (.agg Y)).run P w = .ok B w) : (execOp a.eval o).run P w = .ok (.value (.bool B)) w := by
  unfold execOp
  simp only [ho, hx, hy, Sem.run_bind, Sem.run_pure, Result.andThen_ok, run_eqGuard_agg w .eql t x y X Y hg, run_eql_struct, he]
theorem run_neq_op {P : Program} {o : Oper} {a : Act} {w : World} (t u : TypeId) (x y : Operand) (ho : o.op = .binOp .neq t x y u) (X Y : Array Value) (hx : a.eval x = .agg X) (hy : a.eval y = .agg Y) (hg : P.eqGuardType P.depth t = false) (B : Bool) (he : (Op.equalIn 10000 t (.agg X) (.agg Y)).run P w = .ok B w) : (execOp a.eval o).run P w = .ok (.value (.bool (!B))) w := by
  unfold execOp
  simp only [ho, hx, hy, Sem.run_bind, Sem.run_pure, Result.andThen_ok, run_eqGuard_agg w .neq t x y X Y hg, run_neq_struct, he]
theorem fldFt : ∃ f0 f1 f2, (Tryz.prog.fieldsOf 65).toList = [f0, f1, f2] ∧ f0.name ≠ "_" ∧ f0.type = 3 ∧ f0.offset = 0 ∧ f1.name ≠ "_" ∧ f1.type = 3 ∧ f1.offset = 1 ∧ f2.name ≠ "_" ∧ f2.type = 23 ∧ f2.offset = 2 := ⟨_, _, _, rfl, by decide, rfl, rfl, by decide, rfl, rfl, by decide, rfl, rfl⟩
theorem strFt : Tryz.prog.underlying 65 = some (.struct (Tryz.prog.fieldsOf 65)) := by kernel_rfl
theorem stoFt : Tryz.prog.stoodInHeld 65 = false := by kernel_rfl
theorem part_iF {cs : Array Value} {n : Int} {o : Nat} (h : cs[o]? = some (.int .i64 n)) (W : World) : (part 3 cs o).run Tryz.prog W = .ok (.int .i64 n) W := by
  have ha : (isAgg 3).run Tryz.prog W = .ok false W := by
    unfold isAgg
    rw [Sem.run_bind, run_underlying Tryz.underlying3 W]
    rfl
  simp [part, Sem.run_bind, ha, h]
theorem part_nF {cs : Array Value} {n : Int} {o : Nat} (h : cs[o]? = some (.int .i64 n)) (W : World) : (part 23 cs o).run Tryz.prog W = .ok (.int .i64 n) W := by
  have ha : (isAgg 23).run Tryz.prog W = .ok false W := by
    unfold isAgg
    rw [Sem.run_bind, run_underlying Tryz.underlying23 W]
    rfl
  simp [part, Sem.run_bind, ha, h]
theorem eq_ftr (x : Flt3) (W : World) : (Op.equalIn 10000 65 (.agg (frw x)) (.agg (frw x))).run Tryz.prog W = .ok true W := by
  unfold frw
  obtain ⟨f0, f1, f2, hf, n0, t0, o0, n1, t1, o1, n2, t2, o2⟩ := fldFt
  rw [run_equalIn_struct W 9999 65 _ _ strFt stoFt, hf]
  have i0 := fun p q => run_equalIn_int W (P := Tryz.prog) 9998 3 .i64 .i64 p q Tryz.underlying3
  have i1 := fun p q => run_equalIn_int W (P := Tryz.prog) 9998 23 .i64 .i64 p q Tryz.underlying23
  rw [eqf_cons n0 (by rw [t0, o0]; exact part_iF rfl W) (by rw [t0, o0]; exact part_iF rfl W) (by rw [t0]; exact i0 x.line x.line), eqf_cons n1 (by rw [t1, o1]; exact part_iF rfl W) (by rw [t1, o1]; exact part_iF rfl W) (by rw [t1]; exact i0 x.at_ x.at_), eqf_cons n2 (by rw [t2, o2]; exact part_nF rfl W) (by rw [t2, o2]; exact part_nF rfl W) (by rw [t2]; exact i1 x.why x.why), eqf_nil]
  simp
theorem Ety.keep {w w' : World} {n : Nat} (h : Ety w) (hb : Below n w w') (hn : n = w.heap.size) : Ety w' := by
  subst hn
  unfold Ety at *
  have hl : 0 < w.heap.size := by
    rcases Nat.lt_or_ge 0 w.heap.size with q | q
    · exact q
    · simp [World.cell?, Array.getElem?_eq_none q] at h
  rw [World.cell?_of_block (hb.block _ hl)]
  exact h
theorem bFt (cs : Array Value) (W : World) : (Instr.box 65 (.agg cs)).run Tryz.prog W = .ok (.pointer (some ⟨W.heap.size, 0, none⟩)) (W.alloc (.cells cs 65)) := by kernel_rfl
theorem eql_nilE (W : World) : (binOp .eql 40 .nilIface .nilIface).run Tryz.prog W = .ok (.bool true) W := by kernel_rfl
theorem frw_one (x : Flt3) : (frw x).all (·.oneCell') = true := by simp [frw, Value.oneCell']
/-- errors.As at an *api.Fault, as the contracts here ask it. -/
theorem as_fault (g k : Nat) (w : World) (hE : Ety w) (hk : w.heap[k]? = some (.cells #[.pointer none] 83 (0, 0))) : Calls Tryz.prog 40 #[.iface 83 (.pointer (some ⟨g, 0, none⟩)), .iface 86 (.pointer (some ⟨k, 0, none⟩))] w fun e w' => e = .returned (.bool true) ∧ w'.heap[k]? = some (.cells #[.pointer (some ⟨g, 0, none⟩)] 83 (0, 0)) ∧ But k w w' := by
  have hl := lt_of_row hk
  refine (as_hit ⟨g, 0, none⟩ ⟨k, 0, none⟩ (.pointer none) w hE (by rw [cell_of_row _ _ _ _ _ _ hk]; rfl) (row_frozen hk 0)).mono ?_
  rintro e w' ⟨rfl, rfl⟩
  have hb : Below w.heap.size w ((((w.alloc (.cells #[.pointer (some ⟨k, 0, none⟩)] 86)).alloc (.cells #[.pointer (some ⟨4, 86, none⟩), .pointer (some ⟨w.heap.size, 0, none⟩), .int .u64 150] 112)).alloc (.cells #[.pointer (some ⟨4, 86, none⟩), .pointer (some ⟨w.heap.size, 0, none⟩), .int .u64 150] 112)).alloc (.cells #[.pointer (some ⟨g, 0, none⟩)] 83)) := ((((Below.refl _ _).alloc (Nat.le_refl _) _).alloc (by simp) _).alloc (by simp; omega) _).alloc (by simp; omega) _
  generalize (((w.alloc (.cells #[.pointer (some ⟨k, 0, none⟩)] 86)).alloc (.cells #[.pointer (some ⟨4, 86, none⟩), .pointer (some ⟨w.heap.size, 0, none⟩), .int .u64 150] 112)).alloc (.cells #[.pointer (some ⟨4, 86, none⟩), .pointer (some ⟨w.heap.size, 0, none⟩), .int .u64 150] 112)).alloc (.cells #[.pointer (some ⟨g, 0, none⟩)] 83) = w4 at *
  exact ⟨rfl, row_set (keep hb hk) 0 _, (But.of hb).trans (But.set w4 _)⟩
theorem infoFrw (x : Flt3) : (Tryz.prog.info? 65).map (·.size) = some (frw x).size := by
  rw [show (frw x).size = 3 from rfl]
  kernel_rfl
set_option maxRecDepth 100000 in
set_option maxHeartbeats 8000000 in
theorem l_faulty_nil (a b : Int) (w : World) : Calls Tryz.prog 29 #[.nilIface, .agg #[.int .i64 a, .int .i64 b, .int .i64 0]] w fun e w' => e = .returned (.bool true) ∧ Below w.heap.size w w' := by
  have h1 := eql_nilE
  have hw : Below w.heap.size w (w.alloc (.cells #[.int .i64 a, .int .i64 b, .int .i64 0] 65)) := (Below.refl _ _).alloc (Nat.le_refl _) _
  replace hw := hide hw
  go_enter Tryz.func29, Tryz.ntmps29
  go_wp2
  go_ret
  exact ⟨rfl, hw.out⟩
set_option maxRecDepth 100000 in
set_option maxHeartbeats 8000000 in
theorem l_faulty_hit (x : Flt3) (hx : x.why ≠ 0) (g : Nat) (w : World) (hE : Ety w) (hg : w.heap[g]? = some (.cells (frw x) 65 (0, 0))) : Calls Tryz.prog 29 #[.iface 83 (.pointer (some ⟨g, 0, none⟩)), .agg (frw x)] w fun e w' => e = .returned (.bool true) ∧ Below w.heap.size w w' := by
  have hgl := lt_of_row hg
  have R0 := hp2_0 w (.cells (frw x) 65) (.cells #[.pointer none] 83)
  have R1 := hp2_1 w (.cells (frw x) 65) (.cells #[.pointer none] 83)
  have hw : Below w.heap.size w ((w.alloc (.cells (frw x) 65)).alloc (.cells #[.pointer none] 83)) := ((Below.refl _ _).alloc (Nat.le_refl _) _).alloc (by simp) _
  replace hg := keep hw hg
  replace hE := hE.keep hw rfl
  have bE : (x.why == 0) = false := by simpa using hx
  have cW : (w.alloc (.cells (frw x) 65)).cell? ⟨w.heap.size, 2, none⟩ = some (.int .i64 x.why) := by rw [cell_of_row _ _ _ _ _ _ (hp1_0 w (.cells (frw x) 65))]; rfl
  replace hx := hide hx
  go_enter Tryz.func29, Tryz.ntmps29
  go_upto_region 4 with (first | (refine wpList_box rfl 65 _ rfl _ rfl (bFt _) ?_) | fail)
  try simp only [size_alloc1, Act.put, List.setIfInBounds_toArray, List.set_cons_succ, List.set_cons_zero]
  generalize ((w.alloc (.cells (frw x) 65)).alloc (.cells #[.pointer none] 83)) = w1 at *
  have hbd : Below w1.heap.size w1 w1.drew := below_drN (Below.refl _ _) 1
  replace R0 := keep hbd R0
  replace R1 := keep hbd R1
  replace hg := keep hbd hg
  replace hE := hE.keep hbd rfl
  replace hw := Below.after hw hbd
  have HS : (fun W : World => W.heap[w.heap.size]? = some (.cells (frw x) 65 (0, 0)) ∧ W.heap[g]? = some (.cells (frw x) 65 (0, 0))) w1.drew := ⟨R0, hg⟩
  clear hbd R0 hg cW
  refine wp_region_noPanic ?_
  refine wp_region_held (S := fun W : World => W.heap[w.heap.size]? = some (.cells (frw x) 65 (0, 0)) ∧ W.heap[g]? = some (.cells (frw x) 65 (0, 0))) (by kernel_rfl) ?_
  change wpAnyH _ _ _ _ _ _ _ _ (World.drew _)
  generalize w1.drew = w2 at *
  refine wpAnyH_take (i := 0) (v := ?v1) rfl (by kernel_rfl) (by kernel_rfl) (by kernel_rfl) (fun _ _ _ h => h) (Or.inl ⟨by rfl, ?y1⟩) HS ?r1
  case y1 =>
    intro w_ hS_
    go_simp
    try with_reducible rfl
  simp only [Act.put, List.getElem_toArray, List.getElem_cons_zero, List.setIfInBounds_toArray, List.set_cons_succ, List.set_cons_zero]
  refine wpAnyH_take (i := 1) (v := .iface 86 (.pointer (some ⟨w.heap.size + 1, 0, none⟩))) rfl (by kernel_rfl) (by kernel_rfl) (by kernel_rfl) (fun _ _ _ h => h) (Or.inl ⟨by rfl, ?y2⟩) HS ?r2
  case y2 =>
    intro w_ hS_
    go_simp
    try with_reducible rfl
  simp only [Act.put, List.getElem_toArray, List.getElem_cons_succ, List.getElem_cons_zero, List.setIfInBounds_toArray, List.set_cons_succ, List.set_cons_zero]
  refine wpAnyH_one (k := 2) (fuel := 12) (by kernel_rfl) rfl (by rfl) (fun K_ hK => ?_)
  refine wp_call_ex (f := 40) (R := fun v w' => v = .bool true ∧ w'.heap[w.heap.size + 1]? = some (.cells #[.pointer (some ⟨g, 0, none⟩)] 83 (0, 0)) ∧ But (w.heap.size + 1) w2 w') (by kernel_rfl) ((as_fault g (w.heap.size + 1) w2 hE R1).mono (fun e w' h => (by obtain ⟨e1, e2⟩ := h; exact ⟨_, e1, rfl, e2⟩ : ∃ v, e = .returned v ∧ v = .bool true ∧ w'.heap[w.heap.size + 1]? = some (.cells #[.pointer (some ⟨g, 0, none⟩)] 83 (0, 0)) ∧ But (w.heap.size + 1) w2 w'))) (fun v_ w3 hX_ => ?_)
  obtain ⟨rfl, R1', hbu⟩ := hX_
  have HS' : (fun W : World => W.heap[w.heap.size]? = some (.cells (frw x) 65 (0, 0)) ∧ W.heap[g]? = some (.cells (frw x) 65 (0, 0))) w3 := ⟨hbu.row HS.1 (by omega), hbu.row HS.2 (by omega)⟩
  replace hw := But.after hw (by omega) hbu
  have cF : w3.cell? ⟨w.heap.size + 1, 0, none⟩ = some (.pointer (some ⟨g, 0, none⟩)) := by rw [cell_of_row _ _ _ _ _ _ R1']; rfl
  clear hbu R1 hE HS
  have HS := HS'
  clear HS'
  refine hK _ _ HS ?_
  simp only [Act.put, List.getElem_toArray, List.getElem_cons_succ, List.getElem_cons_zero, List.setIfInBounds_toArray, List.set_cons_succ, List.set_cons_zero]
  clear hK
  refine wpAnyH_take (i := 3) (v := ?v3) rfl (by kernel_rfl) (by kernel_rfl) (by kernel_rfl) (fun _ _ _ h => h) (Or.inl ⟨by rfl, ?y3⟩) HS ?r3
  case y3 =>
    intro w_ hS_
    go_simp
    try with_reducible rfl
  simp only [Act.put, List.getElem_toArray, List.getElem_cons_succ, List.getElem_cons_zero, List.setIfInBounds_toArray, List.set_cons_succ, List.set_cons_zero]
  refine wpAnyH_one (k := 4) (fuel := 10) (by kernel_rfl) rfl (by rfl) (fun K_ hK => ?_)
  refine wp_val_op (.pointer (some ⟨g, 0, none⟩)) (w' := w3) (by go_simp; try with_reducible rfl) ?_
  refine hK _ _ HS ?_
  simp only [Act.put, List.getElem_toArray, List.getElem_cons_succ, List.getElem_cons_zero, List.setIfInBounds_toArray, List.set_cons_succ, List.set_cons_zero]
  clear hK
  refine wpAnyH_take (i := 5) (v := ?v4) rfl (by kernel_rfl) (by kernel_rfl) (by kernel_rfl) (fun _ _ _ h => h) (Or.inl ⟨by rfl, ?y4⟩) HS ?r4
  case y4 =>
    intro w_ hS_
    go_simp
    try with_reducible rfl
  simp only [Act.put, List.getElem_toArray, List.getElem_cons_succ, List.getElem_cons_zero, List.setIfInBounds_toArray, List.set_cons_succ, List.set_cons_zero]
  refine wpAnyH_take (i := 6) (v := ?v5) rfl (by kernel_rfl) (by kernel_rfl) (by kernel_rfl) (fun _ _ _ h => h) (Or.inl ⟨by rfl, ?y5⟩) HS ?r5
  case y5 =>
    intro w_ hS_
    go_simp
    try with_reducible rfl
  simp only [Act.put, List.getElem_toArray, List.getElem_cons_succ, List.getElem_cons_zero, List.setIfInBounds_toArray, List.set_cons_succ, List.set_cons_zero]
  refine wpAnyH_take (i := 7) (v := ?v6) rfl (by kernel_rfl) (by kernel_rfl) (by kernel_rfl) (fun _ _ _ h => h) (Or.inl ⟨by rfl, ?y6⟩) HS ?r6
  case y6 =>
    intro w_ hS_
    go_simp
    try with_reducible rfl
  simp only [Act.put, List.getElem_toArray, List.getElem_cons_succ, List.getElem_cons_zero, List.setIfInBounds_toArray, List.set_cons_succ, List.set_cons_zero]
  refine wpAnyH_take (i := 11) (v := .agg (frw x)) rfl (by kernel_rfl) (by kernel_rfl) (by kernel_rfl) (fun _ _ _ h => h) (Or.inl ⟨by rfl, ?y7⟩) HS ?r7
  case y7 =>
    intro w_ hS_
    simp only [List.getElem_toArray, List.getElem_cons_succ, List.getElem_cons_zero]
    exact run_load_part 65 _ (by rfl) (w.heap.size) 0 (by rfl) 65 (frw x) (0, 0) (frw x) _ (hS_.1) (all_rowB _) Tryz.underlying65 rfl (infoFrw x)
  simp only [Act.put, List.getElem_toArray, List.getElem_cons_succ, List.getElem_cons_zero, List.setIfInBounds_toArray, List.set_cons_succ, List.set_cons_zero]
  refine wpAnyH_one (k := 8) (fuel := 5) (by kernel_rfl) rfl (by rfl) (fun K_ hK => ?_)
  refine wp_val_op (.pointer (some ⟨g, 0, none⟩)) (w' := w3) (by go_simp; try with_reducible rfl) ?_
  refine hK _ _ HS ?_
  simp only [Act.put, List.getElem_toArray, List.getElem_cons_succ, List.getElem_cons_zero, List.setIfInBounds_toArray, List.set_cons_succ, List.set_cons_zero]
  clear hK
  refine wpAnyH_take (i := 9) (v := ?v8) rfl (by kernel_rfl) (by kernel_rfl) (by kernel_rfl) (fun _ _ _ h => h) (Or.inl ⟨by rfl, ?y8⟩) HS ?r8
  case y8 =>
    intro w_ hS_
    go_simp
    try with_reducible rfl
  simp only [Act.put, List.getElem_toArray, List.getElem_cons_succ, List.getElem_cons_zero, List.setIfInBounds_toArray, List.set_cons_succ, List.set_cons_zero]
  refine wpAnyH_take (i := 10) (v := .agg (frw x)) rfl (by kernel_rfl) (by kernel_rfl) (by kernel_rfl) (fun _ _ _ h => h) (Or.inl ⟨by rfl, ?y9⟩) HS ?r9
  case y9 =>
    intro w_ hS_
    simp only [List.getElem_toArray, List.getElem_cons_succ, List.getElem_cons_zero]
    exact run_load_part 65 _ (by rfl) (g) 0 (by rfl) 65 (frw x) (0, 0) (frw x) _ (hS_.2) (all_rowB _) Tryz.underlying65 rfl (infoFrw x)
  simp only [Act.put, List.getElem_toArray, List.getElem_cons_succ, List.getElem_cons_zero, List.setIfInBounds_toArray, List.set_cons_succ, List.set_cons_zero]
  refine wpAnyH_take (i := 12) (v := (.bool true)) rfl (by kernel_rfl) (by kernel_rfl) (by kernel_rfl) (fun _ _ _ h => h) (Or.inl ⟨by rfl, ?y10⟩) HS ?r10
  case y10 =>
    intro w_ hS_
    simp only [List.getElem_toArray, List.getElem_cons_succ, List.getElem_cons_zero]
    exact run_eql_op 65 65 _ _ (by rfl) (frw x) (frw x) (by rfl) (by rfl) (by kernel_rfl) true (eq_ftr x _)
  simp only [Act.put, List.getElem_toArray, List.getElem_cons_succ, List.getElem_cons_zero, List.setIfInBounds_toArray, List.set_cons_succ, List.set_cons_zero]
  refine wpAnyH_take (i := 13) (v := ?v11) rfl (by kernel_rfl) (by kernel_rfl) (by kernel_rfl) (fun _ _ _ h => h) (Or.inl ⟨by rfl, ?y11⟩) HS ?r11
  case y11 =>
    intro w_ hS_
    go_simp
    try with_reducible rfl
  simp only [Act.put, List.getElem_toArray, List.getElem_cons_succ, List.getElem_cons_zero, List.setIfInBounds_toArray, List.set_cons_succ, List.set_cons_zero]
  refine wpAnyH_take (i := 14) (v := ?v12) rfl (by kernel_rfl) (by kernel_rfl) (by kernel_rfl) (fun _ _ _ h => h) (Or.inl ⟨by rfl, ?y12⟩) HS ?r12
  case y12 =>
    intro w_ hS_
    go_simp
    try with_reducible rfl
  simp only [Act.put, List.getElem_toArray, List.getElem_cons_succ, List.getElem_cons_zero, List.setIfInBounds_toArray, List.set_cons_succ, List.set_cons_zero]
  refine wpAnyH_done (by kernel_rfl) ?_ _
  refine NoPanic.normal ?_
  go_wp2_with (fail)
  go_ret
  exact ⟨rfl, hw⟩
end Go.Proofs.YtleeadbceljfbaaGreatDoor
