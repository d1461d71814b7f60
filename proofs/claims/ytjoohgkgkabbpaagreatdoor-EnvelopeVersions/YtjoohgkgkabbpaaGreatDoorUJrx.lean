import Derived.Test.YtjoohgkgkabbpaaGreatDoorProg
import Derived.WalkKit
import Derived.WalkSpells
import Derived.WalkLawsBesides
import Derived.Lib.QuietBelow
import Derived.BigQuiet
import Derived.OrdersHeld
import Derived.Deep.RegionHeld3
import Derived.OwnWalk
import Derived.Test.YtjoohgkgkabbpaaGreatDoorUOpen
import Derived.Test.YtjoohgkgkabbpaaGreatDoorUQa1
import Derived.Test.YtjoohgkgkabbpaaGreatDoorUQb9
import Derived.Deep.Slices
import Derived.ChangeSlices
import Derived.SizedLaws
import Derived.Test.YtjoohgkgkabbpaaGreatDoorUAsf
import Derived.Deep.Cut
namespace Go.Proofs.YtjoohgkgkabbpaaGreatDoor
set_option maxRecDepth 100000
open Go Go.RowKit Go.Sort
attribute [local go_sem] setCell_drewN alloc_drewN
theorem iU8g : ∃ i, Tryz.prog.info? 5 = some i := by
 cases h : Tryz.prog.info? 5 with
 | some i => exact ⟨i, rfl⟩
 | none => exact absurd (show (Tryz.prog.info? 5).isSome = true by kernel_rfl) (by rw [h]; decide)
theorem cU8g : Tryz.prog.cellsOf 5 = 1 := by kernel_rfl
theorem eqf_cons {P : Program} {W : World} {d : Nat} {xs ys : Array Value} {f : Field} {fs : List Field} {a b : Value} {r : Bool} (hn : f.name ≠ "_") (ha : (part f.type xs f.offset).run P W = .ok a W) (hb : (part f.type ys f.offset).run P W = .ok b W) (he : (Op.equalIn d f.type a b).run P W = .ok r W) :
 (Op.eqFields d xs ys (f :: fs)).run P W = if r = true then (Op.eqFields d xs ys fs).run P W else .ok false W := by
 rw [Op.eqFields, if_pos hn, Sem.run_bind, ha, Result.andThen_ok, Sem.run_bind, hb, Result.andThen_ok, Sem.run_bind, he, Result.andThen_ok]
 cases r <;> simp
theorem eqf_nil {P : Program} {W : World} {d : Nat} {xs ys : Array Value} : (Op.eqFields d xs ys []).run P W = .ok true W := by
 rw [Op.eqFields, Sem.run_pure]
theorem wpList_build_want {P : Program} {ops : Array Oper} {rest : List Oper} {o : Oper} {a : Act} {w : World} {Q : Exit → Act → World → Prop} (hw : Region.wanted o (yielded ops a.tmps) = true) (t : TypeId) (parts : Array (Nat × Operand)) (ho : o.op = .build t parts)
 (vals : List (Nat × Value)) (hv : parts.toList.map (fun (i, x) => (i, a.eval x)) = vals) (cells : Array Value) (hb : P.built t vals = some cells)
 (h : wpList P ops Q rest (a.put o.dst (.agg cells)) w) : wpList P ops Q (o :: rest) a w := by
 rw [← Array.toList_map] at hv
 subst hv
 refine BigFrame.wpList_want hw fun _ hK => ?_
 unfold Oper.wp execOp
 simp only [ho, Sem.run_bind, run_build w t _ cells hb, Result.andThen_ok]
 exact hK _ _ h
end Go.Proofs.YtjoohgkgkabbpaaGreatDoor
namespace Go.Proofs.YtjoohgkgkabbpaaGreatDoor
set_option maxRecDepth 100000
open Go Go.RowKit Go.Sort Go.ChangeShapes Go.WideShapes Go.Deep
end Go.Proofs.YtjoohgkgkabbpaaGreatDoor
namespace Go.Proofs.YtjoohgkgkabbpaaGreatDoor
set_option maxRecDepth 100000
open Go Go.RowKit Go.Sort
attribute [local go_sem] setCell_drewN alloc_drewN
section
variable {P : Program}
theorem run_load_part {o : Oper} {a : Act} {w : World} (ty : TypeId) (x : Operand) (ho : o.op = .load ty x) (g off : Nat) (hx : a.eval x = .pointer (some ⟨g, off, none⟩)) (t : TypeId) (cs : Array Value) (fr : Nat × Nat) (part : Array Value) (d : TypeDesc) (hg : w.heap[g]? = some (.cells cs t fr)) (hp : cs.extract off (off + part.size) = part)
 (hu : P.underlying ty = some d) (hd : d.isRow = true) (hi : (P.info? ty).map (·.size) = some part.size) : (execOp a.eval o).run P w = .ok (.value (.agg part)) w := by
 have hr := World.rangeAt_of_block hg off part.size
 rw [hp] at hr
 have hl := run_loadVar_mid (P := P) w g off ty part.toList d hr hu hd (by simpa using hi)
 unfold execOp
 simp only [ho, hx, Instr.loadAt, Instr.sureAddr, Sem.run_bind, Sem.run_pure, Result.andThen_ok, hl]
end
section
variable {P : Program} {ops : Array Oper} {Q : Exit → Act → World → Prop} {md : Region.Mode} {S : World → Prop}
end
theorem all_rowB (cs : Array Value) : cs.extract 0 (0 + cs.size) = cs := by simp
end Go.Proofs.YtjoohgkgkabbpaaGreatDoor
namespace Go.Proofs.YtjoohgkgkabbpaaGreatDoor
set_option maxRecDepth 100000
open Go Go.RowKit Go.Sort
attribute [local go_sem] setCell_drewN alloc_drewN
theorem run_eql_op {P : Program} {o : Oper} {a : Act} {w : World} (t u : TypeId) (x y : Operand) (ho : o.op = .binOp .eql t x y u) (X Y : Array Value) (hx : a.eval x = .agg X) (hy : a.eval y = .agg Y) (hg : P.eqGuardType P.depth t = false) (B : Bool) (he : (Op.equalIn 10000 t (.agg X) (.agg Y)).run P w = .ok B w) : (execOp a.eval o).run P w = .ok (.value (.bool B)) w := by
 unfold execOp
 simp only [ho, hx, hy, Sem.run_bind, Sem.run_pure, Result.andThen_ok, run_eqGuard_agg w .eql t x y X Y hg, run_eql_struct, he]
theorem fldFt : ∃ f0 f1 f2, (Tryz.prog.fieldsOf 35).toList = [f0, f1, f2] ∧ f0.name ≠ "_" ∧ f0.type = 3 ∧ f0.offset = 0 ∧ f1.name ≠ "_" ∧ f1.type = 3 ∧ f1.offset = 1 ∧ f2.name ≠ "_" ∧ f2.type = 33 ∧ f2.offset = 2 := ⟨_, _, _, rfl, by decide, rfl, rfl, by decide, rfl, rfl, by decide, rfl, rfl⟩
theorem strFt : Tryz.prog.underlying 35 = some (.struct (Tryz.prog.fieldsOf 35)) := by kernel_rfl
theorem stoFt : Tryz.prog.stoodInHeld 35 = false := by kernel_rfl
theorem part_iF {cs : Array Value} {n : Int} {o : Nat} (h : cs[o]? = some (.int .i64 n)) (W : World) : (part 3 cs o).run Tryz.prog W = .ok (.int .i64 n) W := by
 have ha : (isAgg 3).run Tryz.prog W = .ok false W := by
  unfold isAgg
  rw [Sem.run_bind, run_underlying Tryz.underlying3 W]
  rfl
 simp [part, Sem.run_bind, ha, h]
theorem part_nF {cs : Array Value} {n : Int} {o : Nat} (h : cs[o]? = some (.int .i64 n)) (W : World) : (part 33 cs o).run Tryz.prog W = .ok (.int .i64 n) W := by
 have ha : (isAgg 33).run Tryz.prog W = .ok false W := by
  unfold isAgg
  rw [Sem.run_bind, run_underlying Tryz.underlying33 W]
  rfl
 simp [part, Sem.run_bind, ha, h]
theorem eq_ftr (x : Flt3) (W : World) : (Op.equalIn 10000 35 (.agg (frw x)) (.agg (frw x))).run Tryz.prog W = .ok true W := by
 unfold frw
 obtain ⟨f0, f1, f2, hf, n0, t0, o0, n1, t1, o1, n2, t2, o2⟩ := fldFt
 rw [run_equalIn_struct W 9999 35 _ _ strFt stoFt, hf]
 have i0 := fun p q => run_equalIn_int W (P := Tryz.prog) 9998 3 .i64 .i64 p q Tryz.underlying3
 have i1 := fun p q => run_equalIn_int W (P := Tryz.prog) 9998 33 .i64 .i64 p q Tryz.underlying33
 rw [eqf_cons n0 (by rw [t0, o0]; exact part_iF rfl W) (by rw [t0, o0]; exact part_iF rfl W) (by rw [t0]; exact i0 x.line x.line), eqf_cons n1 (by rw [t1, o1]; exact part_iF rfl W) (by rw [t1, o1]; exact part_iF rfl W) (by rw [t1]; exact i0 x.at_ x.at_), eqf_cons n2 (by rw [t2, o2]; exact part_nF rfl W) (by rw [t2, o2]; exact part_nF rfl W) (by rw [t2]; exact i1 x.why x.why), eqf_nil]
 simp
theorem Ety.keep {w w' : World} {n : Nat} (h : Ety w) (hb : Below n w w') (hn : n = w.heap.size) : Ety w' := by
 subst hn
 unfold Ety at *
 have hl : 0 < w.heap.size := by
  rcases Nat.lt_or_ge 0 w.heap.size with q | q
  ·exact q
  ·simp [World.cell?, Array.getElem?_eq_none q] at h
 rw [World.cell?_of_block (hb.block _ hl)]
 exact h
theorem bFt (cs : Array Value) (W : World) : (Instr.box 35 (.agg cs)).run Tryz.prog W = .ok (.pointer (some ⟨W.heap.size, 0, none⟩)) (W.alloc (.cells cs 35)) := by kernel_rfl
theorem eql_nilE (W : World) : (binOp .eql 30 .nilIface .nilIface).run Tryz.prog W = .ok (.bool true) W := by kernel_rfl
theorem frw_one (x : Flt3) : (frw x).all (·.oneCell') = true := by simp [frw, Value.oneCell']
theorem as_fault (g k : Nat) (w : World) (hE : Ety w) (hk : w.heap[k]? = some (.cells #[.pointer none] 87 (0, 0))) : Calls Tryz.prog 34 #[.iface 87 (.pointer (some ⟨g, 0, none⟩)), .iface 89 (.pointer (some ⟨k, 0, none⟩))] w fun e w' => e = .returned (.bool true) ∧ w'.heap[k]? = some (.cells #[.pointer (some ⟨g, 0, none⟩)] 87 (0, 0)) ∧ But k w w' := by
 have hl := lt_of_row hk
 refine (as_hit ⟨g, 0, none⟩ ⟨k, 0, none⟩ (.pointer none) w hE (by rw [cell_of_row _ _ _ _ _ _ hk]; rfl) (row_frozen hk 0)).mono ?_
 rintro e w' ⟨rfl, rfl⟩
 have hb : Below w.heap.size w ((((w.alloc (.cells #[.pointer (some ⟨k, 0, none⟩)] 89)).alloc (.cells #[.pointer (some ⟨4, 89, none⟩), .pointer (some ⟨w.heap.size, 0, none⟩), .int .u64 150] 130)).alloc (.cells #[.pointer (some ⟨4, 89, none⟩), .pointer (some ⟨w.heap.size, 0, none⟩), .int .u64 150] 130)).alloc (.cells #[.pointer (some ⟨g, 0, none⟩)] 87)) := ((((Below.refl _ _).alloc (Nat.le_refl _) _).alloc (by simp) _).alloc (by simp; omega) _).alloc (by simp; omega) _
 generalize (((w.alloc (.cells #[.pointer (some ⟨k, 0, none⟩)] 89)).alloc (.cells #[.pointer (some ⟨4, 89, none⟩), .pointer (some ⟨w.heap.size, 0, none⟩), .int .u64 150] 130)).alloc (.cells #[.pointer (some ⟨4, 89, none⟩), .pointer (some ⟨w.heap.size, 0, none⟩), .int .u64 150] 130)).alloc (.cells #[.pointer (some ⟨g, 0, none⟩)] 87) = w4 at *
 exact ⟨rfl, row_set (keep hb hk) 0 _, (But.of hb).trans (But.set w4 _)⟩
theorem infoFrw (x : Flt3) : (Tryz.prog.info? 35).map (·.size) = some (frw x).size := by
 rw [show (frw x).size = 3 from rfl]
 kernel_rfl
set_option maxRecDepth 100000 in
set_option maxHeartbeats 8000000 in
theorem l_faulty_nil (a b : Int) (w : World) : Calls Tryz.prog 12 #[.nilIface, .agg #[.int .i64 a, .int .i64 b, .int .i64 0]] w fun e w' => e = .returned (.bool true) ∧ Below w.heap.size w w' := by
 have h1 := eql_nilE
 have hw : Below w.heap.size w (w.alloc (.cells #[.int .i64 a, .int .i64 b, .int .i64 0] 35)) := (Below.refl _ _).alloc (Nat.le_refl _) _
 replace hw := hide hw
 go_enter Tryz.func12, Tryz.ntmps12
 go_wp2
 go_ret
 exact ⟨rfl, hw.out⟩
set_option maxRecDepth 100000 in
set_option maxHeartbeats 8000000 in
theorem l_faulty_hit (x : Flt3) (hx : x.why ≠ 0) (g : Nat) (w : World) (hE : Ety w) (hg : w.heap[g]? = some (.cells (frw x) 35 (0, 0))) : Calls Tryz.prog 12 #[.iface 87 (.pointer (some ⟨g, 0, none⟩)), .agg (frw x)] w fun e w' => e = .returned (.bool true) ∧ Below w.heap.size w w' := by
 have hgl := lt_of_row hg
 have R0 := hp2_0 w (.cells (frw x) 35) (.cells #[.pointer none] 87)
 have R1 := hp2_1 w (.cells (frw x) 35) (.cells #[.pointer none] 87)
 have hw : Below w.heap.size w ((w.alloc (.cells (frw x) 35)).alloc (.cells #[.pointer none] 87)) := ((Below.refl _ _).alloc (Nat.le_refl _) _).alloc (by simp) _
 replace hg := keep hw hg
 replace hE := hE.keep hw rfl
 have bE : (x.why == 0) = false := by simpa using hx
 have cW : (w.alloc (.cells (frw x) 35)).cell? ⟨w.heap.size, 2, none⟩ = some (.int .i64 x.why) := by rw [cell_of_row _ _ _ _ _ _ (hp1_0 w (.cells (frw x) 35))]; rfl
 replace hx := hide hx
 go_enter Tryz.func12, Tryz.ntmps12
 go_upto_region 4 with (first | (refine wpList_box rfl 35 _ rfl _ rfl (bFt _) ?_) | fail)
 try simp only [size_alloc1, Act.put, List.setIfInBounds_toArray, List.set_cons_succ, List.set_cons_zero]
 generalize ((w.alloc (.cells (frw x) 35)).alloc (.cells #[.pointer none] 87)) = w1 at *
 have hbd : Below w1.heap.size w1 w1.drew := below_drN (Below.refl _ _) 1
 replace R0 := keep hbd R0
 replace R1 := keep hbd R1
 replace hg := keep hbd hg
 replace hE := hE.keep hbd rfl
 replace hw := Below.after hw hbd
 have HS : (fun W : World => W.heap[w.heap.size]? = some (.cells (frw x) 35 (0, 0)) ∧ W.heap[g]? = some (.cells (frw x) 35 (0, 0))) w1.drew := ⟨R0, hg⟩
 clear hbd R0 hg cW
 refine wp_region_noPanic ?_
 refine wp_region_held (S := fun W : World => W.heap[w.heap.size]? = some (.cells (frw x) 35 (0, 0)) ∧ W.heap[g]? = some (.cells (frw x) 35 (0, 0))) (by kernel_rfl) ?_
 change wpAnyH _ _ _ _ _ _ _ _ (World.drew _)
 generalize w1.drew = w2 at *
 refine wpAnyH_take (i := 0) (v := ?v1) rfl (by kernel_rfl) (by kernel_rfl) (by kernel_rfl) (fun _ _ _ h => h) (Or.inl ⟨by rfl, ?y1⟩) HS ?r1
 case y1 =>
  intro w_ hS_
  go_simp
  try with_reducible rfl
 simp only [Act.put, List.getElem_toArray, List.getElem_cons_zero, List.setIfInBounds_toArray, List.set_cons_succ, List.set_cons_zero]
 refine wpAnyH_take (i := 1) (v := .iface 89 (.pointer (some ⟨w.heap.size + 1, 0, none⟩))) rfl (by kernel_rfl) (by kernel_rfl) (by kernel_rfl) (fun _ _ _ h => h) (Or.inl ⟨by rfl, ?y2⟩) HS ?r2
 case y2 =>
  intro w_ hS_
  go_simp
  try with_reducible rfl
 simp only [Act.put, List.getElem_toArray, List.getElem_cons_succ, List.getElem_cons_zero, List.setIfInBounds_toArray, List.set_cons_succ, List.set_cons_zero]
 refine wpAnyH_one (k := 2) (fuel := 12) (by kernel_rfl) rfl (by rfl) (fun K_ hK => ?_)
 refine wp_call_ex (f := 34) (R := fun v w' => v = .bool true ∧ w'.heap[w.heap.size + 1]? = some (.cells #[.pointer (some ⟨g, 0, none⟩)] 87 (0, 0)) ∧ But (w.heap.size + 1) w2 w') (by kernel_rfl) ((as_fault g (w.heap.size + 1) w2 hE R1).mono (fun e w' h => (by obtain ⟨e1, e2⟩ := h; exact ⟨_, e1, rfl, e2⟩ : ∃ v, e = .returned v ∧ v = .bool true ∧ w'.heap[w.heap.size + 1]? = some (.cells #[.pointer (some ⟨g, 0, none⟩)] 87 (0, 0)) ∧ But (w.heap.size + 1) w2 w'))) (fun v_ w3 hX_ => ?_)
 obtain ⟨rfl, R1', hbu⟩ := hX_
 have HS' : (fun W : World => W.heap[w.heap.size]? = some (.cells (frw x) 35 (0, 0)) ∧ W.heap[g]? = some (.cells (frw x) 35 (0, 0))) w3 := ⟨hbu.row HS.1 (by omega), hbu.row HS.2 (by omega)⟩
 replace hw := But.after hw (by omega) hbu
 have cF : w3.cell? ⟨w.heap.size + 1, 0, none⟩ = some (.pointer (some ⟨g, 0, none⟩)) := by rw [cell_of_row _ _ _ _ _ _ R1']; rfl
 clear hbu R1 hE HS
 have HS := HS'
 clear HS'
 refine hK _ _ HS ?_
 simp only [Act.put, List.getElem_toArray, List.getElem_cons_succ, List.getElem_cons_zero, List.setIfInBounds_toArray, List.set_cons_succ, List.set_cons_zero]
 clear hK
 refine wpAnyH_take (i := 3) (v := ?v3) rfl (by kernel_rfl) (by kernel_rfl) (by kernel_rfl) (fun _ _ _ h => h) (Or.inl ⟨by rfl, ?y3⟩) HS ?r3
 case y3 =>
  intro w_ hS_
  go_simp
  try with_reducible rfl
 simp only [Act.put, List.getElem_toArray, List.getElem_cons_succ, List.getElem_cons_zero, List.setIfInBounds_toArray, List.set_cons_succ, List.set_cons_zero]
 refine wpAnyH_one (k := 4) (fuel := 10) (by kernel_rfl) rfl (by rfl) (fun K_ hK => ?_)
 refine wp_val_op (.pointer (some ⟨g, 0, none⟩)) (w' := w3) (by go_simp; try with_reducible rfl) ?_
 refine hK _ _ HS ?_
 simp only [Act.put, List.getElem_toArray, List.getElem_cons_succ, List.getElem_cons_zero, List.setIfInBounds_toArray, List.set_cons_succ, List.set_cons_zero]
 clear hK
 refine wpAnyH_take (i := 5) (v := ?v4) rfl (by kernel_rfl) (by kernel_rfl) (by kernel_rfl) (fun _ _ _ h => h) (Or.inl ⟨by rfl, ?y4⟩) HS ?r4
 case y4 =>
  intro w_ hS_
  go_simp
  try with_reducible rfl
 simp only [Act.put, List.getElem_toArray, List.getElem_cons_succ, List.getElem_cons_zero, List.setIfInBounds_toArray, List.set_cons_succ, List.set_cons_zero]
 refine wpAnyH_take (i := 6) (v := ?v5) rfl (by kernel_rfl) (by kernel_rfl) (by kernel_rfl) (fun _ _ _ h => h) (Or.inl ⟨by rfl, ?y5⟩) HS ?r5
 case y5 =>
  intro w_ hS_
  go_simp
  try with_reducible rfl
 simp only [Act.put, List.getElem_toArray, List.getElem_cons_succ, List.getElem_cons_zero, List.setIfInBounds_toArray, List.set_cons_succ, List.set_cons_zero]
 refine wpAnyH_take (i := 7) (v := ?v6) rfl (by kernel_rfl) (by kernel_rfl) (by kernel_rfl) (fun _ _ _ h => h) (Or.inl ⟨by rfl, ?y6⟩) HS ?r6
 case y6 =>
  intro w_ hS_
  go_simp
  try with_reducible rfl
 simp only [Act.put, List.getElem_toArray, List.getElem_cons_succ, List.getElem_cons_zero, List.setIfInBounds_toArray, List.set_cons_succ, List.set_cons_zero]
 refine wpAnyH_take (i := 11) (v := .agg (frw x)) rfl (by kernel_rfl) (by kernel_rfl) (by kernel_rfl) (fun _ _ _ h => h) (Or.inl ⟨by rfl, ?y7⟩) HS ?r7
 case y7 =>
  intro w_ hS_
  simp only [List.getElem_toArray, List.getElem_cons_succ, List.getElem_cons_zero]
  exact run_load_part 35 _ (by rfl) (w.heap.size) 0 (by rfl) 35 (frw x) (0, 0) (frw x) _ (hS_.1) (all_rowB _) Tryz.underlying35 rfl (infoFrw x)
 simp only [Act.put, List.getElem_toArray, List.getElem_cons_succ, List.getElem_cons_zero, List.setIfInBounds_toArray, List.set_cons_succ, List.set_cons_zero]
 refine wpAnyH_one (k := 8) (fuel := 5) (by kernel_rfl) rfl (by rfl) (fun K_ hK => ?_)
 refine wp_val_op (.pointer (some ⟨g, 0, none⟩)) (w' := w3) (by go_simp; try with_reducible rfl) ?_
 refine hK _ _ HS ?_
 simp only [Act.put, List.getElem_toArray, List.getElem_cons_succ, List.getElem_cons_zero, List.setIfInBounds_toArray, List.set_cons_succ, List.set_cons_zero]
 clear hK
 refine wpAnyH_take (i := 9) (v := ?v8) rfl (by kernel_rfl) (by kernel_rfl) (by kernel_rfl) (fun _ _ _ h => h) (Or.inl ⟨by rfl, ?y8⟩) HS ?r8
 case y8 =>
  intro w_ hS_
  go_simp
  try with_reducible rfl
 simp only [Act.put, List.getElem_toArray, List.getElem_cons_succ, List.getElem_cons_zero, List.setIfInBounds_toArray, List.set_cons_succ, List.set_cons_zero]
 refine wpAnyH_take (i := 10) (v := .agg (frw x)) rfl (by kernel_rfl) (by kernel_rfl) (by kernel_rfl) (fun _ _ _ h => h) (Or.inl ⟨by rfl, ?y9⟩) HS ?r9
 case y9 =>
  intro w_ hS_
  simp only [List.getElem_toArray, List.getElem_cons_succ, List.getElem_cons_zero]
  exact run_load_part 35 _ (by rfl) (g) 0 (by rfl) 35 (frw x) (0, 0) (frw x) _ (hS_.2) (all_rowB _) Tryz.underlying35 rfl (infoFrw x)
 simp only [Act.put, List.getElem_toArray, List.getElem_cons_succ, List.getElem_cons_zero, List.setIfInBounds_toArray, List.set_cons_succ, List.set_cons_zero]
 refine wpAnyH_take (i := 12) (v := (.bool true)) rfl (by kernel_rfl) (by kernel_rfl) (by kernel_rfl) (fun _ _ _ h => h) (Or.inl ⟨by rfl, ?y10⟩) HS ?r10
 case y10 =>
  intro w_ hS_
  simp only [List.getElem_toArray, List.getElem_cons_succ, List.getElem_cons_zero]
  exact run_eql_op 35 35 _ _ (by rfl) (frw x) (frw x) (by rfl) (by rfl) (by kernel_rfl) true (eq_ftr x _)
 simp only [Act.put, List.getElem_toArray, List.getElem_cons_succ, List.getElem_cons_zero, List.setIfInBounds_toArray, List.set_cons_succ, List.set_cons_zero]
 refine wpAnyH_take (i := 13) (v := ?v11) rfl (by kernel_rfl) (by kernel_rfl) (by kernel_rfl) (fun _ _ _ h => h) (Or.inl ⟨by rfl, ?y11⟩) HS ?r11
 case y11 =>
  intro w_ hS_
  go_simp
  try with_reducible rfl
 simp only [Act.put, List.getElem_toArray, List.getElem_cons_succ, List.getElem_cons_zero, List.setIfInBounds_toArray, List.set_cons_succ, List.set_cons_zero]
 refine wpAnyH_take (i := 14) (v := ?v12) rfl (by kernel_rfl) (by kernel_rfl) (by kernel_rfl) (fun _ _ _ h => h) (Or.inl ⟨by rfl, ?y12⟩) HS ?r12
 case y12 =>
  intro w_ hS_
  go_simp
  try with_reducible rfl
 simp only [Act.put, List.getElem_toArray, List.getElem_cons_succ, List.getElem_cons_zero, List.setIfInBounds_toArray, List.set_cons_succ, List.set_cons_zero]
 refine wpAnyH_done (by kernel_rfl) ?_ _
 refine NoPanic.normal ?_
 go_wp2_with (fail)
 go_ret
 exact ⟨rfl, hw⟩
end Go.Proofs.YtjoohgkgkabbpaaGreatDoor

