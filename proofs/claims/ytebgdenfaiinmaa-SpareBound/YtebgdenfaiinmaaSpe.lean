import Derived.Test.YtebgdenfaiinmaaProg
import Derived.WalkKit
import Derived.WalkSpells
import Derived.WalkLawsBesides
import Derived.Lib.QuietBelow
import Derived.BigQuiet
import Derived.OrdersHeld
import Derived.Deep.RegionHeld3
import Derived.OwnWalk
import Derived.Test.YtebgdenfaiinmaaKit
import Derived.Test.YtebgdenfaiinmaaSpd
namespace Go.Proofs.Ytebgdenfaiinmaa
open Go Go.RowKit Go.Sort Go.ChangeMaps Go.MapKept
attribute [local go_sem] setCell_drewN alloc_drewN

section
variable {P : Program} {ops : Array Oper} {Q : Exit → Act → World → Prop} {md : Region.Mode} {S : World → Prop}
/-- The one operation that may come up, where S is kept. -/
theorem wpAnyH_one {k : Nat} {o : Oper} {fuel : Nat} {listed : Array Bool} {a : Act} {w : World} (hr : Region.ready md ops listed = [k]) (hi : ops[k]? = some o) (hw : Region.wanted o (yielded ops a.tmps) = true)
    (h : ∀ K : Act → World → Prop, (∀ a' w', S w' → wpAnyH P md ops Q S fuel (listed.setIfInBounds k true) a' w' → K a' w') → o.wp P a w K Q) : wpAnyH P md ops Q S (fuel + 1) listed a w := by
  refine wpAnyH_all hr (by simp) (fun i hi' => ?_)
  obtain rfl : i = k := by simpa using hi'
  unfold wpOp
  simp only [hi, hw, if_true]
  exact .inl (h _ (fun a' w' hS hn => ⟨hS, hn⟩))
/-- Either of two operations may come up. -/
theorem wpAnyH_two {j k : Nat} {oj ok : Oper} {fuel : Nat} {listed : Array Bool} {a : Act} {w : World} (hr : Region.ready md ops listed = [j, k]) (hj : ops[j]? = some oj) (hk : ops[k]? = some ok) (wj : Region.wanted oj (yielded ops a.tmps) = true) (wk : Region.wanted ok (yielded ops a.tmps) = true)
    (h1 : ∀ K : Act → World → Prop, (∀ a' w', S w' → wpAnyH P md ops Q S fuel (listed.setIfInBounds j true) a' w' → K a' w') → oj.wp P a w K Q)
    (h2 : ∀ K : Act → World → Prop, (∀ a' w', S w' → wpAnyH P md ops Q S fuel (listed.setIfInBounds k true) a' w' → K a' w') → ok.wp P a w K Q) : wpAnyH P md ops Q S (fuel + 1) listed a w := by
  refine wpAnyH_all hr (by simp) (fun i hi' => ?_)
  obtain rfl | rfl : i = j ∨ i = k := by simpa using hi'
  · unfold wpOp
    simp only [hj, wj, if_true]
    exact .inl (h1 _ (fun a' w' hS hn => ⟨hS, hn⟩))
  · unfold wpOp
    simp only [hk, wk, if_true]
    exact .inl (h2 _ (fun a' w' hS hn => ⟨hS, hn⟩))
/-- A part of a row, as it is read. -/
theorem run_load_part {o : Oper} {a : Act} {w : World} (ty : TypeId) (x : Operand) (ho : o.op = .load ty x) (g off : Nat) (hx : a.eval x = .pointer (some ⟨g, off, none⟩)) (t : TypeId) (cs : Array Value) (fr : Nat × Nat) (part : Array Value) (d : TypeDesc) (hg : w.heap[g]? = some (.cells cs t fr)) (hp : cs.extract off (off + part.size) = part)
    (hu : P.underlying ty = some d) (hd : d.isRow = true) (hi : (P.info? ty).map (·.size) = some part.size) : (execOp a.eval o).run P w = .ok (.value (.agg part)) w := by
  have hr := World.rangeAt_of_block hg off part.size
  rw [hp] at hr
  have hl := run_loadVar_mid (P := P) w g off ty part.toList d hr hu hd (by simpa using hi)
  unfold execOp
  simp only [ho, hx, Instr.loadAt, Instr.sureAddr, Sem.run_bind, Sem.run_pure, Result.andThen_ok, hl]
theorem run_load_range {o : Oper} {a : Act} {w : World} (ty : TypeId) (x : Operand) (ho : o.op = .load ty x) (g off : Nat) (hx : a.eval x = .pointer (some ⟨g, off, none⟩)) (cs : List Value) (d : TypeDesc) (hr : w.rangeAt g off cs)
    (hu : P.underlying ty = some d) (hd : d.isRow = true) (hi : (P.info? ty).map (·.size) = some cs.length) : (execOp a.eval o).run P w = .ok (.value (.agg cs.toArray)) w := by
  have hl := run_loadVar_mid (P := P) w g off ty cs d hr hu hd hi
  unfold execOp
  simp only [ho, hx, Instr.loadAt, Instr.sureAddr, Sem.run_bind, Sem.run_pure, Result.andThen_ok, hl]
theorem run_look_op {o : Oper} {a : Act} {w : World} (t : TypeId) (m x : Operand) (c : Bool) (ho : o.op = .lookup t m x c) (u y v : Value) (hm : a.eval m = u) (hx : a.eval x = y) (hr : (Instr.lookup t u y c).run P w = .ok v w) : (execOp a.eval o).run P w = .ok (.value v) w := by
  unfold execOp
  simp only [ho, hm, hx, Sem.run_bind, Sem.run_pure, Result.andThen_ok, hr]
theorem run_build_op {o : Oper} {a : Act} {w : World} (t : TypeId) (parts : Array (Nat × Operand)) (ho : o.op = .build t parts) (vals : List (Nat × Value)) (hv : parts.toList.map (fun (i, x) => (i, a.eval x)) = vals) (cells : Array Value) (hb : P.built t vals = some cells) : (execOp a.eval o).run P w = .ok (.value (.agg cells)) w := by
  rw [← Array.toList_map] at hv
  subst hv
  unfold execOp
  simp only [ho, Sem.run_bind, Sem.run_pure, run_build w t _ cells hb, Result.andThen_ok]
theorem wpList_look {w : World} {rest : List Oper} {o : Oper} {a : Act} (hg : o.guard = none) (t : TypeId) (m x : Operand) (c : Bool) (ho : o.op = .lookup t m x c) (u y v : Value) (hm : a.eval m = u) (hx : a.eval x = y) (hr : (Instr.lookup t u y c).run P w = .ok v w) (h : wpList P ops Q rest (a.put o.dst v) w) : wpList P ops Q (o :: rest) a w :=
  wpList_plain hg fun _ hK => wp_world_op _ _ (run_look_op t m x c ho u y v hm hx hr) (hK _ _ h)
theorem wp_skip_op {o : Oper} {a : Act} {w w' : World} {K : Act → World → Prop} (hx : (execOp a.eval o).run P w = .ok .skip w') (h : K (a.put o.dst undef) w') : o.wp P a w K Q := by
  unfold Oper.wp
  rw [hx]
  exact h
theorem run_upd_op {o : Oper} {a : Act} {w w' : World} (t : TypeId) (m x y : Operand) (ho : o.op = .mapUpdate t m x y) (u k v : Value) (hm : a.eval m = u) (hx : a.eval x = k) (hy : a.eval y = v) (hr : (Instr.mapUpdate t u k v).run P w = .ok () w') : (execOp a.eval o).run P w = .ok .skip w' := by
  unfold execOp
  simp only [ho, hm, hx, hy, Sem.run_bind, Sem.run_pure, Result.andThen_ok, hr]
theorem wpList_upd {w w' : World} {rest : List Oper} {o : Oper} {a : Act} (hg : o.guard = none) (t : TypeId) (m x y : Operand) (ho : o.op = .mapUpdate t m x y) (u k v : Value) (hm : a.eval m = u) (hx : a.eval x = k) (hy : a.eval y = v) (hr : (Instr.mapUpdate t u k v).run P w = .ok () w') (h : wpList P ops Q rest (a.put o.dst undef) w') : wpList P ops Q (o :: rest) a w :=
  wpList_plain hg fun _ hK => wp_skip_op (run_upd_op t m x y ho u k v hm hx hy hr) (hK _ _ h)
theorem run_alloc_op {o : Oper} {a : Act} {w : World} (ty : TypeId) (ho : o.op = .alloc ty) (cs : Array Value) (hz : ∀ W, (Instr.alloc ty true (.tuple #[])).run P W = .ok (.pointer (some ⟨W.heap.size, 0, none⟩)) (W.alloc (.cells cs ty))) : (execOp a.eval o).run P w = .ok (.value (.pointer (some ⟨w.heap.size, 0, none⟩))) (w.alloc (.cells cs ty)) := by
  unfold execOp
  simp only [ho, Sem.run_bind, Sem.run_pure, hz, Result.andThen_ok]
end
/-- Where a walk shall stop. -/
def WpStay (p : Prop) : Prop := p
theorem wpList_stay {P : Program} {ops : Array Oper} {rest : List Oper} {a : Act} {w : World} {Q : Exit → Act → World → Prop} (h : WpStay (wpList P ops Q rest a w)) : wpList P ops Q rest a w := h
theorem all_row (cs : Array Value) : cs.extract 0 (0 + cs.size) = cs := by simp
theorem results_cell_slot {P : Program} {fn : Func} {p q : Tmp} {ty : TypeId} (h : fn.results = #[.cell p ty, .tmp q]) (tmps : Array Value) (w : World) (g : Nat) (t : TypeId) (cs : Array Value) (fr : Nat × Nat) (d : TypeDesc)
    (hp : tmps.getD p undef = .pointer (some ⟨g, 0, none⟩)) (hg : w.heap[g]? = some (.cells cs t fr))
    (hu : P.underlying ty = some d) (hd : (match d with | .struct _ | .array _ _ => true | _ => false) = true) (hi : (P.info? ty).map (·.size) = some cs.size) :
    (results fn tmps).run P w = .ok (.tuple #[.agg cs, tmps.getD q undef]) w := by
  have hp' : tmps[p]?.getD undef = .pointer (some ⟨g, 0, none⟩) := by simpa using hp
  simp [results, h, hp', asAddr, run_loadVar_row w g t ty cs fr d hg hu hd hi]
theorem zky (w : World) : (zeroValue 40).run Try.prog w = .ok (.agg (irow .u8 (zr 32))) w := by kernel_rfl
/-- What is found of a label. -/
def fnd (l : List Sr) (x : Lb) : Option Sr := (plc x (l.map Sr.lb)).map (gs l)
def fky (l : List Sr) (x : Lb) : List Int := match fnd l x with | some s => s.m | none => zr 32
theorem aget_ents (l : List Sr) (x : Lb) : aget (ents l) x = (fnd l x).map fun s => .agg (irow .u8 s.m) := by
  unfold aget fnd
  rw [ents_keys, ents_vals]
  cases h : plc x (l.map Sr.lb) with
  | none => rfl
  | some i =>
    have hi := (plc_lt x _ i h).1
    rw [List.length_map] at hi
    simp [gs_get hi]
theorem fky_len {l : List Sr} (h : AllOk l) (x : Lb) : (fky l x).length = 32 := by
  unfold fky fnd
  cases hp : plc x (l.map Sr.lb) with
  | none => rfl
  | some i =>
    have hi := (plc_lt x _ i hp).1
    rw [List.length_map] at hi
    exact (h.at hi).2
theorem look_sto {W : World} {base g b : Nat} {v : Value} {most : Int} {l : List Sr} (h : Sto W base g b v most l) (x : Lb) (hx : lok x) : (Instr.lookup 68 (.map (some b)) (lenc x) true).run Try.prog W = .ok (.tuple #[.agg (irow .u8 (fky l x)), .bool (fnd l x).isSome]) W := by
  have := run_lookm kLb Try.underlying68 W (zky W) b (ents l) h.map (ents_ok h.ok) x hx true
  rw [aget_ents] at this
  rw [this]
  unfold fky
  cases fnd l x <;> rfl
set_option maxRecDepth 100000 in
set_option maxHeartbeats 4000000 in
theorem a_Find (base g b : Nat) (v : Value) (most : Int) (l : List Sr) (h : List Int) (hh : h.length = 32) (n : Int) (w : World) (hS : Sto w base g b v most l) : Calls Try.prog 21 #[.pointer (some ⟨g, 0, none⟩), .agg (irow .u8 h), .int .u32 n] w fun e w' => e = .returned (.tuple #[.agg (irow .u8 (fky l (h, n))), .bool (fnd l (h, n)).isSome]) ∧ Below w.heap.size w w' := by
  have hok := hS.ok
  have hlo : ∀ k, own3 g b v k → k < w.heap.size := fun k hk => (hS.low k hk).2
  have R0 := hp2_0 w (.cells (irow .u8 h) 40) (.cells (irow .u8 (zr 32)) 40)
  have R1 := hp2_1 w (.cells (irow .u8 h) 40) (.cells (irow .u8 (zr 32)) 40)
  have hw : Below w.heap.size w ((w.alloc (.cells (irow .u8 h) 40)).alloc (.cells (irow .u8 (zr 32)) 40)) := (((Below.refl _ _).alloc (Nat.le_refl _) _).alloc (by simp) _)
  go_enter Try.func21, Try.ntmps21
  go_wp2_with (first | (refine wpList_box rfl 40 _ rfl _ rfl (bKy _) ?_) | (refine wpList_alloc rfl 40 rfl (irow .u8 (zr 32)) zkey ?_) | fail)
  try simp only [size_alloc1, Act.put, List.setIfInBounds_toArray, List.set_cons_succ, List.set_cons_zero]
  replace hS := hS.keep hw
  generalize ((w.alloc (.cells (irow .u8 h) 40)).alloc (.cells (irow .u8 (zr 32)) 40)) = w0 at *
  have hbd : Below w0.heap.size w0 w0.drew := below_drN (Below.refl _ _) 1
  replace hS := hS.keep hbd
  replace R0 := keep hbd R0
  replace R1 := keep hbd R1
  replace hw := Below.after hw hbd
  clear hbd
  refine wp_region_noPanic ?_
  refine wp_region_held (S := fun W => Sto W base g b v most l ∧ W.heap[w.heap.size]? = some (.cells (irow .u8 h) 40 (0, 0))) (by kernel_rfl) ?_
  change wpAnyH _ _ _ _ _ _ _ _ (World.drew _)
  generalize w0.drew = w1 at *
  refine wpAnyH_take (i := 0) (v := ?v1) rfl (by kernel_rfl) (by kernel_rfl) (by kernel_rfl) (fun _ _ _ h => h) (Or.inl ⟨by rfl, ?y1⟩) ⟨hS, R0⟩ ?r1
  case y1 =>
    intro w_ hS_
    go_simp
    try with_reducible rfl
  simp only [Act.put, List.getElem_toArray, List.getElem_cons_zero, List.setIfInBounds_toArray, List.set_cons_succ, List.set_cons_zero]
  refine wpAnyH_take (i := 1) (v := ?v2) rfl (by kernel_rfl) (by kernel_rfl) (by kernel_rfl) (fun _ _ _ h => h) (Or.inl ⟨by rfl, ?y2⟩) ⟨hS, R0⟩ ?r2
  case y2 =>
    intro w_ hS_
    go_simp
    try with_reducible rfl
  simp only [Act.put, List.getElem_toArray, List.getElem_cons_succ, List.getElem_cons_zero, List.setIfInBounds_toArray, List.set_cons_succ, List.set_cons_zero]
  refine wpAnyH_take (i := 2) (v := ?v3) rfl (by kernel_rfl) (by kernel_rfl) (by kernel_rfl) (fun _ _ _ h => h) (Or.inl ⟨by rfl, ?y3⟩) ⟨hS, R0⟩ ?r3
  case y3 =>
    intro w_ hS_
    go_simp
    try with_reducible rfl
  simp only [Act.put, List.getElem_toArray, List.getElem_cons_succ, List.getElem_cons_zero, List.setIfInBounds_toArray, List.set_cons_succ, List.set_cons_zero]
  refine wpAnyH_take (i := 3) (v := .map (some b)) rfl (by kernel_rfl) (by kernel_rfl) (by kernel_rfl) (fun _ _ _ h => h) (Or.inl ⟨by rfl, ?y4⟩) ⟨hS, R0⟩ ?r4
  case y4 =>
    intro w_ hS_
    have c_ := hS_.1.c2
    go_simp
    try with_reducible rfl
  simp only [Act.put, List.getElem_toArray, List.getElem_cons_succ, List.getElem_cons_zero, List.setIfInBounds_toArray, List.set_cons_succ, List.set_cons_zero]
  refine wpAnyH_take (i := 4) (v := .agg (irow .u8 h)) rfl (by kernel_rfl) (by kernel_rfl) (by kernel_rfl) (fun _ _ _ h => h) (Or.inl ⟨by rfl, ?y5⟩) ⟨hS, R0⟩ ?r5
  case y5 =>
    intro w_ hS_
    simp only [List.getElem_toArray, List.getElem_cons_succ, List.getElem_cons_zero]
    exact run_load_part 40 _ (by rfl) (w.heap.size) 0 (by rfl) 40 (irow .u8 h) (0, 0) (irow .u8 h) _ (hS_.2) (all_row _) Try.underlying40 rfl (infok8 _ hh)
  simp only [Act.put, List.getElem_toArray, List.getElem_cons_succ, List.getElem_cons_zero, List.setIfInBounds_toArray, List.set_cons_succ, List.set_cons_zero]
  refine wpAnyH_take (i := 5) (v := ?v6) rfl (by kernel_rfl) (by kernel_rfl) (by kernel_rfl) (fun _ _ _ h => h) (Or.inl ⟨by rfl, ?y6⟩) ⟨hS, R0⟩ ?r6
  case y6 =>
    intro w_ hS_
    go_simp
    try with_reducible rfl
  simp only [Act.put, List.getElem_toArray, List.getElem_cons_succ, List.getElem_cons_zero, List.setIfInBounds_toArray, List.set_cons_succ, List.set_cons_zero]
  refine wpAnyH_take (i := 6) (v := .agg (chc h n)) rfl (by kernel_rfl) (by kernel_rfl) (by kernel_rfl) (fun _ _ _ h => h) (Or.inl ⟨by rfl, ?y7⟩) ⟨hS, R0⟩ ?r7
  case y7 =>
    intro w_ hS_
    simp only [List.getElem_toArray, List.getElem_cons_succ, List.getElem_cons_zero]
    exact run_build_op 86 _ (by rfl) [(0, .agg (irow .u8 h)), (1, .int .u32 n)] (by rfl) _ (builtL h hh n)
  simp only [Act.put, List.getElem_toArray, List.getElem_cons_succ, List.getElem_cons_zero, List.setIfInBounds_toArray, List.set_cons_succ, List.set_cons_zero]
  refine wpAnyH_take (i := 7) (v := .tuple #[.agg (irow .u8 (fky l (h, n))), .bool (fnd l (h, n)).isSome]) rfl (by kernel_rfl) (by kernel_rfl) (by kernel_rfl) (fun _ _ _ h => h) (Or.inl ⟨by rfl, ?y8⟩) ⟨hS, R0⟩ ?r8
  case y8 =>
    intro w_ hS_
    simp only [List.getElem_toArray, List.getElem_cons_succ, List.getElem_cons_zero]
    exact run_look_op 68 _ _ true (by rfl) _ (lenc (h, n)) _ (by rfl) (by rfl) (look_sto hS_.1 (h, n) hh)
  simp only [Act.put, List.getElem_toArray, List.getElem_cons_succ, List.getElem_cons_zero, List.setIfInBounds_toArray, List.set_cons_succ, List.set_cons_zero]
  refine wpAnyH_take (i := 8) (v := ?v9) rfl (by kernel_rfl) (by kernel_rfl) (by kernel_rfl) (fun _ _ _ h => h) (Or.inl ⟨by rfl, ?y9⟩) ⟨hS, R0⟩ ?r9
  case y9 =>
    intro w_ hS_
    go_simp
    try with_reducible rfl
  simp only [Act.put, List.getElem_toArray, List.getElem_cons_succ, List.getElem_cons_zero, List.setIfInBounds_toArray, List.set_cons_succ, List.set_cons_zero]
  refine wpAnyH_take (i := 9) (v := ?v10) rfl (by kernel_rfl) (by kernel_rfl) (by kernel_rfl) (fun _ _ _ h => h) (Or.inl ⟨by rfl, ?y10⟩) ⟨hS, R0⟩ ?r10
  case y10 =>
    intro w_ hS_
    go_simp
    try with_reducible rfl
  simp only [Act.put, List.getElem_toArray, List.getElem_cons_succ, List.getElem_cons_zero, List.setIfInBounds_toArray, List.set_cons_succ, List.set_cons_zero]
  refine wpAnyH_take (i := 10) (v := ?v11) rfl (by kernel_rfl) (by kernel_rfl) (by kernel_rfl) (fun _ _ _ h => h) (Or.inl ⟨by rfl, ?y11⟩) ⟨hS, R0⟩ ?r11
  case y11 =>
    intro w_ hS_
    go_simp
    try with_reducible rfl
  simp only [Act.put, List.getElem_toArray, List.getElem_cons_succ, List.getElem_cons_zero, List.setIfInBounds_toArray, List.set_cons_succ, List.set_cons_zero]
  refine wpAnyH_one (k := 11) (fuel := 2) (by kernel_rfl) rfl (by kernel_rfl) (fun K_ hK => ?_)
  refine wp_world_op _ _ (run_alloc_op 40 rfl _ zkey) ?_
  have hb_ : Below w1.heap.size w1 (w1.alloc (.cells (irow .u8 (zr 32)) 40)) := (Below.refl _ _).alloc (Nat.le_refl _) _
  have Rz := hp1_0 w1 (.cells (irow .u8 (zr 32)) 40)
  have sz_ : w.heap.size + 1 < w1.heap.size := lt_of_row R1
  replace hS := hS.keep hb_
  replace R0 := keep hb_ R0
  replace R1 := keep hb_ R1
  replace hw := Below.after hw hb_
  clear hb_
  refine hK _ _ ⟨hS, R0⟩ ?_
  simp only [Act.put, List.getElem_toArray, List.getElem_cons_succ, List.getElem_cons_zero, List.setIfInBounds_toArray, List.set_cons_succ, List.set_cons_zero]
  clear hK
  generalize w1.alloc (.cells (irow .u8 (zr 32)) 40) = w2 at *
  generalize w1.heap.size = gz at *
  refine wpAnyH_one (k := 12) (fuel := 1) (by kernel_rfl) rfl (by kernel_rfl) (fun K_ hK => ?_)
  refine wp_store_row 40 _ _ rfl gz (irow .u8 (fky l (h, n))) rfl rfl 40 _ Rz (infok8 _ (fky_len hok _)) (fit32 _ _ (zr_len 32) (fky_len hok _)) (irow_one _ _) ?_
  replace R0 := (setRow_other w2 gz w.heap.size (irow .u8 (fky l (h, n))) (by omega)).trans R0
  replace R1 := (setRow_other w2 gz (w.heap.size + 1) (irow .u8 (fky l (h, n))) (by omega)).trans R1
  replace hS := hS.move (V := w2.setRow gz (irow .u8 (fky l (h, n)))) (fun k hk => setRow_other w2 gz k (irow .u8 (fky l (h, n))) (by have := hlo k hk; omega))
  replace Rz := setRow_heap w2 gz _ (irow .u8 (fky l (h, n))) _ _ Rz
  replace hw := below_setRow hw (show w.heap.size ≤ gz by omega) (irow .u8 (fky l (h, n)))
  refine hK _ _ ⟨hS, R0⟩ ?_
  simp only [Act.put]
  clear hK
  generalize w2.setRow gz (irow .u8 (fky l (h, n))) = w3 at *
  refine wpAnyH_take (i := 13) (v := ?v12) rfl (by kernel_rfl) (by kernel_rfl) (by kernel_rfl) (fun _ _ _ h => h) (Or.inl ⟨by rfl, ?y12⟩) ⟨hS, R0⟩ ?r12
  case y12 =>
    intro w_ hS_
    go_simp
    try with_reducible rfl
  simp only [Act.put, List.getElem_toArray, List.getElem_cons_succ, List.getElem_cons_zero, List.setIfInBounds_toArray, List.set_cons_succ, List.set_cons_zero]
  refine wpAnyH_done (by kernel_rfl) ?_ _
  refine NoPanic.normal ?_
  have fl := fky_len hok (h, n)
  go_wp2_with (first | (refine wpList_load_want rfl 40 _ rfl (gz) rfl 40 (irow .u8 (fky l (h, n))) (0, 0) _ Rz Try.underlying40 rfl (infok8 _ fl) ?_) | (refine wpList_store_row rfl 40 _ _ rfl (w.heap.size + 1) (irow .u8 (fky l (h, n))) rfl rfl 40 _ R1 (infok8 _ fl) (fit32 _ _ (zr_len 32) fl) (irow_one _ _) ?_) | fail)
  exact bodyPost_ret (v := .tuple #[.agg (irow .u8 (fky l (h, n))), .bool (fnd l (h, n)).isSome]) (results_cell_slot Try.results21 _ _ (w.heap.size + 1) _ _ _ _ rfl (setRow_heap w3 (w.heap.size + 1) _ (irow .u8 (fky l (h, n))) _ _ R1) Try.underlying40 rfl (infok8 _ fl)) rfl ⟨rfl, below_setRow hw (Nat.le_succ _) (irow .u8 (fky l (h, n)))⟩

end Go.Proofs.Ytebgdenfaiinmaa
