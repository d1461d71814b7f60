import Derived.Test.YtjofbnilhkmpeaaDoorProg
import Derived.WalkKit
import Derived.WalkSpells
import Derived.WalkLawsBesides
import Derived.Lib.QuietBelow
import Derived.BigQuiet
import Derived.OrdersHeld
import Derived.Deep.RegionHeld3
import Derived.Test.YtjofbnilhkmpeaaDoorKa
import Derived.Test.YtjofbnilhkmpeaaDoorHka
import Derived.OwnWalk
namespace Go.Proofs.YtjofbnilhkmpeaaDoor
set_option maxRecDepth 100000
open Go Go.RowKit Go.Sort
attribute [local go_sem] setCell_drewN alloc_drewN

theorem builtSt (most : Int) (b : Nat) : Tryd.prog.built 63 [(0, .int .i64 most), (2, .map (some b))] = some #[.int .i64 most, .slice none 0 0, .map (some b)] := by kernel_rfl
theorem bSt (cs : Array Value) (W : World) : (Instr.box 63 (.agg cs)).run Tryd.prog W = .ok (.pointer (some ⟨W.heap.size, 0, none⟩)) (W.alloc (.cells cs 63)) := by kernel_rfl
set_option maxRecDepth 100000 in
set_option maxHeartbeats 4000000 in
theorem a_New (most : Int) (h0 : 0 ≤ most) (h1 : most ≤ 2000) (w : World) : Calls Tryd.prog 33 #[.int .i64 most] w fun e w' => ∃ g b, e = .returned (.tuple #[.pointer (some ⟨g, 0, none⟩), .int .i64 0]) ∧ Sto w' w.heap.size g b (.slice none 0 0) most [] ∧ Below w.heap.size w w' := by
  have d1 : decide (most < 0) = false := by simp; omega
  have d2 : decide (most > 2000) = false := by simp; omega
  have hmm := @run_makeMap Tryd.prog
  have hb := builtSt most w.heap.size
  have R0 := hp2_0 w (.map #[] 0) (.cells #[.int .i64 most, .slice none 0 0, .map (some w.heap.size)] 63)
  have R1 := hp2_1 w (.map #[] 0) (.cells #[.int .i64 most, .slice none 0 0, .map (some w.heap.size)] 63)
  have hw : Below w.heap.size w ((w.alloc (.map #[] 0)).alloc (.cells #[.int .i64 most, .slice none 0 0, .map (some w.heap.size)] 63)) := ((Below.refl _ _).alloc (Nat.le_refl _) _).alloc (by simp) _
  go_enter Tryd.func33, Tryd.ntmps33
  go_wp2_with (first | (refine wpList_build_as rfl 63 _ rfl [(0, .int .i64 most), (2, .map (some w.heap.size))] rfl #[.int .i64 most, .slice none 0 0, .map (some w.heap.size)] hb ?_) | (refine wpList_box rfl 63 _ rfl _ rfl (bSt _) ?_) | fail)
  try simp only [size_alloc1, Act.put, List.setIfInBounds_toArray, List.set_cons_succ, List.set_cons_zero]
  go_ret2
  exact ⟨_, _, rfl, ⟨R1, ⟨rfl, .inl ⟨rfl, rfl⟩⟩, ⟨#[], 0, R0, rfl⟩, AllOk.nil, List.nodup_nil, ⟨h0, h1⟩, h0, Nat.le_succ _, Nat.le_refl _, (fun e => by cases e)⟩, hw⟩
set_option maxRecDepth 100000 in
set_option maxHeartbeats 4000000 in
theorem a_New_no (most : Int) (h0 : most < 0 ∨ 2000 < most) (w : World) : Calls Tryd.prog 33 #[.int .i64 most] w fun e w' => e = .returned (.tuple #[.pointer none, .int .i64 1]) ∧ w' = w := by
  rcases h0 with h0 | h0
  · have d1 : decide (most < 0) = true := by simp; omega
    go_enter Tryd.func33, Tryd.ntmps33
    go_wp2_with (fail)
    go_ret2
    exact ⟨rfl, rfl⟩
  · have d1 : decide (most < 0) = false := by simp; omega
    have d2 : decide (most > 2000) = true := by simp; omega
    go_enter Tryd.func33, Tryd.ntmps33
    go_wp2_with (fail)
    go_ret2
    exact ⟨rfl, rfl⟩
theorem cell_sn {W : World} {g : Nat} {t : TypeId} {s : Sr} (h : s.ok) (hr : W.heap[g]? = some (.cells (srow s) t (0, 0))) : W.cell? ⟨g, 32, none⟩ = some (.int .u32 s.n) := by
  rw [cell_of_row W g 32 _ _ _ hr, srow_n h]
set_option maxRecDepth 100000 in
set_option maxHeartbeats 4000000 in
theorem a_labelOf (s : Sr) (hs : s.ok) (w : World) : Calls Tryd.prog 47 #[.agg (srow s)] w fun e w' => e = .returned (.agg (chc s.h s.n)) ∧ Below w.heap.size w w' := by
  have R0 := hp2_0 w (.cells (srow s) 52) (.cells (chc (zr 32) 0) 77)
  have R1 := hp2_1 w (.cells (srow s) 52) (.cells (chc (zr 32) 0) 77)
  have hw : Below w.heap.size w ((w.alloc (.cells (srow s) 52)).alloc (.cells (chc (zr 32) 0) 77)) := ((Below.refl _ _).alloc (Nat.le_refl _) _).alloc (by simp) _
  have hb := builtL s.h hs.1 s.n
  have c0 := cell_sn hs R0
  go_enter Tryd.func47, Tryd.ntmps47
  go_wp2_with (first | (refine wpList_box rfl 52 _ rfl _ rfl (bSp _) ?_) | (refine wpList_alloc rfl 77 rfl (chc (zr 32) 0) zlb ?_) | (refine wpList_load_part rfl 23 _ rfl (w.heap.size) 0 rfl 52 (srow s) (0, 0) (irow .u8 s.h) _ R0 (srow_h hs) Tryd.underlying23 rfl (infok8 _ hs.1) ?_) | (refine wpList_build_as rfl 77 _ rfl [(0, .agg (irow .u8 s.h)), (1, .int .u32 s.n)] rfl (chc s.h s.n) hb ?_) | (refine wpList_store_row rfl 77 _ _ rfl (w.heap.size + 1) (chc s.h s.n) rfl rfl 77 _ R1 (infoL _ hs.1 _) (by rw [chc_size _ (zr_len 32), chc_size _ hs.1]) (chc_one _ _) ?_) | fail)
  exact bodyPost_ret (results_cell_row Tryd.results47 _ _ (w.heap.size + 1) _ _ _ _ rfl (setRow_heap _ (w.heap.size + 1) _ (chc s.h s.n) _ _ R1) Tryd.underlying77 rfl (infoL _ hs.1 _)) rfl ⟨rfl, below_setRow hw (Nat.le_succ _) (chc s.h s.n)⟩
theorem Sto.c0 {W : World} {base g b : Nat} {v : Value} {most : Int} {l : List Sr} (h : Sto W base g b v most l) : W.cell? ⟨g, 0, none⟩ = some (.int .i64 most) := by rw [cell_of_row W g 0 _ _ _ h.row]; rfl
theorem Sto.c1 {W : World} {base g b : Nat} {v : Value} {most : Int} {l : List Sr} (h : Sto W base g b v most l) : W.cell? ⟨g, 1, none⟩ = some v := by rw [cell_of_row W g 1 _ _ _ h.row]; rfl
theorem Sto.c2 {W : World} {base g b : Nat} {v : Value} {most : Int} {l : List Sr} (h : Sto W base g b v most l) : W.cell? ⟨g, 2, none⟩ = some (.map (some b)) := by rw [cell_of_row W g 2 _ _ _ h.row]; rfl
set_option maxRecDepth 100000 in
set_option maxHeartbeats 4000000 in
theorem a_Len (base g b : Nat) (v : Value) (most : Int) (l : List Sr) (w : World) (hS : Sto w base g b v most l) : Calls Tryd.prog 22 #[.pointer (some ⟨g, 0, none⟩)] w fun e w' => e = .returned (.int .i64 l.length) ∧ w' = w := by
  obtain ⟨ao, cap, rfl⟩ := slen_own hS.own
  have c1 := hS.c1
  go_enter Tryd.func22, Tryd.ntmps22
  go_wp2_with (fail)
  go_ret
  exact ⟨rfl, rfl⟩
set_option maxRecDepth 100000 in
set_option maxHeartbeats 4000000 in
theorem a_Room (base g b : Nat) (v : Value) (most : Int) (l : List Sr) (w : World) (hS : Sto w base g b v most l) : Calls Tryd.prog 46 #[.pointer (some ⟨g, 0, none⟩)] w fun e w' => e = .returned (.int .i64 (most - l.length)) ∧ Below w.heap.size w w' := by
  have hm := hS.most0
  have hl := hS.len
  have c0 : ∀ p : Regrown, (grow (redrawn w p.d) p.os).cell? ⟨g, 0, none⟩ = some (.int .i64 most) := fun p => cell_regrown hS.c0 p.d p.os
  have cL : ∀ p : Regrown, Calls Tryd.prog 22 #[.pointer (some ⟨g, 0, none⟩)] (grow (redrawn w p.d) p.os) fun e w'' => e = .returned (.int .i64 l.length) ∧ ∃ p : Regrown, w'' = grow (redrawn w p.d) p.os := fun p => (a_Len base g b v most l _ (hS.keep (below_regrown w p.d p.os))).mono (fun e w' h => ⟨h.1, p, h.2⟩)
  go_enter Tryd.func46, Tryd.ntmps46
  go_wp2_with (fail)
  refine wp_region_quiet_below (by kernel_rfl) (by kernel_rfl) ?_
  iterate 5 go_big_quiet_step (fail)
  go_big_quiet_step (exact cL ⟨_, _⟩)
  iterate 2 go_big_quiet_step (fail)
  refine wpQuiet_nil ?_
  rintro _ ⟨p, rfl⟩
  have hb := below_regrown w p.d p.os
  go_wp2_with (fail)
  go_ret
  exact ⟨by go_num, hb⟩

end Go.Proofs.YtjofbnilhkmpeaaDoor

namespace Go.Proofs.YtjofbnilhkmpeaaDoor
set_option maxRecDepth 100000
open Go Go.RowKit Go.Sort Go.ChangeMaps Go.MapKept
attribute [local go_sem] setCell_drewN alloc_drewN

section
variable {P : Program} {ops : Array Oper} {Q : Exit → Act → World → Prop} {md : Region.Mode} {S : World → Prop}
/-- The one operation that may come up, where S is kept. -/
theorem wpAnyH_one {k : Nat} {o : Oper} {fuel : Nat} {listed : Array Bool} {a : Act} {w : World} (hr : Region.ready md ops listed = [k]) (hi : ops[k]? = some o) (hw : Region.wanted o (yielded ops a.tmps) = true)
    (h : ∀ K : Act → World → Prop, (∀ a' w', S w' → wpAnyH P md ops Q S fuel (listed.setIfInBounds k true) a' w' → K a' w') → o.wp P a w K Q) : wpAnyH P md ops Q S (fuel + 1) listed a w := by
  refine wpAnyH_all hr (by simp) (fun i hi' => ?_)
  obtain rfl : i = k := by simpa using hi'
  unfold wpOp
  simp only [hi, hw, if_true]
  exact .inl (h _ (fun a' w' hS hn => ⟨hS, hn⟩))
/-- Either of two operations may come up. -/
theorem wpAnyH_two {j k : Nat} {oj ok : Oper} {fuel : Nat} {listed : Array Bool} {a : Act} {w : World} (hr : Region.ready md ops listed = [j, k]) (hj : ops[j]? = some oj) (hk : ops[k]? = some ok) (wj : Region.wanted oj (yielded ops a.tmps) = true) (wk : Region.wanted ok (yielded ops a.tmps) = true)
    (h1 : ∀ K : Act → World → Prop, (∀ a' w', S w' → wpAnyH P md ops Q S fuel (listed.setIfInBounds j true) a' w' → K a' w') → oj.wp P a w K Q)
    (h2 : ∀ K : Act → World → Prop, (∀ a' w', S w' → wpAnyH P md ops Q S fuel (listed.setIfInBounds k true) a' w' → K a' w') → ok.wp P a w K Q) : wpAnyH P md ops Q S (fuel + 1) listed a w := by
  refine wpAnyH_all hr (by simp) (fun i hi' => ?_)
  obtain rfl | rfl : i = j ∨ i = k := by simpa using hi'
  · unfold wpOp
    simp only [hj, wj, if_true]
    exact .inl (h1 _ (fun a' w' hS hn => ⟨hS, hn⟩))
  · unfold wpOp
    simp only [hk, wk, if_true]
    exact .inl (h2 _ (fun a' w' hS hn => ⟨hS, hn⟩))
/-- A part of a row, as it is read. -/
theorem run_load_part {o : Oper} {a : Act} {w : World} (ty : TypeId) (x : Operand) (ho : o.op = .load ty x) (g off : Nat) (hx : a.eval x = .pointer (some ⟨g, off, none⟩)) (t : TypeId) (cs : Array Value) (fr : Nat × Nat) (part : Array Value) (d : TypeDesc) (hg : w.heap[g]? = some (.cells cs t fr)) (hp : cs.extract off (off + part.size) = part)
    (hu : P.underlying ty = some d) (hd : d.isRow = true) (hi : (P.info? ty).map (·.size) = some part.size) : (execOp a.eval o).run P w = .ok (.value (.agg part)) w := by
  have hr := World.rangeAt_of_block hg off part.size
  rw [hp] at hr
  have hl := run_loadVar_mid (P := P) w g off ty part.toList d hr hu hd (by simpa using hi)
  unfold execOp
  simp only [ho, hx, Instr.loadAt, Instr.sureAddr, Sem.run_bind, Sem.run_pure, Result.andThen_ok, hl]
theorem run_load_range {o : Oper} {a : Act} {w : World} (ty : TypeId) (x : Operand) (ho : o.op = .load ty x) (g off : Nat) (hx : a.eval x = .pointer (some ⟨g, off, none⟩)) (cs : List Value) (d : TypeDesc) (hr : w.rangeAt g off cs)
    (hu : P.underlying ty = some d) (hd : d.isRow = true) (hi : (P.info? ty).map (·.size) = some cs.length) : (execOp a.eval o).run P w = .ok (.value (.agg cs.toArray)) w := by
  have hl := run_loadVar_mid (P := P) w g off ty cs d hr hu hd hi
  unfold execOp
  simp only [ho, hx, Instr.loadAt, Instr.sureAddr, Sem.run_bind, Sem.run_pure, Result.andThen_ok, hl]
theorem run_look_op {o : Oper} {a : Act} {w : World} (t : TypeId) (m x : Operand) (c : Bool) (ho : o.op = .lookup t m x c) (u y v : Value) (hm : a.eval m = u) (hx : a.eval x = y) (hr : (Instr.lookup t u y c).run P w = .ok v w) : (execOp a.eval o).run P w = .ok (.value v) w := by
  unfold execOp
  simp only [ho, hm, hx, Sem.run_bind, Sem.run_pure, Result.andThen_ok, hr]
theorem run_build_op {o : Oper} {a : Act} {w : World} (t : TypeId) (parts : Array (Nat × Operand)) (ho : o.op = .build t parts) (vals : List (Nat × Value)) (hv : parts.toList.map (fun (i, x) => (i, a.eval x)) = vals) (cells : Array Value) (hb : P.built t vals = some cells) : (execOp a.eval o).run P w = .ok (.value (.agg cells)) w := by
  rw [← Array.toList_map] at hv
  subst hv
  unfold execOp
  simp only [ho, Sem.run_bind, Sem.run_pure, run_build w t _ cells hb, Result.andThen_ok]
theorem wpList_look {w : World} {rest : List Oper} {o : Oper} {a : Act} (hg : o.guard = none) (t : TypeId) (m x : Operand) (c : Bool) (ho : o.op = .lookup t m x c) (u y v : Value) (hm : a.eval m = u) (hx : a.eval x = y) (hr : (Instr.lookup t u y c).run P w = .ok v w) (h : wpList P ops Q rest (a.put o.dst v) w) : wpList P ops Q (o :: rest) a w :=
  wpList_plain hg fun _ hK => wp_world_op _ _ (run_look_op t m x c ho u y v hm hx hr) (hK _ _ h)
theorem wp_skip_op {o : Oper} {a : Act} {w w' : World} {K : Act → World → Prop} (hx : (execOp a.eval o).run P w = .ok .skip w') (h : K (a.put o.dst undef) w') : o.wp P a w K Q := by
  unfold Oper.wp
  rw [hx]
  exact h
theorem run_upd_op {o : Oper} {a : Act} {w w' : World} (t : TypeId) (m x y : Operand) (ho : o.op = .mapUpdate t m x y) (u k v : Value) (hm : a.eval m = u) (hx : a.eval x = k) (hy : a.eval y = v) (hr : (Instr.mapUpdate t u k v).run P w = .ok () w') : (execOp a.eval o).run P w = .ok .skip w' := by
  unfold execOp
  simp only [ho, hm, hx, hy, Sem.run_bind, Sem.run_pure, Result.andThen_ok, hr]
theorem wpList_upd {w w' : World} {rest : List Oper} {o : Oper} {a : Act} (hg : o.guard = none) (t : TypeId) (m x y : Operand) (ho : o.op = .mapUpdate t m x y) (u k v : Value) (hm : a.eval m = u) (hx : a.eval x = k) (hy : a.eval y = v) (hr : (Instr.mapUpdate t u k v).run P w = .ok () w') (h : wpList P ops Q rest (a.put o.dst undef) w') : wpList P ops Q (o :: rest) a w :=
  wpList_plain hg fun _ hK => wp_skip_op (run_upd_op t m x y ho u k v hm hx hy hr) (hK _ _ h)
theorem run_alloc_op {o : Oper} {a : Act} {w : World} (ty : TypeId) (ho : o.op = .alloc ty) (cs : Array Value) (hz : ∀ W, (Instr.alloc ty true (.tuple #[])).run P W = .ok (.pointer (some ⟨W.heap.size, 0, none⟩)) (W.alloc (.cells cs ty))) : (execOp a.eval o).run P w = .ok (.value (.pointer (some ⟨w.heap.size, 0, none⟩))) (w.alloc (.cells cs ty)) := by
  unfold execOp
  simp only [ho, Sem.run_bind, Sem.run_pure, hz, Result.andThen_ok]
end
/-- Where a walk shall stop. -/
def WpStay (p : Prop) : Prop := p
theorem wpList_stay {P : Program} {ops : Array Oper} {rest : List Oper} {a : Act} {w : World} {Q : Exit → Act → World → Prop} (h : WpStay (wpList P ops Q rest a w)) : wpList P ops Q rest a w := h
theorem all_row (cs : Array Value) : cs.extract 0 (0 + cs.size) = cs := by simp
theorem results_cell_slot {P : Program} {fn : Func} {p q : Tmp} {ty : TypeId} (h : fn.results = #[.cell p ty, .tmp q]) (tmps : Array Value) (w : World) (g : Nat) (t : TypeId) (cs : Array Value) (fr : Nat × Nat) (d : TypeDesc)
    (hp : tmps.getD p undef = .pointer (some ⟨g, 0, none⟩)) (hg : w.heap[g]? = some (.cells cs t fr))
    (hu : P.underlying ty = some d) (hd : (match d with | .struct _ | .array _ _ => true | _ => false) = true) (hi : (P.info? ty).map (·.size) = some cs.size) :
    (results fn tmps).run P w = .ok (.tuple #[.agg cs, tmps.getD q undef]) w := by
  have hp' : tmps[p]?.getD undef = .pointer (some ⟨g, 0, none⟩) := by simpa using hp
  simp [results, h, hp', asAddr, run_loadVar_row w g t ty cs fr d hg hu hd hi]
theorem zky (w : World) : (zeroValue 23).run Tryd.prog w = .ok (.agg (irow .u8 (zr 32))) w := by kernel_rfl
/-- What is found of a label. -/
def fnd (l : List Sr) (x : Lb) : Option Sr := (plc x (l.map Sr.lb)).map (gs l)
def fky (l : List Sr) (x : Lb) : List Int := match fnd l x with | some s => s.m | none => zr 32
theorem aget_ents (l : List Sr) (x : Lb) : aget (ents l) x = (fnd l x).map fun s => .agg (irow .u8 s.m) := by
  unfold aget fnd
  rw [ents_keys, ents_vals]
  cases h : plc x (l.map Sr.lb) with
  | none => rfl
  | some i =>
    have hi := (plc_lt x _ i h).1
    rw [List.length_map] at hi
    simp [gs_get hi]
theorem fky_len {l : List Sr} (h : AllOk l) (x : Lb) : (fky l x).length = 32 := by
  unfold fky fnd
  cases hp : plc x (l.map Sr.lb) with
  | none => rfl
  | some i =>
    have hi := (plc_lt x _ i hp).1
    rw [List.length_map] at hi
    exact (h.at hi).2
theorem look_sto {W : World} {base g b : Nat} {v : Value} {most : Int} {l : List Sr} (h : Sto W base g b v most l) (x : Lb) (hx : lok x) : (Instr.lookup 61 (.map (some b)) (lenc x) true).run Tryd.prog W = .ok (.tuple #[.agg (irow .u8 (fky l x)), .bool (fnd l x).isSome]) W := by
  have := run_lookm kLb Tryd.underlying61 W (zky W) b (ents l) h.map (ents_ok h.ok) x hx true
  rw [aget_ents] at this
  rw [this]
  unfold fky
  cases fnd l x <;> rfl
end Go.Proofs.YtjofbnilhkmpeaaDoor
