import Derived.Test.YtkickbgiidhpfaaDoorProg
import Derived.WalkKit
import Derived.WalkSpells
import Derived.WalkLawsBesides
import Derived.Lib.QuietBelow
import Derived.BigQuiet
import Derived.OrdersHeld
import Derived.Deep.RegionHeld3
import Derived.Test.YtkickbgiidhpfaaDoorKa
import Derived.Test.YtkickbgiidhpfaaDoorNo
import Derived.Test.YtkickbgiidhpfaaDoorSgn
import Derived.Test.YtkickbgiidhpfaaDoorNm
namespace Go.Proofs.YtkickbgiidhpfaaDoor
open Go Go.RowKit Go.Sort
attribute [local go_sem] setCell_drewN alloc_drewN

section
variable {P : Program} {ops : Array Oper} {Q : Exit → Act → World → Prop} {md : Region.Mode} {S : World → Prop}
/-- The one operation that may come up, where S is kept. -/
theorem wpAnyH_one {k : Nat} {o : Oper} {fuel : Nat} {listed : Array Bool} {a : Act} {w : World} (hr : Region.ready md ops listed = [k]) (hi : ops[k]? = some o) (hw : Region.wanted o (yielded ops a.tmps) = true)
    (h : ∀ K : Act → World → Prop, (∀ a' w', S w' → wpAnyH P md ops Q S fuel (listed.setIfInBounds k true) a' w' → K a' w') → o.wp P a w K Q) : wpAnyH P md ops Q S (fuel + 1) listed a w := by
  refine wpAnyH_all hr (by simp) (fun i hi' => ?_)
  obtain rfl : i = k := by simpa using hi'
  unfold wpOp
  simp only [hi, hw, if_true]
  exact .inl (h _ (fun a' w' hS hn => ⟨hS, hn⟩))
/-- A part of a row, as it is read. -/
theorem run_load_part {o : Oper} {a : Act} {w : World} (ty : TypeId) (x : Operand) (ho : o.op = .load ty x) (g off : Nat) (hx : a.eval x = .pointer (some ⟨g, off, none⟩)) (t : TypeId) (cs : Array Value) (fr : Nat × Nat) (part : Array Value) (d : TypeDesc) (hg : w.heap[g]? = some (.cells cs t fr)) (hp : cs.extract off (off + part.size) = part)
    (hu : P.underlying ty = some d) (hd : d.isRow = true) (hi : (P.info? ty).map (·.size) = some part.size) : (execOp a.eval o).run P w = .ok (.value (.agg part)) w := by
  have hr := World.rangeAt_of_block hg off part.size
  rw [hp] at hr
  have hl := run_loadVar_mid (P := P) w g off ty part.toList d hr hu hd (by simpa using hi)
  unfold execOp
  simp only [ho, hx, Instr.loadAt, Instr.sureAddr, Sem.run_bind, Sem.run_pure, Result.andThen_ok, hl]
/-- Either of two operations may come up. -/
theorem wpAnyH_two {j k : Nat} {oj ok : Oper} {fuel : Nat} {listed : Array Bool} {a : Act} {w : World} (hr : Region.ready md ops listed = [j, k]) (hj : ops[j]? = some oj) (hk : ops[k]? = some ok) (wj : Region.wanted oj (yielded ops a.tmps) = true) (wk : Region.wanted ok (yielded ops a.tmps) = true)
    (h1 : ∀ K : Act → World → Prop, (∀ a' w', S w' → wpAnyH P md ops Q S fuel (listed.setIfInBounds j true) a' w' → K a' w') → oj.wp P a w K Q)
    (h2 : ∀ K : Act → World → Prop, (∀ a' w', S w' → wpAnyH P md ops Q S fuel (listed.setIfInBounds k true) a' w' → K a' w') → ok.wp P a w K Q) : wpAnyH P md ops Q S (fuel + 1) listed a w := by
  refine wpAnyH_all hr (by simp) (fun i hi' => ?_)
  obtain rfl | rfl : i = j ∨ i = k := by simpa using hi'
  · unfold wpOp
    simp only [hj, wj, if_true]
    exact .inl (h1 _ (fun a' w' hS hn => ⟨hS, hn⟩))
  · unfold wpOp
    simp only [hk, wk, if_true]
    exact .inl (h2 _ (fun a' w' hS hn => ⟨hS, hn⟩))
/-- Two results that lie in rows. -/
theorem results_cell2_row {fn : Func} {p q : Tmp} {ty : TypeId} (h : fn.results = #[.cell p ty, .cell q ty]) (tmps : Array Value) (w : World) (g k : Nat) (t u : TypeId) (cs ds : Array Value) (fr gr : Nat × Nat) (d : TypeDesc)
    (hp : tmps.getD p undef = .pointer (some ⟨g, 0, none⟩)) (hq : tmps.getD q undef = .pointer (some ⟨k, 0, none⟩)) (hg : w.heap[g]? = some (.cells cs t fr)) (hk : w.heap[k]? = some (.cells ds u gr))
    (hu : P.underlying ty = some d) (hd : (match d with | .struct _ | .array _ _ => true | _ => false) = true) (hi : (P.info? ty).map (·.size) = some cs.size) (hj : (P.info? ty).map (·.size) = some ds.size) :
    (results fn tmps).run P w = .ok (.tuple #[.agg cs, .agg ds]) w := by
  have hp' : tmps[p]?.getD undef = .pointer (some ⟨g, 0, none⟩) := by simpa using hp
  have hq' : tmps[q]?.getD undef = .pointer (some ⟨k, 0, none⟩) := by simpa using hq
  simp [results, h, hp', hq', asAddr, run_loadVar_row w g t ty cs fr d hg hu hd hi, run_loadVar_row w k u ty ds gr d hk hu hd hj]
end
theorem all_row (cs : Array Value) : cs.extract 0 (0 + cs.size) = cs := by simp
theorem irow_take (l : List Int) (n : Nat) (k : IntKind) (h : n ≤ l.length) : (irow k l).extract 0 (0 + (irow k (l.take n)).size) = irow k (l.take n) := by
  apply Array.ext'
  simp [irow, List.map_take, h]
theorem irow_drop (l : List Int) (n : Nat) (k : IntKind) : (irow k l).extract n (n + (irow k (l.drop n)).size) = irow k (l.drop n) := by
  apply Array.ext'
  simp only [irow, List.extract_toArray, List.extract_eq_take_drop, List.map_drop, List.size_toArray, List.length_drop, List.length_map, Nat.add_sub_cancel_left]
  exact List.take_of_length_le (by simp)
theorem bys_rowF {W : World} {g n : Nat} {l : List Int} {t : TypeId} {fr : Nat × Nat} (hg : W.heap[g]? = some (.cells (irow .u8 l) t fr)) (hl : l.length ≤ 9223372036854775807) (hz : ∀ z ∈ l, 0 ≤ z ∧ z < 256) (hn : l.length = n) {cap : Nat} : Bys W (.slice (some ⟨g, 0, none⟩) n cap) l := by
  subst hn
  refine ⟨_, _, rfl, hl, fun j hj => ⟨g, 0, rfl, lt_of_row hg, ?_⟩, hz⟩
  rw [Nat.zero_add, cell_of_row _ _ _ _ _ _ hg]
  simp [irow, List.getD_eq_getElem?_getD, List.getElem?_eq_getElem hj]
theorem arr_k (g o c : Nat) (W : World) : (Instr.arrayAt 23 (.slice (some ⟨g, o, none⟩) 32 c)).run Tryd.prog W = .ok (.pointer (some ⟨g, o, none⟩)) W := by kernel_rfl
set_option maxRecDepth 100000 in
set_option maxHeartbeats 4000000 in
theorem a_Step (key : List Int) (hkl : key.length = 32) (hkz : ∀ z ∈ key, 0 ≤ z ∧ z < 256) (w : World) (hS : Sta w) (hK : Kon w) : Calls Tryd.prog 11 #[.agg (irow .u8 key)] w fun e w' => e = .returned (.tuple #[.agg (irow .u8 (hm key [2])), .agg (irow .u8 (hm key [1]))]) ∧ Below w.heap.size w w' := by
  have l2 := hm_len key [2]
  have l1 := hm_len key [1]
  have R0 := hp3_0 w (.cells (irow .u8 key) 23) (.cells (irow .u8 (zr 32)) 23) (.cells (irow .u8 (zr 32)) 23)
  have R1 := hp3_1 w (.cells (irow .u8 key) 23) (.cells (irow .u8 (zr 32)) 23) (.cells (irow .u8 (zr 32)) 23)
  have R2 := hp3_2 w (.cells (irow .u8 key) 23) (.cells (irow .u8 (zr 32)) 23) (.cells (irow .u8 (zr 32)) 23)
  have hw : Below w.heap.size w (((w.alloc (.cells (irow .u8 key) 23)).alloc (.cells (irow .u8 (zr 32)) 23)).alloc (.cells (irow .u8 (zr 32)) 23)) := ((((Below.refl _ _).alloc (Nat.le_refl _) _).alloc (by simp) _).alloc (by simp; omega) _)
  have sk := slice_k w.heap.size
  have f0 := hS.below hw
  have f4 := hK.below hw
  go_enter Tryd.func11, Tryd.ntmps11
  go_wp2_with (first | (refine wpList_box rfl 23 _ rfl _ rfl (bK _) ?_) | (refine wpList_alloc rfl 23 rfl (irow .u8 (zr 32)) zkey ?_) | fail)
  try simp only [size_alloc1, Act.put, List.setIfInBounds_toArray, List.set_cons_succ, List.set_cons_zero]
  generalize (((w.alloc (.cells (irow .u8 key) 23)).alloc (.cells (irow .u8 (zr 32)) 23)).alloc (.cells (irow .u8 (zr 32)) 23)) = w0 at *
  have hbd : Below w0.heap.size w0 w0.drew := below_drN (Below.refl _ _) 1
  replace R0 := keep hbd R0
  replace R1 := keep hbd R1
  replace R2 := keep hbd R2
  replace f0 := f0.below hbd
  replace f4 := f4.below hbd
  replace hw := Below.after hw hbd
  clear hbd
  refine wp_region_noPanic ?_
  refine wp_region_held (S := fun _ => True) (by kernel_rfl) ?_
  change wpAnyH _ _ _ _ _ _ _ _ (World.drew _)
  generalize w0.drew = w1 at *
  refine wpAnyH_take (i := 0) (v := ?v1) rfl (by kernel_rfl) (by kernel_rfl) (by kernel_rfl) (fun _ _ _ h => h) (Or.inl ⟨by rfl, ?y1⟩) (trivial) ?r1
  case y1 =>
    intro w_ hS_
    go_simp
    try with_reducible rfl
  simp only [Act.put, List.getElem_toArray, List.getElem_cons_zero, List.setIfInBounds_toArray, List.set_cons_succ, List.set_cons_zero]
  refine wpAnyH_take (i := 3) (v := ?v2) rfl (by kernel_rfl) (by kernel_rfl) (by kernel_rfl) (fun _ _ _ h => h) (Or.inl ⟨by rfl, ?y2⟩) (trivial) ?r2
  case y2 =>
    intro w_ hS_
    go_simp
    try with_reducible rfl
  simp only [Act.put, List.getElem_toArray, List.getElem_cons_succ, List.getElem_cons_zero, List.setIfInBounds_toArray, List.set_cons_succ, List.set_cons_zero]
  refine wpAnyH_two (j := 1) (k := 4) (fuel := 5) (by kernel_rfl) rfl rfl (by kernel_rfl) (by kernel_rfl) (fun K_ hK_ => ?_) (fun K_ hK_ => ?_)
  · refine wp_world_op (.slice (some ⟨w1.heap.size, 0, none⟩) 1 1) (w1.alloc (.cells #[.int .u8 2] 5)) (by kernel_rfl) ?_
    have hb_ : Below w1.heap.size w1 (w1.alloc (.cells #[.int .u8 2] 5)) := (Below.refl _ _).alloc (Nat.le_refl _) _
    have sz_g2 : w.heap.size ≤ w1.heap.size := hw.size
    have lt_R0_g2 := lt_of_row R0
    have lt_R1_g2 := lt_of_row R1
    have lt_R2_g2 := lt_of_row R2
    have rB2 := hp1_0 w1 (.cells #[.int .u8 2] 5)
    replace R0 := keep hb_ R0
    replace R1 := keep hb_ R1
    replace R2 := keep hb_ R2
    replace f0 := f0.below hb_
    replace f4 := f4.below hb_
    replace hw := Below.after hw hb_
    clear hb_
    refine hK_ _ _ (trivial) ?_
    simp only [Act.put, List.getElem_toArray, List.getElem_cons_succ, List.getElem_cons_zero, List.setIfInBounds_toArray, List.set_cons_succ, List.set_cons_zero]
    clear hK_
    generalize w1.alloc (.cells #[.int .u8 2] 5) = q1 at *
    generalize w1.heap.size = g2 at *
    refine wpAnyH_two (j := 2) (k := 4) (fuel := 4) (by kernel_rfl) rfl rfl (by kernel_rfl) (by kernel_rfl) (fun K_ hK_ => ?_) (fun K_ hK_ => ?_)
    · have hB1_ : Bys q1 (.slice (some ⟨w.heap.size, 0, none⟩) 32 32) key := by
        have h := Bys.of_row R0 (by omega) hkz 32
        rw [hkl] at h
        exact h
      have hB2_ : Bys q1 (.slice (some ⟨g2, 0, none⟩) 1 1) [2] := Bys.of_row (l := [2]) rB2 (by decide) (by decide) 1
      refine wp_call_ex (f := 17) (by kernel_rfl) (ex1 (a_macSum key [2] q1 _ _ f0 f4 hB1_ (fun a l c h => by cases h; exact Nat.le_refl _) (by omega) hB2_ (fun a l c h => by cases h; exact Nat.le_refl _) (by decide))) (fun v_ q3 hX_ => ?_)
      obtain ⟨rfl, hb_⟩ := hX_
      replace R0 := keep hb_ R0
      replace R1 := keep hb_ R1
      replace R2 := keep hb_ R2
      replace rB2 := keep hb_ rB2
      replace f0 := f0.below hb_
      replace f4 := f4.below hb_
      replace hw := Below.after hw hb_
      clear hb_
      clear hB1_ hB2_
      refine hK_ _ _ (trivial) ?_
      simp only [Act.put, List.getElem_toArray, List.getElem_cons_succ, List.getElem_cons_zero, List.setIfInBounds_toArray, List.set_cons_succ, List.set_cons_zero]
      clear hK_
      refine wpAnyH_one (k := 4) (fuel := 3) (by kernel_rfl) rfl (by kernel_rfl) (fun K_ hK_ => ?_)
      refine wp_world_op (.slice (some ⟨q3.heap.size, 0, none⟩) 1 1) (q3.alloc (.cells #[.int .u8 1] 5)) (by kernel_rfl) ?_
      have hb_ : Below q3.heap.size q3 (q3.alloc (.cells #[.int .u8 1] 5)) := (Below.refl _ _).alloc (Nat.le_refl _) _
      have sz_g5 : w.heap.size ≤ q3.heap.size := hw.size
      have lt_R0_g5 := lt_of_row R0
      have lt_R1_g5 := lt_of_row R1
      have lt_R2_g5 := lt_of_row R2
      have lt_rB2_g5 := lt_of_row rB2
      have rB1 := hp1_0 q3 (.cells #[.int .u8 1] 5)
      replace R0 := keep hb_ R0
      replace R1 := keep hb_ R1
      replace R2 := keep hb_ R2
      replace rB2 := keep hb_ rB2
      replace f0 := f0.below hb_
      replace f4 := f4.below hb_
      replace hw := Below.after hw hb_
      clear hb_
      refine hK_ _ _ (trivial) ?_
      simp only [Act.put, List.getElem_toArray, List.getElem_cons_succ, List.getElem_cons_zero, List.setIfInBounds_toArray, List.set_cons_succ, List.set_cons_zero]
      clear hK_
      generalize q3.alloc (.cells #[.int .u8 1] 5) = q4 at *
      generalize q3.heap.size = g5 at *
      refine wpAnyH_one (k := 5) (fuel := 2) (by kernel_rfl) rfl (by kernel_rfl) (fun K_ hK_ => ?_)
      have hB1_ : Bys q4 (.slice (some ⟨w.heap.size, 0, none⟩) 32 32) key := by
        have h := Bys.of_row R0 (by omega) hkz 32
        rw [hkl] at h
        exact h
      have hB2_ : Bys q4 (.slice (some ⟨g5, 0, none⟩) 1 1) [1] := Bys.of_row (l := [1]) rB1 (by decide) (by decide) 1
      refine wp_call_ex (f := 17) (by kernel_rfl) (ex1 (a_macSum key [1] q4 _ _ f0 f4 hB1_ (fun a l c h => by cases h; exact Nat.le_refl _) (by omega) hB2_ (fun a l c h => by cases h; exact Nat.le_refl _) (by decide))) (fun v_ q6 hX_ => ?_)
      obtain ⟨rfl, hb_⟩ := hX_
      replace R0 := keep hb_ R0
      replace R1 := keep hb_ R1
      replace R2 := keep hb_ R2
      replace rB2 := keep hb_ rB2
      replace rB1 := keep hb_ rB1
      replace f0 := f0.below hb_
      replace f4 := f4.below hb_
      replace hw := Below.after hw hb_
      clear hb_
      clear hB1_ hB2_
      refine hK_ _ _ (trivial) ?_
      simp only [Act.put, List.getElem_toArray, List.getElem_cons_succ, List.getElem_cons_zero, List.setIfInBounds_toArray, List.set_cons_succ, List.set_cons_zero]
      clear hK_
      refine wpAnyH_one (k := 6) (fuel := 1) (by kernel_rfl) rfl (by kernel_rfl) (fun K_ hK_ => ?_)
      clear rB1 rB2 R0 f0 f4
      refine wp_store_row 23 _ _ rfl (w.heap.size + 1) (irow .u8 (hm key [2])) rfl rfl 23 _ R1 (infok8 _ l2) (fit32 _ _ (zr_len 32) l2) (irow_one _ _) ?_
      replace R2 := (setRow_other q6 (w.heap.size + 1) (w.heap.size + 1 + 1) (irow .u8 (hm key [2])) (by omega)).trans R2
      replace R1 := setRow_heap q6 (w.heap.size + 1) _ (irow .u8 (hm key [2])) _ _ R1
      replace hw := below_setRow hw (show w.heap.size ≤ w.heap.size + 1 by omega) (irow .u8 (hm key [2]))
      refine hK_ _ _ (trivial) ?_
      simp only [Act.put]
      clear hK_
      generalize q6.setRow (w.heap.size + 1) (irow .u8 (hm key [2])) = q7 at *
      refine wpAnyH_one (k := 7) (fuel := 0) (by kernel_rfl) rfl (by kernel_rfl) (fun K_ hK_ => ?_)
      refine wp_store_row 23 _ _ rfl (w.heap.size + 1 + 1) (irow .u8 (hm key [1])) rfl rfl 23 _ R2 (infok8 _ l1) (fit32 _ _ (zr_len 32) l1) (irow_one _ _) ?_
      replace R1 := (setRow_other q7 (w.heap.size + 1 + 1) (w.heap.size + 1) (irow .u8 (hm key [1])) (by omega)).trans R1
      replace R2 := setRow_heap q7 (w.heap.size + 1 + 1) _ (irow .u8 (hm key [1])) _ _ R2
      replace hw := below_setRow hw (show w.heap.size ≤ w.heap.size + 1 + 1 by omega) (irow .u8 (hm key [1]))
      refine hK_ _ _ (trivial) ?_
      simp only [Act.put]
      clear hK_
      generalize q7.setRow (w.heap.size + 1 + 1) (irow .u8 (hm key [1])) = q8 at *
      refine wpAnyH_done (by kernel_rfl) ?_ _
      refine NoPanic.normal ?_
      go_wp2
      exact bodyPost_ret (results_cell2_row Tryd.results11 _ _ (w.heap.size + 1) (w.heap.size + 1 + 1) _ _ _ _ _ _ _ rfl rfl R1 R2 Tryd.underlying23 rfl (infok8 _ l2) (infok8 _ l1)) rfl ⟨rfl, hw⟩
    · refine wp_world_op (.slice (some ⟨q1.heap.size, 0, none⟩) 1 1) (q1.alloc (.cells #[.int .u8 1] 5)) (by kernel_rfl) ?_
      have hb_ : Below q1.heap.size q1 (q1.alloc (.cells #[.int .u8 1] 5)) := (Below.refl _ _).alloc (Nat.le_refl _) _
      have sz_g10 : w.heap.size ≤ q1.heap.size := hw.size
      have lt_R0_g10 := lt_of_row R0
      have lt_R1_g10 := lt_of_row R1
      have lt_R2_g10 := lt_of_row R2
      have lt_rB2_g10 := lt_of_row rB2
      have rB1 := hp1_0 q1 (.cells #[.int .u8 1] 5)
      replace R0 := keep hb_ R0
      replace R1 := keep hb_ R1
      replace R2 := keep hb_ R2
      replace rB2 := keep hb_ rB2
      replace f0 := f0.below hb_
      replace f4 := f4.below hb_
      replace hw := Below.after hw hb_
      clear hb_
      refine hK_ _ _ (trivial) ?_
      simp only [Act.put, List.getElem_toArray, List.getElem_cons_succ, List.getElem_cons_zero, List.setIfInBounds_toArray, List.set_cons_succ, List.set_cons_zero]
      clear hK_
      generalize q1.alloc (.cells #[.int .u8 1] 5) = q9 at *
      generalize q1.heap.size = g10 at *
      refine wpAnyH_one (k := 2) (fuel := 3) (by kernel_rfl) rfl (by kernel_rfl) (fun K_ hK_ => ?_)
      have hB1_ : Bys q9 (.slice (some ⟨w.heap.size, 0, none⟩) 32 32) key := by
        have h := Bys.of_row R0 (by omega) hkz 32
        rw [hkl] at h
        exact h
      have hB2_ : Bys q9 (.slice (some ⟨g2, 0, none⟩) 1 1) [2] := Bys.of_row (l := [2]) rB2 (by decide) (by decide) 1
      refine wp_call_ex (f := 17) (by kernel_rfl) (ex1 (a_macSum key [2] q9 _ _ f0 f4 hB1_ (fun a l c h => by cases h; exact Nat.le_refl _) (by omega) hB2_ (fun a l c h => by cases h; exact Nat.le_refl _) (by decide))) (fun v_ q11 hX_ => ?_)
      obtain ⟨rfl, hb_⟩ := hX_
      replace R0 := keep hb_ R0
      replace R1 := keep hb_ R1
      replace R2 := keep hb_ R2
      replace rB2 := keep hb_ rB2
      replace rB1 := keep hb_ rB1
      replace f0 := f0.below hb_
      replace f4 := f4.below hb_
      replace hw := Below.after hw hb_
      clear hb_
      clear hB1_ hB2_
      refine hK_ _ _ (trivial) ?_
      simp only [Act.put, List.getElem_toArray, List.getElem_cons_succ, List.getElem_cons_zero, List.setIfInBounds_toArray, List.set_cons_succ, List.set_cons_zero]
      clear hK_
      refine wpAnyH_one (k := 5) (fuel := 2) (by kernel_rfl) rfl (by kernel_rfl) (fun K_ hK_ => ?_)
      have hB1_ : Bys q11 (.slice (some ⟨w.heap.size, 0, none⟩) 32 32) key := by
        have h := Bys.of_row R0 (by omega) hkz 32
        rw [hkl] at h
        exact h
      have hB2_ : Bys q11 (.slice (some ⟨g10, 0, none⟩) 1 1) [1] := Bys.of_row (l := [1]) rB1 (by decide) (by decide) 1
      refine wp_call_ex (f := 17) (by kernel_rfl) (ex1 (a_macSum key [1] q11 _ _ f0 f4 hB1_ (fun a l c h => by cases h; exact Nat.le_refl _) (by omega) hB2_ (fun a l c h => by cases h; exact Nat.le_refl _) (by decide))) (fun v_ q12 hX_ => ?_)
      obtain ⟨rfl, hb_⟩ := hX_
      replace R0 := keep hb_ R0
      replace R1 := keep hb_ R1
      replace R2 := keep hb_ R2
      replace rB2 := keep hb_ rB2
      replace rB1 := keep hb_ rB1
      replace f0 := f0.below hb_
      replace f4 := f4.below hb_
      replace hw := Below.after hw hb_
      clear hb_
      clear hB1_ hB2_
      refine hK_ _ _ (trivial) ?_
      simp only [Act.put, List.getElem_toArray, List.getElem_cons_succ, List.getElem_cons_zero, List.setIfInBounds_toArray, List.set_cons_succ, List.set_cons_zero]
      clear hK_
      refine wpAnyH_one (k := 6) (fuel := 1) (by kernel_rfl) rfl (by kernel_rfl) (fun K_ hK_ => ?_)
      clear rB1 rB2 R0 f0 f4
      refine wp_store_row 23 _ _ rfl (w.heap.size + 1) (irow .u8 (hm key [2])) rfl rfl 23 _ R1 (infok8 _ l2) (fit32 _ _ (zr_len 32) l2) (irow_one _ _) ?_
      replace R2 := (setRow_other q12 (w.heap.size + 1) (w.heap.size + 1 + 1) (irow .u8 (hm key [2])) (by omega)).trans R2
      replace R1 := setRow_heap q12 (w.heap.size + 1) _ (irow .u8 (hm key [2])) _ _ R1
      replace hw := below_setRow hw (show w.heap.size ≤ w.heap.size + 1 by omega) (irow .u8 (hm key [2]))
      refine hK_ _ _ (trivial) ?_
      simp only [Act.put]
      clear hK_
      generalize q12.setRow (w.heap.size + 1) (irow .u8 (hm key [2])) = q13 at *
      refine wpAnyH_one (k := 7) (fuel := 0) (by kernel_rfl) rfl (by kernel_rfl) (fun K_ hK_ => ?_)
      refine wp_store_row 23 _ _ rfl (w.heap.size + 1 + 1) (irow .u8 (hm key [1])) rfl rfl 23 _ R2 (infok8 _ l1) (fit32 _ _ (zr_len 32) l1) (irow_one _ _) ?_
      replace R1 := (setRow_other q13 (w.heap.size + 1 + 1) (w.heap.size + 1) (irow .u8 (hm key [1])) (by omega)).trans R1
      replace R2 := setRow_heap q13 (w.heap.size + 1 + 1) _ (irow .u8 (hm key [1])) _ _ R2
      replace hw := below_setRow hw (show w.heap.size ≤ w.heap.size + 1 + 1 by omega) (irow .u8 (hm key [1]))
      refine hK_ _ _ (trivial) ?_
      simp only [Act.put]
      clear hK_
      generalize q13.setRow (w.heap.size + 1 + 1) (irow .u8 (hm key [1])) = q14 at *
      refine wpAnyH_done (by kernel_rfl) ?_ _
      refine NoPanic.normal ?_
      go_wp2
      exact bodyPost_ret (results_cell2_row Tryd.results11 _ _ (w.heap.size + 1) (w.heap.size + 1 + 1) _ _ _ _ _ _ _ rfl rfl R1 R2 Tryd.underlying23 rfl (infok8 _ l2) (infok8 _ l1)) rfl ⟨rfl, hw⟩
  · refine wp_world_op (.slice (some ⟨w1.heap.size, 0, none⟩) 1 1) (w1.alloc (.cells #[.int .u8 1] 5)) (by kernel_rfl) ?_
    have hb_ : Below w1.heap.size w1 (w1.alloc (.cells #[.int .u8 1] 5)) := (Below.refl _ _).alloc (Nat.le_refl _) _
    have sz_g16 : w.heap.size ≤ w1.heap.size := hw.size
    have lt_R0_g16 := lt_of_row R0
    have lt_R1_g16 := lt_of_row R1
    have lt_R2_g16 := lt_of_row R2
    have rB1 := hp1_0 w1 (.cells #[.int .u8 1] 5)
    replace R0 := keep hb_ R0
    replace R1 := keep hb_ R1
    replace R2 := keep hb_ R2
    replace f0 := f0.below hb_
    replace f4 := f4.below hb_
    replace hw := Below.after hw hb_
    clear hb_
    refine hK_ _ _ (trivial) ?_
    simp only [Act.put, List.getElem_toArray, List.getElem_cons_succ, List.getElem_cons_zero, List.setIfInBounds_toArray, List.set_cons_succ, List.set_cons_zero]
    clear hK_
    generalize w1.alloc (.cells #[.int .u8 1] 5) = q15 at *
    generalize w1.heap.size = g16 at *
    refine wpAnyH_one (k := 1) (fuel := 4) (by kernel_rfl) rfl (by kernel_rfl) (fun K_ hK_ => ?_)
    refine wp_world_op (.slice (some ⟨q15.heap.size, 0, none⟩) 1 1) (q15.alloc (.cells #[.int .u8 2] 5)) (by kernel_rfl) ?_
    have hb_ : Below q15.heap.size q15 (q15.alloc (.cells #[.int .u8 2] 5)) := (Below.refl _ _).alloc (Nat.le_refl _) _
    have sz_g18 : w.heap.size ≤ q15.heap.size := hw.size
    have lt_R0_g18 := lt_of_row R0
    have lt_R1_g18 := lt_of_row R1
    have lt_R2_g18 := lt_of_row R2
    have lt_rB1_g18 := lt_of_row rB1
    have rB2 := hp1_0 q15 (.cells #[.int .u8 2] 5)
    replace R0 := keep hb_ R0
    replace R1 := keep hb_ R1
    replace R2 := keep hb_ R2
    replace rB1 := keep hb_ rB1
    replace f0 := f0.below hb_
    replace f4 := f4.below hb_
    replace hw := Below.after hw hb_
    clear hb_
    refine hK_ _ _ (trivial) ?_
    simp only [Act.put, List.getElem_toArray, List.getElem_cons_succ, List.getElem_cons_zero, List.setIfInBounds_toArray, List.set_cons_succ, List.set_cons_zero]
    clear hK_
    generalize q15.alloc (.cells #[.int .u8 2] 5) = q17 at *
    generalize q15.heap.size = g18 at *
    refine wpAnyH_one (k := 2) (fuel := 3) (by kernel_rfl) rfl (by kernel_rfl) (fun K_ hK_ => ?_)
    have hB1_ : Bys q17 (.slice (some ⟨w.heap.size, 0, none⟩) 32 32) key := by
      have h := Bys.of_row R0 (by omega) hkz 32
      rw [hkl] at h
      exact h
    have hB2_ : Bys q17 (.slice (some ⟨g18, 0, none⟩) 1 1) [2] := Bys.of_row (l := [2]) rB2 (by decide) (by decide) 1
    refine wp_call_ex (f := 17) (by kernel_rfl) (ex1 (a_macSum key [2] q17 _ _ f0 f4 hB1_ (fun a l c h => by cases h; exact Nat.le_refl _) (by omega) hB2_ (fun a l c h => by cases h; exact Nat.le_refl _) (by decide))) (fun v_ q19 hX_ => ?_)
    obtain ⟨rfl, hb_⟩ := hX_
    replace R0 := keep hb_ R0
    replace R1 := keep hb_ R1
    replace R2 := keep hb_ R2
    replace rB1 := keep hb_ rB1
    replace rB2 := keep hb_ rB2
    replace f0 := f0.below hb_
    replace f4 := f4.below hb_
    replace hw := Below.after hw hb_
    clear hb_
    clear hB1_ hB2_
    refine hK_ _ _ (trivial) ?_
    simp only [Act.put, List.getElem_toArray, List.getElem_cons_succ, List.getElem_cons_zero, List.setIfInBounds_toArray, List.set_cons_succ, List.set_cons_zero]
    clear hK_
    refine wpAnyH_one (k := 5) (fuel := 2) (by kernel_rfl) rfl (by kernel_rfl) (fun K_ hK_ => ?_)
    have hB1_ : Bys q19 (.slice (some ⟨w.heap.size, 0, none⟩) 32 32) key := by
      have h := Bys.of_row R0 (by omega) hkz 32
      rw [hkl] at h
      exact h
    have hB2_ : Bys q19 (.slice (some ⟨g16, 0, none⟩) 1 1) [1] := Bys.of_row (l := [1]) rB1 (by decide) (by decide) 1
    refine wp_call_ex (f := 17) (by kernel_rfl) (ex1 (a_macSum key [1] q19 _ _ f0 f4 hB1_ (fun a l c h => by cases h; exact Nat.le_refl _) (by omega) hB2_ (fun a l c h => by cases h; exact Nat.le_refl _) (by decide))) (fun v_ q20 hX_ => ?_)
    obtain ⟨rfl, hb_⟩ := hX_
    replace R0 := keep hb_ R0
    replace R1 := keep hb_ R1
    replace R2 := keep hb_ R2
    replace rB1 := keep hb_ rB1
    replace rB2 := keep hb_ rB2
    replace f0 := f0.below hb_
    replace f4 := f4.below hb_
    replace hw := Below.after hw hb_
    clear hb_
    clear hB1_ hB2_
    refine hK_ _ _ (trivial) ?_
    simp only [Act.put, List.getElem_toArray, List.getElem_cons_succ, List.getElem_cons_zero, List.setIfInBounds_toArray, List.set_cons_succ, List.set_cons_zero]
    clear hK_
    refine wpAnyH_one (k := 6) (fuel := 1) (by kernel_rfl) rfl (by kernel_rfl) (fun K_ hK_ => ?_)
    clear rB1 rB2 R0 f0 f4
    refine wp_store_row 23 _ _ rfl (w.heap.size + 1) (irow .u8 (hm key [2])) rfl rfl 23 _ R1 (infok8 _ l2) (fit32 _ _ (zr_len 32) l2) (irow_one _ _) ?_
    replace R2 := (setRow_other q20 (w.heap.size + 1) (w.heap.size + 1 + 1) (irow .u8 (hm key [2])) (by omega)).trans R2
    replace R1 := setRow_heap q20 (w.heap.size + 1) _ (irow .u8 (hm key [2])) _ _ R1
    replace hw := below_setRow hw (show w.heap.size ≤ w.heap.size + 1 by omega) (irow .u8 (hm key [2]))
    refine hK_ _ _ (trivial) ?_
    simp only [Act.put]
    clear hK_
    generalize q20.setRow (w.heap.size + 1) (irow .u8 (hm key [2])) = q21 at *
    refine wpAnyH_one (k := 7) (fuel := 0) (by kernel_rfl) rfl (by kernel_rfl) (fun K_ hK_ => ?_)
    refine wp_store_row 23 _ _ rfl (w.heap.size + 1 + 1) (irow .u8 (hm key [1])) rfl rfl 23 _ R2 (infok8 _ l1) (fit32 _ _ (zr_len 32) l1) (irow_one _ _) ?_
    replace R1 := (setRow_other q21 (w.heap.size + 1 + 1) (w.heap.size + 1) (irow .u8 (hm key [1])) (by omega)).trans R1
    replace R2 := setRow_heap q21 (w.heap.size + 1 + 1) _ (irow .u8 (hm key [1])) _ _ R2
    replace hw := below_setRow hw (show w.heap.size ≤ w.heap.size + 1 + 1 by omega) (irow .u8 (hm key [1]))
    refine hK_ _ _ (trivial) ?_
    simp only [Act.put]
    clear hK_
    generalize q21.setRow (w.heap.size + 1 + 1) (irow .u8 (hm key [1])) = q22 at *
    refine wpAnyH_done (by kernel_rfl) ?_ _
    refine NoPanic.normal ?_
    go_wp2
    exact bodyPost_ret (results_cell2_row Tryd.results11 _ _ (w.heap.size + 1) (w.heap.size + 1 + 1) _ _ _ _ _ _ _ rfl rfl R1 R2 Tryd.underlying23 rfl (infok8 _ l2) (infok8 _ l1)) rfl ⟨rfl, hw⟩
set_option maxRecDepth 100000 in
set_option maxHeartbeats 4000000 in
theorem r_Step (key : List Int) (hkl : key.length = 32) (hkz : ∀ z ∈ key, 0 ≤ z ∧ z < 256) (w : World) : Calls Tryd.prog 12 #[.agg (irow .u8 key)] w fun e w' => e = .returned (.tuple #[.agg (irow .u8 (hm key [2])), .agg (irow .u8 (hm key [1]))]) ∧ Below w.heap.size w w' := by
  have l2 := hm_len key [2]
  have l1 := hm_len key [1]
  have R0 := hp3_0 w (.cells (irow .u8 key) 23) (.cells (irow .u8 (zr 32)) 23) (.cells (irow .u8 (zr 32)) 23)
  have R1 := hp3_1 w (.cells (irow .u8 key) 23) (.cells (irow .u8 (zr 32)) 23) (.cells (irow .u8 (zr 32)) 23)
  have R2 := hp3_2 w (.cells (irow .u8 key) 23) (.cells (irow .u8 (zr 32)) 23) (.cells (irow .u8 (zr 32)) 23)
  have hw : Below w.heap.size w (((w.alloc (.cells (irow .u8 key) 23)).alloc (.cells (irow .u8 (zr 32)) 23)).alloc (.cells (irow .u8 (zr 32)) 23)) := ((((Below.refl _ _).alloc (Nat.le_refl _) _).alloc (by simp) _).alloc (by simp; omega) _)
  have sk := slice_k w.heap.size
  go_enter Tryd.func12, Tryd.ntmps12
  go_wp2_with (first | (refine wpList_box rfl 23 _ rfl _ rfl (bK _) ?_) | (refine wpList_alloc rfl 23 rfl (irow .u8 (zr 32)) zkey ?_) | fail)
  try simp only [size_alloc1, Act.put, List.setIfInBounds_toArray, List.set_cons_succ, List.set_cons_zero]
  generalize (((w.alloc (.cells (irow .u8 key) 23)).alloc (.cells (irow .u8 (zr 32)) 23)).alloc (.cells (irow .u8 (zr 32)) 23)) = w0 at *
  have hbd : Below w0.heap.size w0 w0.drew := below_drN (Below.refl _ _) 1
  replace R0 := keep hbd R0
  replace R1 := keep hbd R1
  replace R2 := keep hbd R2
  replace hw := Below.after hw hbd
  clear hbd
  refine wp_region_noPanic ?_
  refine wp_region_held (S := fun _ => True) (by kernel_rfl) ?_
  change wpAnyH _ _ _ _ _ _ _ _ (World.drew _)
  generalize w0.drew = w1 at *
  refine wpAnyH_take (i := 0) (v := ?v3) rfl (by kernel_rfl) (by kernel_rfl) (by kernel_rfl) (fun _ _ _ h => h) (Or.inl ⟨by rfl, ?y3⟩) (trivial) ?r3
  case y3 =>
    intro w_ hS_
    go_simp
    try with_reducible rfl
  simp only [Act.put, List.getElem_toArray, List.getElem_cons_zero, List.setIfInBounds_toArray, List.set_cons_succ, List.set_cons_zero]
  refine wpAnyH_take (i := 3) (v := ?v4) rfl (by kernel_rfl) (by kernel_rfl) (by kernel_rfl) (fun _ _ _ h => h) (Or.inl ⟨by rfl, ?y4⟩) (trivial) ?r4
  case y4 =>
    intro w_ hS_
    go_simp
    try with_reducible rfl
  simp only [Act.put, List.getElem_toArray, List.getElem_cons_succ, List.getElem_cons_zero, List.setIfInBounds_toArray, List.set_cons_succ, List.set_cons_zero]
  refine wpAnyH_two (j := 1) (k := 4) (fuel := 5) (by kernel_rfl) rfl rfl (by kernel_rfl) (by kernel_rfl) (fun K_ hK_ => ?_) (fun K_ hK_ => ?_)
  · refine wp_world_op (.slice (some ⟨w1.heap.size, 0, none⟩) 1 1) (w1.alloc (.cells #[.int .u8 2] 5)) (by kernel_rfl) ?_
    have hb_ : Below w1.heap.size w1 (w1.alloc (.cells #[.int .u8 2] 5)) := (Below.refl _ _).alloc (Nat.le_refl _) _
    have sz_g24 : w.heap.size ≤ w1.heap.size := hw.size
    have lt_R0_g24 := lt_of_row R0
    have lt_R1_g24 := lt_of_row R1
    have lt_R2_g24 := lt_of_row R2
    have rB2 := hp1_0 w1 (.cells #[.int .u8 2] 5)
    replace R0 := keep hb_ R0
    replace R1 := keep hb_ R1
    replace R2 := keep hb_ R2
    replace hw := Below.after hw hb_
    clear hb_
    refine hK_ _ _ (trivial) ?_
    simp only [Act.put, List.getElem_toArray, List.getElem_cons_succ, List.getElem_cons_zero, List.setIfInBounds_toArray, List.set_cons_succ, List.set_cons_zero]
    clear hK_
    generalize w1.alloc (.cells #[.int .u8 2] 5) = q23 at *
    generalize w1.heap.size = g24 at *
    refine wpAnyH_two (j := 2) (k := 4) (fuel := 4) (by kernel_rfl) rfl rfl (by kernel_rfl) (by kernel_rfl) (fun K_ hK_ => ?_) (fun K_ hK_ => ?_)
    · have hB1_ : Bys q23 (.slice (some ⟨w.heap.size, 0, none⟩) 32 32) key := by
        have h := Bys.of_row R0 (by omega) hkz 32
        rw [hkl] at h
        exact h
      have hB2_ : Bys q23 (.slice (some ⟨g24, 0, none⟩) 1 1) [2] := Bys.of_row (l := [2]) rB2 (by decide) (by decide) 1
      refine wp_call_ex (f := 18) (by kernel_rfl) (ex1 (r_sum4 key [2] q23 _ _ ⟨hB1_, by omega, fun a l c h h2 => by cases h; cases h2⟩ ⟨hB2_, by decide, fun a l c h h2 => by cases h; cases h2⟩ (by decide))) (fun v_ q25 hX_ => ?_)
      obtain ⟨rfl, hb_⟩ := hX_
      replace R0 := keep hb_ R0
      replace R1 := keep hb_ R1
      replace R2 := keep hb_ R2
      replace rB2 := keep hb_ rB2
      replace hw := Below.after hw hb_
      clear hb_
      clear hB1_ hB2_
      refine hK_ _ _ (trivial) ?_
      simp only [Act.put, List.getElem_toArray, List.getElem_cons_succ, List.getElem_cons_zero, List.setIfInBounds_toArray, List.set_cons_succ, List.set_cons_zero]
      clear hK_
      refine wpAnyH_one (k := 4) (fuel := 3) (by kernel_rfl) rfl (by kernel_rfl) (fun K_ hK_ => ?_)
      refine wp_world_op (.slice (some ⟨q25.heap.size, 0, none⟩) 1 1) (q25.alloc (.cells #[.int .u8 1] 5)) (by kernel_rfl) ?_
      have hb_ : Below q25.heap.size q25 (q25.alloc (.cells #[.int .u8 1] 5)) := (Below.refl _ _).alloc (Nat.le_refl _) _
      have sz_g27 : w.heap.size ≤ q25.heap.size := hw.size
      have lt_R0_g27 := lt_of_row R0
      have lt_R1_g27 := lt_of_row R1
      have lt_R2_g27 := lt_of_row R2
      have lt_rB2_g27 := lt_of_row rB2
      have rB1 := hp1_0 q25 (.cells #[.int .u8 1] 5)
      replace R0 := keep hb_ R0
      replace R1 := keep hb_ R1
      replace R2 := keep hb_ R2
      replace rB2 := keep hb_ rB2
      replace hw := Below.after hw hb_
      clear hb_
      refine hK_ _ _ (trivial) ?_
      simp only [Act.put, List.getElem_toArray, List.getElem_cons_succ, List.getElem_cons_zero, List.setIfInBounds_toArray, List.set_cons_succ, List.set_cons_zero]
      clear hK_
      generalize q25.alloc (.cells #[.int .u8 1] 5) = q26 at *
      generalize q25.heap.size = g27 at *
      refine wpAnyH_one (k := 5) (fuel := 2) (by kernel_rfl) rfl (by kernel_rfl) (fun K_ hK_ => ?_)
      have hB1_ : Bys q26 (.slice (some ⟨w.heap.size, 0, none⟩) 32 32) key := by
        have h := Bys.of_row R0 (by omega) hkz 32
        rw [hkl] at h
        exact h
      have hB2_ : Bys q26 (.slice (some ⟨g27, 0, none⟩) 1 1) [1] := Bys.of_row (l := [1]) rB1 (by decide) (by decide) 1
      refine wp_call_ex (f := 18) (by kernel_rfl) (ex1 (r_sum4 key [1] q26 _ _ ⟨hB1_, by omega, fun a l c h h2 => by cases h; cases h2⟩ ⟨hB2_, by decide, fun a l c h h2 => by cases h; cases h2⟩ (by decide))) (fun v_ q28 hX_ => ?_)
      obtain ⟨rfl, hb_⟩ := hX_
      replace R0 := keep hb_ R0
      replace R1 := keep hb_ R1
      replace R2 := keep hb_ R2
      replace rB2 := keep hb_ rB2
      replace rB1 := keep hb_ rB1
      replace hw := Below.after hw hb_
      clear hb_
      clear hB1_ hB2_
      refine hK_ _ _ (trivial) ?_
      simp only [Act.put, List.getElem_toArray, List.getElem_cons_succ, List.getElem_cons_zero, List.setIfInBounds_toArray, List.set_cons_succ, List.set_cons_zero]
      clear hK_
      refine wpAnyH_one (k := 6) (fuel := 1) (by kernel_rfl) rfl (by kernel_rfl) (fun K_ hK_ => ?_)
      clear rB1 rB2 R0
      refine wp_store_row 23 _ _ rfl (w.heap.size + 1) (irow .u8 (hm key [2])) rfl rfl 23 _ R1 (infok8 _ l2) (fit32 _ _ (zr_len 32) l2) (irow_one _ _) ?_
      replace R2 := (setRow_other q28 (w.heap.size + 1) (w.heap.size + 1 + 1) (irow .u8 (hm key [2])) (by omega)).trans R2
      replace R1 := setRow_heap q28 (w.heap.size + 1) _ (irow .u8 (hm key [2])) _ _ R1
      replace hw := below_setRow hw (show w.heap.size ≤ w.heap.size + 1 by omega) (irow .u8 (hm key [2]))
      refine hK_ _ _ (trivial) ?_
      simp only [Act.put]
      clear hK_
      generalize q28.setRow (w.heap.size + 1) (irow .u8 (hm key [2])) = q29 at *
      refine wpAnyH_one (k := 7) (fuel := 0) (by kernel_rfl) rfl (by kernel_rfl) (fun K_ hK_ => ?_)
      refine wp_store_row 23 _ _ rfl (w.heap.size + 1 + 1) (irow .u8 (hm key [1])) rfl rfl 23 _ R2 (infok8 _ l1) (fit32 _ _ (zr_len 32) l1) (irow_one _ _) ?_
      replace R1 := (setRow_other q29 (w.heap.size + 1 + 1) (w.heap.size + 1) (irow .u8 (hm key [1])) (by omega)).trans R1
      replace R2 := setRow_heap q29 (w.heap.size + 1 + 1) _ (irow .u8 (hm key [1])) _ _ R2
      replace hw := below_setRow hw (show w.heap.size ≤ w.heap.size + 1 + 1 by omega) (irow .u8 (hm key [1]))
      refine hK_ _ _ (trivial) ?_
      simp only [Act.put]
      clear hK_
      generalize q29.setRow (w.heap.size + 1 + 1) (irow .u8 (hm key [1])) = q30 at *
      refine wpAnyH_done (by kernel_rfl) ?_ _
      refine NoPanic.normal ?_
      go_wp2
      exact bodyPost_ret (results_cell2_row Tryd.results12 _ _ (w.heap.size + 1) (w.heap.size + 1 + 1) _ _ _ _ _ _ _ rfl rfl R1 R2 Tryd.underlying23 rfl (infok8 _ l2) (infok8 _ l1)) rfl ⟨rfl, hw⟩
    · refine wp_world_op (.slice (some ⟨q23.heap.size, 0, none⟩) 1 1) (q23.alloc (.cells #[.int .u8 1] 5)) (by kernel_rfl) ?_
      have hb_ : Below q23.heap.size q23 (q23.alloc (.cells #[.int .u8 1] 5)) := (Below.refl _ _).alloc (Nat.le_refl _) _
      have sz_g32 : w.heap.size ≤ q23.heap.size := hw.size
      have lt_R0_g32 := lt_of_row R0
      have lt_R1_g32 := lt_of_row R1
      have lt_R2_g32 := lt_of_row R2
      have lt_rB2_g32 := lt_of_row rB2
      have rB1 := hp1_0 q23 (.cells #[.int .u8 1] 5)
      replace R0 := keep hb_ R0
      replace R1 := keep hb_ R1
      replace R2 := keep hb_ R2
      replace rB2 := keep hb_ rB2
      replace hw := Below.after hw hb_
      clear hb_
      refine hK_ _ _ (trivial) ?_
      simp only [Act.put, List.getElem_toArray, List.getElem_cons_succ, List.getElem_cons_zero, List.setIfInBounds_toArray, List.set_cons_succ, List.set_cons_zero]
      clear hK_
      generalize q23.alloc (.cells #[.int .u8 1] 5) = q31 at *
      generalize q23.heap.size = g32 at *
      refine wpAnyH_one (k := 2) (fuel := 3) (by kernel_rfl) rfl (by kernel_rfl) (fun K_ hK_ => ?_)
      have hB1_ : Bys q31 (.slice (some ⟨w.heap.size, 0, none⟩) 32 32) key := by
        have h := Bys.of_row R0 (by omega) hkz 32
        rw [hkl] at h
        exact h
      have hB2_ : Bys q31 (.slice (some ⟨g24, 0, none⟩) 1 1) [2] := Bys.of_row (l := [2]) rB2 (by decide) (by decide) 1
      refine wp_call_ex (f := 18) (by kernel_rfl) (ex1 (r_sum4 key [2] q31 _ _ ⟨hB1_, by omega, fun a l c h h2 => by cases h; cases h2⟩ ⟨hB2_, by decide, fun a l c h h2 => by cases h; cases h2⟩ (by decide))) (fun v_ q33 hX_ => ?_)
      obtain ⟨rfl, hb_⟩ := hX_
      replace R0 := keep hb_ R0
      replace R1 := keep hb_ R1
      replace R2 := keep hb_ R2
      replace rB2 := keep hb_ rB2
      replace rB1 := keep hb_ rB1
      replace hw := Below.after hw hb_
      clear hb_
      clear hB1_ hB2_
      refine hK_ _ _ (trivial) ?_
      simp only [Act.put, List.getElem_toArray, List.getElem_cons_succ, List.getElem_cons_zero, List.setIfInBounds_toArray, List.set_cons_succ, List.set_cons_zero]
      clear hK_
      refine wpAnyH_one (k := 5) (fuel := 2) (by kernel_rfl) rfl (by kernel_rfl) (fun K_ hK_ => ?_)
      have hB1_ : Bys q33 (.slice (some ⟨w.heap.size, 0, none⟩) 32 32) key := by
        have h := Bys.of_row R0 (by omega) hkz 32
        rw [hkl] at h
        exact h
      have hB2_ : Bys q33 (.slice (some ⟨g32, 0, none⟩) 1 1) [1] := Bys.of_row (l := [1]) rB1 (by decide) (by decide) 1
      refine wp_call_ex (f := 18) (by kernel_rfl) (ex1 (r_sum4 key [1] q33 _ _ ⟨hB1_, by omega, fun a l c h h2 => by cases h; cases h2⟩ ⟨hB2_, by decide, fun a l c h h2 => by cases h; cases h2⟩ (by decide))) (fun v_ q34 hX_ => ?_)
      obtain ⟨rfl, hb_⟩ := hX_
      replace R0 := keep hb_ R0
      replace R1 := keep hb_ R1
      replace R2 := keep hb_ R2
      replace rB2 := keep hb_ rB2
      replace rB1 := keep hb_ rB1
      replace hw := Below.after hw hb_
      clear hb_
      clear hB1_ hB2_
      refine hK_ _ _ (trivial) ?_
      simp only [Act.put, List.getElem_toArray, List.getElem_cons_succ, List.getElem_cons_zero, List.setIfInBounds_toArray, List.set_cons_succ, List.set_cons_zero]
      clear hK_
      refine wpAnyH_one (k := 6) (fuel := 1) (by kernel_rfl) rfl (by kernel_rfl) (fun K_ hK_ => ?_)
      clear rB1 rB2 R0
      refine wp_store_row 23 _ _ rfl (w.heap.size + 1) (irow .u8 (hm key [2])) rfl rfl 23 _ R1 (infok8 _ l2) (fit32 _ _ (zr_len 32) l2) (irow_one _ _) ?_
      replace R2 := (setRow_other q34 (w.heap.size + 1) (w.heap.size + 1 + 1) (irow .u8 (hm key [2])) (by omega)).trans R2
      replace R1 := setRow_heap q34 (w.heap.size + 1) _ (irow .u8 (hm key [2])) _ _ R1
      replace hw := below_setRow hw (show w.heap.size ≤ w.heap.size + 1 by omega) (irow .u8 (hm key [2]))
      refine hK_ _ _ (trivial) ?_
      simp only [Act.put]
      clear hK_
      generalize q34.setRow (w.heap.size + 1) (irow .u8 (hm key [2])) = q35 at *
      refine wpAnyH_one (k := 7) (fuel := 0) (by kernel_rfl) rfl (by kernel_rfl) (fun K_ hK_ => ?_)
      refine wp_store_row 23 _ _ rfl (w.heap.size + 1 + 1) (irow .u8 (hm key [1])) rfl rfl 23 _ R2 (infok8 _ l1) (fit32 _ _ (zr_len 32) l1) (irow_one _ _) ?_
      replace R1 := (setRow_other q35 (w.heap.size + 1 + 1) (w.heap.size + 1) (irow .u8 (hm key [1])) (by omega)).trans R1
      replace R2 := setRow_heap q35 (w.heap.size + 1 + 1) _ (irow .u8 (hm key [1])) _ _ R2
      replace hw := below_setRow hw (show w.heap.size ≤ w.heap.size + 1 + 1 by omega) (irow .u8 (hm key [1]))
      refine hK_ _ _ (trivial) ?_
      simp only [Act.put]
      clear hK_
      generalize q35.setRow (w.heap.size + 1 + 1) (irow .u8 (hm key [1])) = q36 at *
      refine wpAnyH_done (by kernel_rfl) ?_ _
      refine NoPanic.normal ?_
      go_wp2
      exact bodyPost_ret (results_cell2_row Tryd.results12 _ _ (w.heap.size + 1) (w.heap.size + 1 + 1) _ _ _ _ _ _ _ rfl rfl R1 R2 Tryd.underlying23 rfl (infok8 _ l2) (infok8 _ l1)) rfl ⟨rfl, hw⟩
  · refine wp_world_op (.slice (some ⟨w1.heap.size, 0, none⟩) 1 1) (w1.alloc (.cells #[.int .u8 1] 5)) (by kernel_rfl) ?_
    have hb_ : Below w1.heap.size w1 (w1.alloc (.cells #[.int .u8 1] 5)) := (Below.refl _ _).alloc (Nat.le_refl _) _
    have sz_g38 : w.heap.size ≤ w1.heap.size := hw.size
    have lt_R0_g38 := lt_of_row R0
    have lt_R1_g38 := lt_of_row R1
    have lt_R2_g38 := lt_of_row R2
    have rB1 := hp1_0 w1 (.cells #[.int .u8 1] 5)
    replace R0 := keep hb_ R0
    replace R1 := keep hb_ R1
    replace R2 := keep hb_ R2
    replace hw := Below.after hw hb_
    clear hb_
    refine hK_ _ _ (trivial) ?_
    simp only [Act.put, List.getElem_toArray, List.getElem_cons_succ, List.getElem_cons_zero, List.setIfInBounds_toArray, List.set_cons_succ, List.set_cons_zero]
    clear hK_
    generalize w1.alloc (.cells #[.int .u8 1] 5) = q37 at *
    generalize w1.heap.size = g38 at *
    refine wpAnyH_one (k := 1) (fuel := 4) (by kernel_rfl) rfl (by kernel_rfl) (fun K_ hK_ => ?_)
    refine wp_world_op (.slice (some ⟨q37.heap.size, 0, none⟩) 1 1) (q37.alloc (.cells #[.int .u8 2] 5)) (by kernel_rfl) ?_
    have hb_ : Below q37.heap.size q37 (q37.alloc (.cells #[.int .u8 2] 5)) := (Below.refl _ _).alloc (Nat.le_refl _) _
    have sz_g40 : w.heap.size ≤ q37.heap.size := hw.size
    have lt_R0_g40 := lt_of_row R0
    have lt_R1_g40 := lt_of_row R1
    have lt_R2_g40 := lt_of_row R2
    have lt_rB1_g40 := lt_of_row rB1
    have rB2 := hp1_0 q37 (.cells #[.int .u8 2] 5)
    replace R0 := keep hb_ R0
    replace R1 := keep hb_ R1
    replace R2 := keep hb_ R2
    replace rB1 := keep hb_ rB1
    replace hw := Below.after hw hb_
    clear hb_
    refine hK_ _ _ (trivial) ?_
    simp only [Act.put, List.getElem_toArray, List.getElem_cons_succ, List.getElem_cons_zero, List.setIfInBounds_toArray, List.set_cons_succ, List.set_cons_zero]
    clear hK_
    generalize q37.alloc (.cells #[.int .u8 2] 5) = q39 at *
    generalize q37.heap.size = g40 at *
    refine wpAnyH_one (k := 2) (fuel := 3) (by kernel_rfl) rfl (by kernel_rfl) (fun K_ hK_ => ?_)
    have hB1_ : Bys q39 (.slice (some ⟨w.heap.size, 0, none⟩) 32 32) key := by
      have h := Bys.of_row R0 (by omega) hkz 32
      rw [hkl] at h
      exact h
    have hB2_ : Bys q39 (.slice (some ⟨g40, 0, none⟩) 1 1) [2] := Bys.of_row (l := [2]) rB2 (by decide) (by decide) 1
    refine wp_call_ex (f := 18) (by kernel_rfl) (ex1 (r_sum4 key [2] q39 _ _ ⟨hB1_, by omega, fun a l c h h2 => by cases h; cases h2⟩ ⟨hB2_, by decide, fun a l c h h2 => by cases h; cases h2⟩ (by decide))) (fun v_ q41 hX_ => ?_)
    obtain ⟨rfl, hb_⟩ := hX_
    replace R0 := keep hb_ R0
    replace R1 := keep hb_ R1
    replace R2 := keep hb_ R2
    replace rB1 := keep hb_ rB1
    replace rB2 := keep hb_ rB2
    replace hw := Below.after hw hb_
    clear hb_
    clear hB1_ hB2_
    refine hK_ _ _ (trivial) ?_
    simp only [Act.put, List.getElem_toArray, List.getElem_cons_succ, List.getElem_cons_zero, List.setIfInBounds_toArray, List.set_cons_succ, List.set_cons_zero]
    clear hK_
    refine wpAnyH_one (k := 5) (fuel := 2) (by kernel_rfl) rfl (by kernel_rfl) (fun K_ hK_ => ?_)
    have hB1_ : Bys q41 (.slice (some ⟨w.heap.size, 0, none⟩) 32 32) key := by
      have h := Bys.of_row R0 (by omega) hkz 32
      rw [hkl] at h
      exact h
    have hB2_ : Bys q41 (.slice (some ⟨g38, 0, none⟩) 1 1) [1] := Bys.of_row (l := [1]) rB1 (by decide) (by decide) 1
    refine wp_call_ex (f := 18) (by kernel_rfl) (ex1 (r_sum4 key [1] q41 _ _ ⟨hB1_, by omega, fun a l c h h2 => by cases h; cases h2⟩ ⟨hB2_, by decide, fun a l c h h2 => by cases h; cases h2⟩ (by decide))) (fun v_ q42 hX_ => ?_)
    obtain ⟨rfl, hb_⟩ := hX_
    replace R0 := keep hb_ R0
    replace R1 := keep hb_ R1
    replace R2 := keep hb_ R2
    replace rB1 := keep hb_ rB1
    replace rB2 := keep hb_ rB2
    replace hw := Below.after hw hb_
    clear hb_
    clear hB1_ hB2_
    refine hK_ _ _ (trivial) ?_
    simp only [Act.put, List.getElem_toArray, List.getElem_cons_succ, List.getElem_cons_zero, List.setIfInBounds_toArray, List.set_cons_succ, List.set_cons_zero]
    clear hK_
    refine wpAnyH_one (k := 6) (fuel := 1) (by kernel_rfl) rfl (by kernel_rfl) (fun K_ hK_ => ?_)
    clear rB1 rB2 R0
    refine wp_store_row 23 _ _ rfl (w.heap.size + 1) (irow .u8 (hm key [2])) rfl rfl 23 _ R1 (infok8 _ l2) (fit32 _ _ (zr_len 32) l2) (irow_one _ _) ?_
    replace R2 := (setRow_other q42 (w.heap.size + 1) (w.heap.size + 1 + 1) (irow .u8 (hm key [2])) (by omega)).trans R2
    replace R1 := setRow_heap q42 (w.heap.size + 1) _ (irow .u8 (hm key [2])) _ _ R1
    replace hw := below_setRow hw (show w.heap.size ≤ w.heap.size + 1 by omega) (irow .u8 (hm key [2]))
    refine hK_ _ _ (trivial) ?_
    simp only [Act.put]
    clear hK_
    generalize q42.setRow (w.heap.size + 1) (irow .u8 (hm key [2])) = q43 at *
    refine wpAnyH_one (k := 7) (fuel := 0) (by kernel_rfl) rfl (by kernel_rfl) (fun K_ hK_ => ?_)
    refine wp_store_row 23 _ _ rfl (w.heap.size + 1 + 1) (irow .u8 (hm key [1])) rfl rfl 23 _ R2 (infok8 _ l1) (fit32 _ _ (zr_len 32) l1) (irow_one _ _) ?_
    replace R1 := (setRow_other q43 (w.heap.size + 1 + 1) (w.heap.size + 1) (irow .u8 (hm key [1])) (by omega)).trans R1
    replace R2 := setRow_heap q43 (w.heap.size + 1 + 1) _ (irow .u8 (hm key [1])) _ _ R2
    replace hw := below_setRow hw (show w.heap.size ≤ w.heap.size + 1 + 1 by omega) (irow .u8 (hm key [1]))
    refine hK_ _ _ (trivial) ?_
    simp only [Act.put]
    clear hK_
    generalize q43.setRow (w.heap.size + 1 + 1) (irow .u8 (hm key [1])) = q44 at *
    refine wpAnyH_done (by kernel_rfl) ?_ _
    refine NoPanic.normal ?_
    go_wp2
    exact bodyPost_ret (results_cell2_row Tryd.results12 _ _ (w.heap.size + 1) (w.heap.size + 1 + 1) _ _ _ _ _ _ _ rfl rfl R1 R2 Tryd.underlying23 rfl (infok8 _ l2) (infok8 _ l1)) rfl ⟨rfl, hw⟩

end Go.Proofs.YtkickbgiidhpfaaDoor
