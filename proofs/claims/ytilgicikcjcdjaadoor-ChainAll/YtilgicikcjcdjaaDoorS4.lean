import Derived.Test.YtilgicikcjcdjaaDoorProg
import Derived.WalkKit
import Derived.WalkSpells
import Derived.WalkLawsBesides
import Derived.Lib.QuietBelow
import Derived.BigQuiet
import Derived.OrdersHeld
import Derived.Deep.RegionHeld3
import Derived.Test.YtilgicikcjcdjaaDoorS0
import Derived.Test.YtilgicikcjcdjaaDoorS3
import Derived.Lib.SlBytesConst
import Derived.OwnWalk
import Derived.RangeFuncNested
import Derived.RangeFuncBound
import Derived.RangeFuncCalls
import Derived.RangeFuncLeaves
import Derived.Shelf.Abstract
import Derived.Shelf.RegionOpen
import Derived.OwnWalkIn
import Derived.TacticsInMore
import Derived.LoopNIn
import Derived.LoopIn
namespace Go.Proofs.YtilgicikcjcdjaaDoor
set_option maxRecDepth 100000
open Go Go.RowKit Go.Sort
attribute [local go_sem] setCell_drewN alloc_drewN

section
variable {P : Program} {ops : Array Oper} {Q : Exit → Act → World → Prop} {md : Region.Mode} {S : World → Prop}
/-- The one operation that may come up, where S is kept. -/
theorem wpAnyH_one {k : Nat} {o : Oper} {fuel : Nat} {listed : Array Bool} {a : Act} {w : World} (hr : Region.ready md ops listed = [k]) (hi : ops[k]? = some o) (hw : Region.wanted o (yielded ops a.tmps) = true)
    (h : ∀ K : Act → World → Prop, (∀ a' w', S w' → wpAnyH P md ops Q S fuel (listed.setIfInBounds k true) a' w' → K a' w') → o.wp P a w K Q) : wpAnyH P md ops Q S (fuel + 1) listed a w := by
  refine wpAnyH_all hr (by simp) (fun i hi' => ?_)
  obtain rfl : i = k := by simpa using hi'
  unfold wpOp
  simp only [hi, hw, if_true]
  exact .inl (h _ (fun a' w' hS hn => ⟨hS, hn⟩))
/-- A part of a row, as it is read. -/
theorem run_load_part {o : Oper} {a : Act} {w : World} (ty : TypeId) (x : Operand) (ho : o.op = .load ty x) (g off : Nat) (hx : a.eval x = .pointer (some ⟨g, off, none⟩)) (t : TypeId) (cs : Array Value) (fr : Nat × Nat) (part : Array Value) (d : TypeDesc) (hg : w.heap[g]? = some (.cells cs t fr)) (hp : cs.extract off (off + part.size) = part)
    (hu : P.underlying ty = some d) (hd : d.isRow = true) (hi : (P.info? ty).map (·.size) = some part.size) : (execOp a.eval o).run P w = .ok (.value (.agg part)) w := by
  have hr := World.rangeAt_of_block hg off part.size
  rw [hp] at hr
  have hl := run_loadVar_mid (P := P) w g off ty part.toList d hr hu hd (by simpa using hi)
  unfold execOp
  simp only [ho, hx, Instr.loadAt, Instr.sureAddr, Sem.run_bind, Sem.run_pure, Result.andThen_ok, hl]
/-- Either of two operations may come up. -/
theorem wpAnyH_two {j k : Nat} {oj ok : Oper} {fuel : Nat} {listed : Array Bool} {a : Act} {w : World} (hr : Region.ready md ops listed = [j, k]) (hj : ops[j]? = some oj) (hk : ops[k]? = some ok) (wj : Region.wanted oj (yielded ops a.tmps) = true) (wk : Region.wanted ok (yielded ops a.tmps) = true)
    (h1 : ∀ K : Act → World → Prop, (∀ a' w', S w' → wpAnyH P md ops Q S fuel (listed.setIfInBounds j true) a' w' → K a' w') → oj.wp P a w K Q)
    (h2 : ∀ K : Act → World → Prop, (∀ a' w', S w' → wpAnyH P md ops Q S fuel (listed.setIfInBounds k true) a' w' → K a' w') → ok.wp P a w K Q) : wpAnyH P md ops Q S (fuel + 1) listed a w := by
  refine wpAnyH_all hr (by simp) (fun i hi' => ?_)
  obtain rfl | rfl : i = j ∨ i = k := by simpa using hi'
  · unfold wpOp
    simp only [hj, wj, if_true]
    exact .inl (h1 _ (fun a' w' hS hn => ⟨hS, hn⟩))
  · unfold wpOp
    simp only [hk, wk, if_true]
    exact .inl (h2 _ (fun a' w' hS hn => ⟨hS, hn⟩))
/-- Two results that lie in rows. -/
theorem results_cell2_row {fn : Func} {p q : Tmp} {ty : TypeId} (h : fn.results = #[.cell p ty, .cell q ty]) (tmps : Array Value) (w : World) (g k : Nat) (t u : TypeId) (cs ds : Array Value) (fr gr : Nat × Nat) (d : TypeDesc)
    (hp : tmps.getD p undef = .pointer (some ⟨g, 0, none⟩)) (hq : tmps.getD q undef = .pointer (some ⟨k, 0, none⟩)) (hg : w.heap[g]? = some (.cells cs t fr)) (hk : w.heap[k]? = some (.cells ds u gr))
    (hu : P.underlying ty = some d) (hd : (match d with | .struct _ | .array _ _ => true | _ => false) = true) (hi : (P.info? ty).map (·.size) = some cs.size) (hj : (P.info? ty).map (·.size) = some ds.size) :
    (results fn tmps).run P w = .ok (.tuple #[.agg cs, .agg ds]) w := by
  have hp' : tmps[p]?.getD undef = .pointer (some ⟨g, 0, none⟩) := by simpa using hp
  have hq' : tmps[q]?.getD undef = .pointer (some ⟨k, 0, none⟩) := by simpa using hq
  simp [results, h, hp', hq', asAddr, run_loadVar_row w g t ty cs fr d hg hu hd hi, run_loadVar_row w k u ty ds gr d hk hu hd hj]
end
theorem all_row (cs : Array Value) : cs.extract 0 (0 + cs.size) = cs := by simp
theorem irow_take (l : List Int) (n : Nat) (k : IntKind) (h : n ≤ l.length) : (irow k l).extract 0 (0 + (irow k (l.take n)).size) = irow k (l.take n) := by
  apply Array.ext'
  simp [irow, List.map_take, h]
theorem irow_drop (l : List Int) (n : Nat) (k : IntKind) : (irow k l).extract n (n + (irow k (l.drop n)).size) = irow k (l.drop n) := by
  apply Array.ext'
  simp only [irow, List.extract_toArray, List.extract_eq_take_drop, List.map_drop, List.size_toArray, List.length_drop, List.length_map, Nat.add_sub_cancel_left]
  exact List.take_of_length_le (by simp)
theorem bys_rowF {W : World} {g n : Nat} {l : List Int} {t : TypeId} {fr : Nat × Nat} (hg : W.heap[g]? = some (.cells (irow .u8 l) t fr)) (hl : l.length ≤ 9223372036854775807) (hz : ∀ z ∈ l, 0 ≤ z ∧ z < 256) (hn : l.length = n) {cap : Nat} : Bys W (.slice (some ⟨g, 0, none⟩) n cap) l := by
  subst hn
  refine ⟨_, _, rfl, hl, fun j hj => ⟨g, 0, rfl, lt_of_row hg, ?_⟩, hz⟩
  rw [Nat.zero_add, cell_of_row _ _ _ _ _ _ hg]
  simp [irow, List.getD_eq_getElem?_getD, List.getElem?_eq_getElem hj]
theorem arr_k (g o c : Nat) (W : World) : (Instr.arrayAt 26 (.slice (some ⟨g, o, none⟩) 32 c)).run Tryd.prog W = .ok (.pointer (some ⟨g, o, none⟩)) W := by kernel_rfl
set_option maxRecDepth 100000 in
set_option maxHeartbeats 4000000 in
theorem a_Step (key : List Int) (hkl : key.length = 32) (hkz : ∀ z ∈ key, 0 ≤ z ∧ z < 256) (w : World) (hS : Sta w) (hK : Kon w) : Calls Tryd.prog 21 #[.agg (irow .u8 key)] w fun e w' => e = .returned (.tuple #[.agg (irow .u8 (hm key [2])), .agg (irow .u8 (hm key [1]))]) ∧ Below w.heap.size w w' := by
  have l2 := hm_len key [2]
  have l1 := hm_len key [1]
  have R0 := hp3_0 w (.cells (irow .u8 key) 26) (.cells (irow .u8 (zr 32)) 26) (.cells (irow .u8 (zr 32)) 26)
  have R1 := hp3_1 w (.cells (irow .u8 key) 26) (.cells (irow .u8 (zr 32)) 26) (.cells (irow .u8 (zr 32)) 26)
  have R2 := hp3_2 w (.cells (irow .u8 key) 26) (.cells (irow .u8 (zr 32)) 26) (.cells (irow .u8 (zr 32)) 26)
  have hw : Below w.heap.size w (((w.alloc (.cells (irow .u8 key) 26)).alloc (.cells (irow .u8 (zr 32)) 26)).alloc (.cells (irow .u8 (zr 32)) 26)) := ((((Below.refl _ _).alloc (Nat.le_refl _) _).alloc (by simp) _).alloc (by simp; omega) _)
  have sk := slice_k w.heap.size
  have f0 := hS.below hw
  have f4 := hK.below hw
  go_enter Tryd.func21, Tryd.ntmps21
  go_wp2_with (first | (refine wpList_box rfl 26 _ rfl _ rfl (bK _) ?_) | (refine wpList_alloc rfl 26 rfl (irow .u8 (zr 32)) zkey ?_) | fail)
  try simp only [size_alloc1, Act.put, List.setIfInBounds_toArray, List.set_cons_succ, List.set_cons_zero]
  generalize (((w.alloc (.cells (irow .u8 key) 26)).alloc (.cells (irow .u8 (zr 32)) 26)).alloc (.cells (irow .u8 (zr 32)) 26)) = w0 at *
  have hbd : Below w0.heap.size w0 w0.drew := below_drN (Below.refl _ _) 1
  replace R0 := keep hbd R0
  replace R1 := keep hbd R1
  replace R2 := keep hbd R2
  replace f0 := f0.below hbd
  replace f4 := f4.below hbd
  replace hw := Below.after hw hbd
  clear hbd
  refine wp_region_noPanic ?_
  refine wp_region_held (S := fun _ => True) (by kernel_rfl) ?_
  change wpAnyH _ _ _ _ _ _ _ _ (World.drew _)
  generalize w0.drew = w1 at *
  refine wpAnyH_take (i := 0) (v := ?v1) rfl (by kernel_rfl) (by kernel_rfl) (by kernel_rfl) (fun _ _ _ h => h) (Or.inl ⟨by rfl, ?y1⟩) (trivial) ?r1
  case y1 =>
    intro w_ hS_
    go_simp
    try with_reducible rfl
  simp only [Act.put, List.getElem_toArray, List.getElem_cons_zero, List.setIfInBounds_toArray, List.set_cons_succ, List.set_cons_zero]
  refine wpAnyH_take (i := 3) (v := ?v2) rfl (by kernel_rfl) (by kernel_rfl) (by kernel_rfl) (fun _ _ _ h => h) (Or.inl ⟨by rfl, ?y2⟩) (trivial) ?r2
  case y2 =>
    intro w_ hS_
    go_simp
    try with_reducible rfl
  simp only [Act.put, List.getElem_toArray, List.getElem_cons_succ, List.getElem_cons_zero, List.setIfInBounds_toArray, List.set_cons_succ, List.set_cons_zero]
  refine wpAnyH_two (j := 1) (k := 4) (fuel := 5) (by kernel_rfl) rfl rfl (by kernel_rfl) (by kernel_rfl) (fun K_ hK_ => ?_) (fun K_ hK_ => ?_)
  · refine wp_world_op (.slice (some ⟨w1.heap.size, 0, none⟩) 1 1) (w1.alloc (.cells #[.int .u8 2] 5)) (by kernel_rfl) ?_
    have hb_ : Below w1.heap.size w1 (w1.alloc (.cells #[.int .u8 2] 5)) := (Below.refl _ _).alloc (Nat.le_refl _) _
    have sz_g2 : w.heap.size ≤ w1.heap.size := hw.size
    have lt_R0_g2 := lt_of_row R0
    have lt_R1_g2 := lt_of_row R1
    have lt_R2_g2 := lt_of_row R2
    have rB2 := hp1_0 w1 (.cells #[.int .u8 2] 5)
    replace R0 := keep hb_ R0
    replace R1 := keep hb_ R1
    replace R2 := keep hb_ R2
    replace f0 := f0.below hb_
    replace f4 := f4.below hb_
    replace hw := Below.after hw hb_
    clear hb_
    refine hK_ _ _ (trivial) ?_
    simp only [Act.put, List.getElem_toArray, List.getElem_cons_succ, List.getElem_cons_zero, List.setIfInBounds_toArray, List.set_cons_succ, List.set_cons_zero]
    clear hK_
    generalize w1.alloc (.cells #[.int .u8 2] 5) = q1 at *
    generalize w1.heap.size = g2 at *
    refine wpAnyH_two (j := 2) (k := 4) (fuel := 4) (by kernel_rfl) rfl rfl (by kernel_rfl) (by kernel_rfl) (fun K_ hK_ => ?_) (fun K_ hK_ => ?_)
    · have hB1_ : Bys q1 (.slice (some ⟨w.heap.size, 0, none⟩) 32 32) key := by
        have h := Bys.of_row R0 (by omega) hkz 32
        rw [hkl] at h
        exact h
      have hB2_ : Bys q1 (.slice (some ⟨g2, 0, none⟩) 1 1) [2] := Bys.of_row (l := [2]) rB2 (by decide) (by decide) 1
      refine wp_call_ex (f := 25) (by kernel_rfl) (ex1 (a_macSum key [2] q1 _ _ f0 f4 hB1_ (fun a l c h => by cases h; exact Nat.le_refl _) (by omega) hB2_ (fun a l c h => by cases h; exact Nat.le_refl _) (by decide))) (fun v_ q3 hX_ => ?_)
      obtain ⟨rfl, hb_⟩ := hX_
      replace R0 := keep hb_ R0
      replace R1 := keep hb_ R1
      replace R2 := keep hb_ R2
      replace rB2 := keep hb_ rB2
      replace f0 := f0.below hb_
      replace f4 := f4.below hb_
      replace hw := Below.after hw hb_
      clear hb_
      clear hB1_ hB2_
      refine hK_ _ _ (trivial) ?_
      simp only [Act.put, List.getElem_toArray, List.getElem_cons_succ, List.getElem_cons_zero, List.setIfInBounds_toArray, List.set_cons_succ, List.set_cons_zero]
      clear hK_
      refine wpAnyH_one (k := 4) (fuel := 3) (by kernel_rfl) rfl (by kernel_rfl) (fun K_ hK_ => ?_)
      refine wp_world_op (.slice (some ⟨q3.heap.size, 0, none⟩) 1 1) (q3.alloc (.cells #[.int .u8 1] 5)) (by kernel_rfl) ?_
      have hb_ : Below q3.heap.size q3 (q3.alloc (.cells #[.int .u8 1] 5)) := (Below.refl _ _).alloc (Nat.le_refl _) _
      have sz_g5 : w.heap.size ≤ q3.heap.size := hw.size
      have lt_R0_g5 := lt_of_row R0
      have lt_R1_g5 := lt_of_row R1
      have lt_R2_g5 := lt_of_row R2
      have lt_rB2_g5 := lt_of_row rB2
      have rB1 := hp1_0 q3 (.cells #[.int .u8 1] 5)
      replace R0 := keep hb_ R0
      replace R1 := keep hb_ R1
      replace R2 := keep hb_ R2
      replace rB2 := keep hb_ rB2
      replace f0 := f0.below hb_
      replace f4 := f4.below hb_
      replace hw := Below.after hw hb_
      clear hb_
      refine hK_ _ _ (trivial) ?_
      simp only [Act.put, List.getElem_toArray, List.getElem_cons_succ, List.getElem_cons_zero, List.setIfInBounds_toArray, List.set_cons_succ, List.set_cons_zero]
      clear hK_
      generalize q3.alloc (.cells #[.int .u8 1] 5) = q4 at *
      generalize q3.heap.size = g5 at *
      refine wpAnyH_one (k := 5) (fuel := 2) (by kernel_rfl) rfl (by kernel_rfl) (fun K_ hK_ => ?_)
      have hB1_ : Bys q4 (.slice (some ⟨w.heap.size, 0, none⟩) 32 32) key := by
        have h := Bys.of_row R0 (by omega) hkz 32
        rw [hkl] at h
        exact h
      have hB2_ : Bys q4 (.slice (some ⟨g5, 0, none⟩) 1 1) [1] := Bys.of_row (l := [1]) rB1 (by decide) (by decide) 1
      refine wp_call_ex (f := 25) (by kernel_rfl) (ex1 (a_macSum key [1] q4 _ _ f0 f4 hB1_ (fun a l c h => by cases h; exact Nat.le_refl _) (by omega) hB2_ (fun a l c h => by cases h; exact Nat.le_refl _) (by decide))) (fun v_ q6 hX_ => ?_)
      obtain ⟨rfl, hb_⟩ := hX_
      replace R0 := keep hb_ R0
      replace R1 := keep hb_ R1
      replace R2 := keep hb_ R2
      replace rB2 := keep hb_ rB2
      replace rB1 := keep hb_ rB1
      replace f0 := f0.below hb_
      replace f4 := f4.below hb_
      replace hw := Below.after hw hb_
      clear hb_
      clear hB1_ hB2_
      refine hK_ _ _ (trivial) ?_
      simp only [Act.put, List.getElem_toArray, List.getElem_cons_succ, List.getElem_cons_zero, List.setIfInBounds_toArray, List.set_cons_succ, List.set_cons_zero]
      clear hK_
      refine wpAnyH_one (k := 6) (fuel := 1) (by kernel_rfl) rfl (by kernel_rfl) (fun K_ hK_ => ?_)
      clear rB1 rB2 R0 f0 f4
      refine wp_store_row 26 _ _ rfl (w.heap.size + 1) (irow .u8 (hm key [2])) rfl rfl 26 _ R1 (infok8 _ l2) (fit32 _ _ (zr_len 32) l2) (irow_one _ _) ?_
      replace R2 := (setRow_other q6 (w.heap.size + 1) (w.heap.size + 1 + 1) (irow .u8 (hm key [2])) (by omega)).trans R2
      replace R1 := setRow_heap q6 (w.heap.size + 1) _ (irow .u8 (hm key [2])) _ _ R1
      replace hw := below_setRow hw (show w.heap.size ≤ w.heap.size + 1 by omega) (irow .u8 (hm key [2]))
      refine hK_ _ _ (trivial) ?_
      simp only [Act.put]
      clear hK_
      generalize q6.setRow (w.heap.size + 1) (irow .u8 (hm key [2])) = q7 at *
      refine wpAnyH_one (k := 7) (fuel := 0) (by kernel_rfl) rfl (by kernel_rfl) (fun K_ hK_ => ?_)
      refine wp_store_row 26 _ _ rfl (w.heap.size + 1 + 1) (irow .u8 (hm key [1])) rfl rfl 26 _ R2 (infok8 _ l1) (fit32 _ _ (zr_len 32) l1) (irow_one _ _) ?_
      replace R1 := (setRow_other q7 (w.heap.size + 1 + 1) (w.heap.size + 1) (irow .u8 (hm key [1])) (by omega)).trans R1
      replace R2 := setRow_heap q7 (w.heap.size + 1 + 1) _ (irow .u8 (hm key [1])) _ _ R2
      replace hw := below_setRow hw (show w.heap.size ≤ w.heap.size + 1 + 1 by omega) (irow .u8 (hm key [1]))
      refine hK_ _ _ (trivial) ?_
      simp only [Act.put]
      clear hK_
      generalize q7.setRow (w.heap.size + 1 + 1) (irow .u8 (hm key [1])) = q8 at *
      refine wpAnyH_done (by kernel_rfl) ?_ _
      refine NoPanic.normal ?_
      go_wp2
      exact bodyPost_ret (results_cell2_row Tryd.results21 _ _ (w.heap.size + 1) (w.heap.size + 1 + 1) _ _ _ _ _ _ _ rfl rfl R1 R2 Tryd.underlying26 rfl (infok8 _ l2) (infok8 _ l1)) rfl ⟨rfl, hw⟩
    · refine wp_world_op (.slice (some ⟨q1.heap.size, 0, none⟩) 1 1) (q1.alloc (.cells #[.int .u8 1] 5)) (by kernel_rfl) ?_
      have hb_ : Below q1.heap.size q1 (q1.alloc (.cells #[.int .u8 1] 5)) := (Below.refl _ _).alloc (Nat.le_refl _) _
      have sz_g10 : w.heap.size ≤ q1.heap.size := hw.size
      have lt_R0_g10 := lt_of_row R0
      have lt_R1_g10 := lt_of_row R1
      have lt_R2_g10 := lt_of_row R2
      have lt_rB2_g10 := lt_of_row rB2
      have rB1 := hp1_0 q1 (.cells #[.int .u8 1] 5)
      replace R0 := keep hb_ R0
      replace R1 := keep hb_ R1
      replace R2 := keep hb_ R2
      replace rB2 := keep hb_ rB2
      replace f0 := f0.below hb_
      replace f4 := f4.below hb_
      replace hw := Below.after hw hb_
      clear hb_
      refine hK_ _ _ (trivial) ?_
      simp only [Act.put, List.getElem_toArray, List.getElem_cons_succ, List.getElem_cons_zero, List.setIfInBounds_toArray, List.set_cons_succ, List.set_cons_zero]
      clear hK_
      generalize q1.alloc (.cells #[.int .u8 1] 5) = q9 at *
      generalize q1.heap.size = g10 at *
      refine wpAnyH_one (k := 2) (fuel := 3) (by kernel_rfl) rfl (by kernel_rfl) (fun K_ hK_ => ?_)
      have hB1_ : Bys q9 (.slice (some ⟨w.heap.size, 0, none⟩) 32 32) key := by
        have h := Bys.of_row R0 (by omega) hkz 32
        rw [hkl] at h
        exact h
      have hB2_ : Bys q9 (.slice (some ⟨g2, 0, none⟩) 1 1) [2] := Bys.of_row (l := [2]) rB2 (by decide) (by decide) 1
      refine wp_call_ex (f := 25) (by kernel_rfl) (ex1 (a_macSum key [2] q9 _ _ f0 f4 hB1_ (fun a l c h => by cases h; exact Nat.le_refl _) (by omega) hB2_ (fun a l c h => by cases h; exact Nat.le_refl _) (by decide))) (fun v_ q11 hX_ => ?_)
      obtain ⟨rfl, hb_⟩ := hX_
      replace R0 := keep hb_ R0
      replace R1 := keep hb_ R1
      replace R2 := keep hb_ R2
      replace rB2 := keep hb_ rB2
      replace rB1 := keep hb_ rB1
      replace f0 := f0.below hb_
      replace f4 := f4.below hb_
      replace hw := Below.after hw hb_
      clear hb_
      clear hB1_ hB2_
      refine hK_ _ _ (trivial) ?_
      simp only [Act.put, List.getElem_toArray, List.getElem_cons_succ, List.getElem_cons_zero, List.setIfInBounds_toArray, List.set_cons_succ, List.set_cons_zero]
      clear hK_
      refine wpAnyH_one (k := 5) (fuel := 2) (by kernel_rfl) rfl (by kernel_rfl) (fun K_ hK_ => ?_)
      have hB1_ : Bys q11 (.slice (some ⟨w.heap.size, 0, none⟩) 32 32) key := by
        have h := Bys.of_row R0 (by omega) hkz 32
        rw [hkl] at h
        exact h
      have hB2_ : Bys q11 (.slice (some ⟨g10, 0, none⟩) 1 1) [1] := Bys.of_row (l := [1]) rB1 (by decide) (by decide) 1
      refine wp_call_ex (f := 25) (by kernel_rfl) (ex1 (a_macSum key [1] q11 _ _ f0 f4 hB1_ (fun a l c h => by cases h; exact Nat.le_refl _) (by omega) hB2_ (fun a l c h => by cases h; exact Nat.le_refl _) (by decide))) (fun v_ q12 hX_ => ?_)
      obtain ⟨rfl, hb_⟩ := hX_
      replace R0 := keep hb_ R0
      replace R1 := keep hb_ R1
      replace R2 := keep hb_ R2
      replace rB2 := keep hb_ rB2
      replace rB1 := keep hb_ rB1
      replace f0 := f0.below hb_
      replace f4 := f4.below hb_
      replace hw := Below.after hw hb_
      clear hb_
      clear hB1_ hB2_
      refine hK_ _ _ (trivial) ?_
      simp only [Act.put, List.getElem_toArray, List.getElem_cons_succ, List.getElem_cons_zero, List.setIfInBounds_toArray, List.set_cons_succ, List.set_cons_zero]
      clear hK_
      refine wpAnyH_one (k := 6) (fuel := 1) (by kernel_rfl) rfl (by kernel_rfl) (fun K_ hK_ => ?_)
      clear rB1 rB2 R0 f0 f4
      refine wp_store_row 26 _ _ rfl (w.heap.size + 1) (irow .u8 (hm key [2])) rfl rfl 26 _ R1 (infok8 _ l2) (fit32 _ _ (zr_len 32) l2) (irow_one _ _) ?_
      replace R2 := (setRow_other q12 (w.heap.size + 1) (w.heap.size + 1 + 1) (irow .u8 (hm key [2])) (by omega)).trans R2
      replace R1 := setRow_heap q12 (w.heap.size + 1) _ (irow .u8 (hm key [2])) _ _ R1
      replace hw := below_setRow hw (show w.heap.size ≤ w.heap.size + 1 by omega) (irow .u8 (hm key [2]))
      refine hK_ _ _ (trivial) ?_
      simp only [Act.put]
      clear hK_
      generalize q12.setRow (w.heap.size + 1) (irow .u8 (hm key [2])) = q13 at *
      refine wpAnyH_one (k := 7) (fuel := 0) (by kernel_rfl) rfl (by kernel_rfl) (fun K_ hK_ => ?_)
      refine wp_store_row 26 _ _ rfl (w.heap.size + 1 + 1) (irow .u8 (hm key [1])) rfl rfl 26 _ R2 (infok8 _ l1) (fit32 _ _ (zr_len 32) l1) (irow_one _ _) ?_
      replace R1 := (setRow_other q13 (w.heap.size + 1 + 1) (w.heap.size + 1) (irow .u8 (hm key [1])) (by omega)).trans R1
      replace R2 := setRow_heap q13 (w.heap.size + 1 + 1) _ (irow .u8 (hm key [1])) _ _ R2
      replace hw := below_setRow hw (show w.heap.size ≤ w.heap.size + 1 + 1 by omega) (irow .u8 (hm key [1]))
      refine hK_ _ _ (trivial) ?_
      simp only [Act.put]
      clear hK_
      generalize q13.setRow (w.heap.size + 1 + 1) (irow .u8 (hm key [1])) = q14 at *
      refine wpAnyH_done (by kernel_rfl) ?_ _
      refine NoPanic.normal ?_
      go_wp2
      exact bodyPost_ret (results_cell2_row Tryd.results21 _ _ (w.heap.size + 1) (w.heap.size + 1 + 1) _ _ _ _ _ _ _ rfl rfl R1 R2 Tryd.underlying26 rfl (infok8 _ l2) (infok8 _ l1)) rfl ⟨rfl, hw⟩
  · refine wp_world_op (.slice (some ⟨w1.heap.size, 0, none⟩) 1 1) (w1.alloc (.cells #[.int .u8 1] 5)) (by kernel_rfl) ?_
    have hb_ : Below w1.heap.size w1 (w1.alloc (.cells #[.int .u8 1] 5)) := (Below.refl _ _).alloc (Nat.le_refl _) _
    have sz_g16 : w.heap.size ≤ w1.heap.size := hw.size
    have lt_R0_g16 := lt_of_row R0
    have lt_R1_g16 := lt_of_row R1
    have lt_R2_g16 := lt_of_row R2
    have rB1 := hp1_0 w1 (.cells #[.int .u8 1] 5)
    replace R0 := keep hb_ R0
    replace R1 := keep hb_ R1
    replace R2 := keep hb_ R2
    replace f0 := f0.below hb_
    replace f4 := f4.below hb_
    replace hw := Below.after hw hb_
    clear hb_
    refine hK_ _ _ (trivial) ?_
    simp only [Act.put, List.getElem_toArray, List.getElem_cons_succ, List.getElem_cons_zero, List.setIfInBounds_toArray, List.set_cons_succ, List.set_cons_zero]
    clear hK_
    generalize w1.alloc (.cells #[.int .u8 1] 5) = q15 at *
    generalize w1.heap.size = g16 at *
    refine wpAnyH_one (k := 1) (fuel := 4) (by kernel_rfl) rfl (by kernel_rfl) (fun K_ hK_ => ?_)
    refine wp_world_op (.slice (some ⟨q15.heap.size, 0, none⟩) 1 1) (q15.alloc (.cells #[.int .u8 2] 5)) (by kernel_rfl) ?_
    have hb_ : Below q15.heap.size q15 (q15.alloc (.cells #[.int .u8 2] 5)) := (Below.refl _ _).alloc (Nat.le_refl _) _
    have sz_g18 : w.heap.size ≤ q15.heap.size := hw.size
    have lt_R0_g18 := lt_of_row R0
    have lt_R1_g18 := lt_of_row R1
    have lt_R2_g18 := lt_of_row R2
    have lt_rB1_g18 := lt_of_row rB1
    have rB2 := hp1_0 q15 (.cells #[.int .u8 2] 5)
    replace R0 := keep hb_ R0
    replace R1 := keep hb_ R1
    replace R2 := keep hb_ R2
    replace rB1 := keep hb_ rB1
    replace f0 := f0.below hb_
    replace f4 := f4.below hb_
    replace hw := Below.after hw hb_
    clear hb_
    refine hK_ _ _ (trivial) ?_
    simp only [Act.put, List.getElem_toArray, List.getElem_cons_succ, List.getElem_cons_zero, List.setIfInBounds_toArray, List.set_cons_succ, List.set_cons_zero]
    clear hK_
    generalize q15.alloc (.cells #[.int .u8 2] 5) = q17 at *
    generalize q15.heap.size = g18 at *
    refine wpAnyH_one (k := 2) (fuel := 3) (by kernel_rfl) rfl (by kernel_rfl) (fun K_ hK_ => ?_)
    have hB1_ : Bys q17 (.slice (some ⟨w.heap.size, 0, none⟩) 32 32) key := by
      have h := Bys.of_row R0 (by omega) hkz 32
      rw [hkl] at h
      exact h
    have hB2_ : Bys q17 (.slice (some ⟨g18, 0, none⟩) 1 1) [2] := Bys.of_row (l := [2]) rB2 (by decide) (by decide) 1
    refine wp_call_ex (f := 25) (by kernel_rfl) (ex1 (a_macSum key [2] q17 _ _ f0 f4 hB1_ (fun a l c h => by cases h; exact Nat.le_refl _) (by omega) hB2_ (fun a l c h => by cases h; exact Nat.le_refl _) (by decide))) (fun v_ q19 hX_ => ?_)
    obtain ⟨rfl, hb_⟩ := hX_
    replace R0 := keep hb_ R0
    replace R1 := keep hb_ R1
    replace R2 := keep hb_ R2
    replace rB1 := keep hb_ rB1
    replace rB2 := keep hb_ rB2
    replace f0 := f0.below hb_
    replace f4 := f4.below hb_
    replace hw := Below.after hw hb_
    clear hb_
    clear hB1_ hB2_
    refine hK_ _ _ (trivial) ?_
    simp only [Act.put, List.getElem_toArray, List.getElem_cons_succ, List.getElem_cons_zero, List.setIfInBounds_toArray, List.set_cons_succ, List.set_cons_zero]
    clear hK_
    refine wpAnyH_one (k := 5) (fuel := 2) (by kernel_rfl) rfl (by kernel_rfl) (fun K_ hK_ => ?_)
    have hB1_ : Bys q19 (.slice (some ⟨w.heap.size, 0, none⟩) 32 32) key := by
      have h := Bys.of_row R0 (by omega) hkz 32
      rw [hkl] at h
      exact h
    have hB2_ : Bys q19 (.slice (some ⟨g16, 0, none⟩) 1 1) [1] := Bys.of_row (l := [1]) rB1 (by decide) (by decide) 1
    refine wp_call_ex (f := 25) (by kernel_rfl) (ex1 (a_macSum key [1] q19 _ _ f0 f4 hB1_ (fun a l c h => by cases h; exact Nat.le_refl _) (by omega) hB2_ (fun a l c h => by cases h; exact Nat.le_refl _) (by decide))) (fun v_ q20 hX_ => ?_)
    obtain ⟨rfl, hb_⟩ := hX_
    replace R0 := keep hb_ R0
    replace R1 := keep hb_ R1
    replace R2 := keep hb_ R2
    replace rB1 := keep hb_ rB1
    replace rB2 := keep hb_ rB2
    replace f0 := f0.below hb_
    replace f4 := f4.below hb_
    replace hw := Below.after hw hb_
    clear hb_
    clear hB1_ hB2_
    refine hK_ _ _ (trivial) ?_
    simp only [Act.put, List.getElem_toArray, List.getElem_cons_succ, List.getElem_cons_zero, List.setIfInBounds_toArray, List.set_cons_succ, List.set_cons_zero]
    clear hK_
    refine wpAnyH_one (k := 6) (fuel := 1) (by kernel_rfl) rfl (by kernel_rfl) (fun K_ hK_ => ?_)
    clear rB1 rB2 R0 f0 f4
    refine wp_store_row 26 _ _ rfl (w.heap.size + 1) (irow .u8 (hm key [2])) rfl rfl 26 _ R1 (infok8 _ l2) (fit32 _ _ (zr_len 32) l2) (irow_one _ _) ?_
    replace R2 := (setRow_other q20 (w.heap.size + 1) (w.heap.size + 1 + 1) (irow .u8 (hm key [2])) (by omega)).trans R2
    replace R1 := setRow_heap q20 (w.heap.size + 1) _ (irow .u8 (hm key [2])) _ _ R1
    replace hw := below_setRow hw (show w.heap.size ≤ w.heap.size + 1 by omega) (irow .u8 (hm key [2]))
    refine hK_ _ _ (trivial) ?_
    simp only [Act.put]
    clear hK_
    generalize q20.setRow (w.heap.size + 1) (irow .u8 (hm key [2])) = q21 at *
    refine wpAnyH_one (k := 7) (fuel := 0) (by kernel_rfl) rfl (by kernel_rfl) (fun K_ hK_ => ?_)
    refine wp_store_row 26 _ _ rfl (w.heap.size + 1 + 1) (irow .u8 (hm key [1])) rfl rfl 26 _ R2 (infok8 _ l1) (fit32 _ _ (zr_len 32) l1) (irow_one _ _) ?_
    replace R1 := (setRow_other q21 (w.heap.size + 1 + 1) (w.heap.size + 1) (irow .u8 (hm key [1])) (by omega)).trans R1
    replace R2 := setRow_heap q21 (w.heap.size + 1 + 1) _ (irow .u8 (hm key [1])) _ _ R2
    replace hw := below_setRow hw (show w.heap.size ≤ w.heap.size + 1 + 1 by omega) (irow .u8 (hm key [1]))
    refine hK_ _ _ (trivial) ?_
    simp only [Act.put]
    clear hK_
    generalize q21.setRow (w.heap.size + 1 + 1) (irow .u8 (hm key [1])) = q22 at *
    refine wpAnyH_done (by kernel_rfl) ?_ _
    refine NoPanic.normal ?_
    go_wp2
    exact bodyPost_ret (results_cell2_row Tryd.results21 _ _ (w.heap.size + 1) (w.heap.size + 1 + 1) _ _ _ _ _ _ _ rfl rfl R1 R2 Tryd.underlying26 rfl (infok8 _ l2) (infok8 _ l1)) rfl ⟨rfl, hw⟩
set_option maxRecDepth 100000 in
set_option maxHeartbeats 4000000 in
theorem r_Step (key : List Int) (hkl : key.length = 32) (hkz : ∀ z ∈ key, 0 ≤ z ∧ z < 256) (w : World) : Calls Tryd.prog 15 #[.agg (irow .u8 key)] w fun e w' => e = .returned (.tuple #[.agg (irow .u8 (hm key [2])), .agg (irow .u8 (hm key [1]))]) ∧ Below w.heap.size w w' := by
  have l2 := hm_len key [2]
  have l1 := hm_len key [1]
  have R0 := hp3_0 w (.cells (irow .u8 key) 26) (.cells (irow .u8 (zr 32)) 26) (.cells (irow .u8 (zr 32)) 26)
  have R1 := hp3_1 w (.cells (irow .u8 key) 26) (.cells (irow .u8 (zr 32)) 26) (.cells (irow .u8 (zr 32)) 26)
  have R2 := hp3_2 w (.cells (irow .u8 key) 26) (.cells (irow .u8 (zr 32)) 26) (.cells (irow .u8 (zr 32)) 26)
  have hw : Below w.heap.size w (((w.alloc (.cells (irow .u8 key) 26)).alloc (.cells (irow .u8 (zr 32)) 26)).alloc (.cells (irow .u8 (zr 32)) 26)) := ((((Below.refl _ _).alloc (Nat.le_refl _) _).alloc (by simp) _).alloc (by simp; omega) _)
  have sk := slice_k w.heap.size
  go_enter Tryd.func15, Tryd.ntmps15
  go_wp2_with (first | (refine wpList_box rfl 26 _ rfl _ rfl (bK _) ?_) | (refine wpList_alloc rfl 26 rfl (irow .u8 (zr 32)) zkey ?_) | fail)
  try simp only [size_alloc1, Act.put, List.setIfInBounds_toArray, List.set_cons_succ, List.set_cons_zero]
  generalize (((w.alloc (.cells (irow .u8 key) 26)).alloc (.cells (irow .u8 (zr 32)) 26)).alloc (.cells (irow .u8 (zr 32)) 26)) = w0 at *
  have hbd : Below w0.heap.size w0 w0.drew := below_drN (Below.refl _ _) 1
  replace R0 := keep hbd R0
  replace R1 := keep hbd R1
  replace R2 := keep hbd R2
  replace hw := Below.after hw hbd
  clear hbd
  refine wp_region_noPanic ?_
  refine wp_region_held (S := fun _ => True) (by kernel_rfl) ?_
  change wpAnyH _ _ _ _ _ _ _ _ (World.drew _)
  generalize w0.drew = w1 at *
  refine wpAnyH_take (i := 0) (v := ?v3) rfl (by kernel_rfl) (by kernel_rfl) (by kernel_rfl) (fun _ _ _ h => h) (Or.inl ⟨by rfl, ?y3⟩) (trivial) ?r3
  case y3 =>
    intro w_ hS_
    go_simp
    try with_reducible rfl
  simp only [Act.put, List.getElem_toArray, List.getElem_cons_zero, List.setIfInBounds_toArray, List.set_cons_succ, List.set_cons_zero]
  refine wpAnyH_take (i := 3) (v := ?v4) rfl (by kernel_rfl) (by kernel_rfl) (by kernel_rfl) (fun _ _ _ h => h) (Or.inl ⟨by rfl, ?y4⟩) (trivial) ?r4
  case y4 =>
    intro w_ hS_
    go_simp
    try with_reducible rfl
  simp only [Act.put, List.getElem_toArray, List.getElem_cons_succ, List.getElem_cons_zero, List.setIfInBounds_toArray, List.set_cons_succ, List.set_cons_zero]
  refine wpAnyH_two (j := 1) (k := 4) (fuel := 5) (by kernel_rfl) rfl rfl (by kernel_rfl) (by kernel_rfl) (fun K_ hK_ => ?_) (fun K_ hK_ => ?_)
  · refine wp_world_op (.slice (some ⟨w1.heap.size, 0, none⟩) 1 1) (w1.alloc (.cells #[.int .u8 2] 5)) (by kernel_rfl) ?_
    have hb_ : Below w1.heap.size w1 (w1.alloc (.cells #[.int .u8 2] 5)) := (Below.refl _ _).alloc (Nat.le_refl _) _
    have sz_g24 : w.heap.size ≤ w1.heap.size := hw.size
    have lt_R0_g24 := lt_of_row R0
    have lt_R1_g24 := lt_of_row R1
    have lt_R2_g24 := lt_of_row R2
    have rB2 := hp1_0 w1 (.cells #[.int .u8 2] 5)
    replace R0 := keep hb_ R0
    replace R1 := keep hb_ R1
    replace R2 := keep hb_ R2
    replace hw := Below.after hw hb_
    clear hb_
    refine hK_ _ _ (trivial) ?_
    simp only [Act.put, List.getElem_toArray, List.getElem_cons_succ, List.getElem_cons_zero, List.setIfInBounds_toArray, List.set_cons_succ, List.set_cons_zero]
    clear hK_
    generalize w1.alloc (.cells #[.int .u8 2] 5) = q23 at *
    generalize w1.heap.size = g24 at *
    refine wpAnyH_two (j := 2) (k := 4) (fuel := 4) (by kernel_rfl) rfl rfl (by kernel_rfl) (by kernel_rfl) (fun K_ hK_ => ?_) (fun K_ hK_ => ?_)
    · have hB1_ : Bys q23 (.slice (some ⟨w.heap.size, 0, none⟩) 32 32) key := by
        have h := Bys.of_row R0 (by omega) hkz 32
        rw [hkl] at h
        exact h
      have hB2_ : Bys q23 (.slice (some ⟨g24, 0, none⟩) 1 1) [2] := Bys.of_row (l := [2]) rB2 (by decide) (by decide) 1
      refine wp_call_ex (f := 22) (by kernel_rfl) (ex1 (r_sum4 key [2] q23 _ _ ⟨hB1_, by omega, fun a l c h h2 => by cases h; cases h2⟩ ⟨hB2_, by decide, fun a l c h h2 => by cases h; cases h2⟩ (by decide))) (fun v_ q25 hX_ => ?_)
      obtain ⟨rfl, hb_⟩ := hX_
      replace R0 := keep hb_ R0
      replace R1 := keep hb_ R1
      replace R2 := keep hb_ R2
      replace rB2 := keep hb_ rB2
      replace hw := Below.after hw hb_
      clear hb_
      clear hB1_ hB2_
      refine hK_ _ _ (trivial) ?_
      simp only [Act.put, List.getElem_toArray, List.getElem_cons_succ, List.getElem_cons_zero, List.setIfInBounds_toArray, List.set_cons_succ, List.set_cons_zero]
      clear hK_
      refine wpAnyH_one (k := 4) (fuel := 3) (by kernel_rfl) rfl (by kernel_rfl) (fun K_ hK_ => ?_)
      refine wp_world_op (.slice (some ⟨q25.heap.size, 0, none⟩) 1 1) (q25.alloc (.cells #[.int .u8 1] 5)) (by kernel_rfl) ?_
      have hb_ : Below q25.heap.size q25 (q25.alloc (.cells #[.int .u8 1] 5)) := (Below.refl _ _).alloc (Nat.le_refl _) _
      have sz_g27 : w.heap.size ≤ q25.heap.size := hw.size
      have lt_R0_g27 := lt_of_row R0
      have lt_R1_g27 := lt_of_row R1
      have lt_R2_g27 := lt_of_row R2
      have lt_rB2_g27 := lt_of_row rB2
      have rB1 := hp1_0 q25 (.cells #[.int .u8 1] 5)
      replace R0 := keep hb_ R0
      replace R1 := keep hb_ R1
      replace R2 := keep hb_ R2
      replace rB2 := keep hb_ rB2
      replace hw := Below.after hw hb_
      clear hb_
      refine hK_ _ _ (trivial) ?_
      simp only [Act.put, List.getElem_toArray, List.getElem_cons_succ, List.getElem_cons_zero, List.setIfInBounds_toArray, List.set_cons_succ, List.set_cons_zero]
      clear hK_
      generalize q25.alloc (.cells #[.int .u8 1] 5) = q26 at *
      generalize q25.heap.size = g27 at *
      refine wpAnyH_one (k := 5) (fuel := 2) (by kernel_rfl) rfl (by kernel_rfl) (fun K_ hK_ => ?_)
      have hB1_ : Bys q26 (.slice (some ⟨w.heap.size, 0, none⟩) 32 32) key := by
        have h := Bys.of_row R0 (by omega) hkz 32
        rw [hkl] at h
        exact h
      have hB2_ : Bys q26 (.slice (some ⟨g27, 0, none⟩) 1 1) [1] := Bys.of_row (l := [1]) rB1 (by decide) (by decide) 1
      refine wp_call_ex (f := 22) (by kernel_rfl) (ex1 (r_sum4 key [1] q26 _ _ ⟨hB1_, by omega, fun a l c h h2 => by cases h; cases h2⟩ ⟨hB2_, by decide, fun a l c h h2 => by cases h; cases h2⟩ (by decide))) (fun v_ q28 hX_ => ?_)
      obtain ⟨rfl, hb_⟩ := hX_
      replace R0 := keep hb_ R0
      replace R1 := keep hb_ R1
      replace R2 := keep hb_ R2
      replace rB2 := keep hb_ rB2
      replace rB1 := keep hb_ rB1
      replace hw := Below.after hw hb_
      clear hb_
      clear hB1_ hB2_
      refine hK_ _ _ (trivial) ?_
      simp only [Act.put, List.getElem_toArray, List.getElem_cons_succ, List.getElem_cons_zero, List.setIfInBounds_toArray, List.set_cons_succ, List.set_cons_zero]
      clear hK_
      refine wpAnyH_one (k := 6) (fuel := 1) (by kernel_rfl) rfl (by kernel_rfl) (fun K_ hK_ => ?_)
      clear rB1 rB2 R0
      refine wp_store_row 26 _ _ rfl (w.heap.size + 1) (irow .u8 (hm key [2])) rfl rfl 26 _ R1 (infok8 _ l2) (fit32 _ _ (zr_len 32) l2) (irow_one _ _) ?_
      replace R2 := (setRow_other q28 (w.heap.size + 1) (w.heap.size + 1 + 1) (irow .u8 (hm key [2])) (by omega)).trans R2
      replace R1 := setRow_heap q28 (w.heap.size + 1) _ (irow .u8 (hm key [2])) _ _ R1
      replace hw := below_setRow hw (show w.heap.size ≤ w.heap.size + 1 by omega) (irow .u8 (hm key [2]))
      refine hK_ _ _ (trivial) ?_
      simp only [Act.put]
      clear hK_
      generalize q28.setRow (w.heap.size + 1) (irow .u8 (hm key [2])) = q29 at *
      refine wpAnyH_one (k := 7) (fuel := 0) (by kernel_rfl) rfl (by kernel_rfl) (fun K_ hK_ => ?_)
      refine wp_store_row 26 _ _ rfl (w.heap.size + 1 + 1) (irow .u8 (hm key [1])) rfl rfl 26 _ R2 (infok8 _ l1) (fit32 _ _ (zr_len 32) l1) (irow_one _ _) ?_
      replace R1 := (setRow_other q29 (w.heap.size + 1 + 1) (w.heap.size + 1) (irow .u8 (hm key [1])) (by omega)).trans R1
      replace R2 := setRow_heap q29 (w.heap.size + 1 + 1) _ (irow .u8 (hm key [1])) _ _ R2
      replace hw := below_setRow hw (show w.heap.size ≤ w.heap.size + 1 + 1 by omega) (irow .u8 (hm key [1]))
      refine hK_ _ _ (trivial) ?_
      simp only [Act.put]
      clear hK_
      generalize q29.setRow (w.heap.size + 1 + 1) (irow .u8 (hm key [1])) = q30 at *
      refine wpAnyH_done (by kernel_rfl) ?_ _
      refine NoPanic.normal ?_
      go_wp2
      exact bodyPost_ret (results_cell2_row Tryd.results15 _ _ (w.heap.size + 1) (w.heap.size + 1 + 1) _ _ _ _ _ _ _ rfl rfl R1 R2 Tryd.underlying26 rfl (infok8 _ l2) (infok8 _ l1)) rfl ⟨rfl, hw⟩
    · refine wp_world_op (.slice (some ⟨q23.heap.size, 0, none⟩) 1 1) (q23.alloc (.cells #[.int .u8 1] 5)) (by kernel_rfl) ?_
      have hb_ : Below q23.heap.size q23 (q23.alloc (.cells #[.int .u8 1] 5)) := (Below.refl _ _).alloc (Nat.le_refl _) _
      have sz_g32 : w.heap.size ≤ q23.heap.size := hw.size
      have lt_R0_g32 := lt_of_row R0
      have lt_R1_g32 := lt_of_row R1
      have lt_R2_g32 := lt_of_row R2
      have lt_rB2_g32 := lt_of_row rB2
      have rB1 := hp1_0 q23 (.cells #[.int .u8 1] 5)
      replace R0 := keep hb_ R0
      replace R1 := keep hb_ R1
      replace R2 := keep hb_ R2
      replace rB2 := keep hb_ rB2
      replace hw := Below.after hw hb_
      clear hb_
      refine hK_ _ _ (trivial) ?_
      simp only [Act.put, List.getElem_toArray, List.getElem_cons_succ, List.getElem_cons_zero, List.setIfInBounds_toArray, List.set_cons_succ, List.set_cons_zero]
      clear hK_
      generalize q23.alloc (.cells #[.int .u8 1] 5) = q31 at *
      generalize q23.heap.size = g32 at *
      refine wpAnyH_one (k := 2) (fuel := 3) (by kernel_rfl) rfl (by kernel_rfl) (fun K_ hK_ => ?_)
      have hB1_ : Bys q31 (.slice (some ⟨w.heap.size, 0, none⟩) 32 32) key := by
        have h := Bys.of_row R0 (by omega) hkz 32
        rw [hkl] at h
        exact h
      have hB2_ : Bys q31 (.slice (some ⟨g24, 0, none⟩) 1 1) [2] := Bys.of_row (l := [2]) rB2 (by decide) (by decide) 1
      refine wp_call_ex (f := 22) (by kernel_rfl) (ex1 (r_sum4 key [2] q31 _ _ ⟨hB1_, by omega, fun a l c h h2 => by cases h; cases h2⟩ ⟨hB2_, by decide, fun a l c h h2 => by cases h; cases h2⟩ (by decide))) (fun v_ q33 hX_ => ?_)
      obtain ⟨rfl, hb_⟩ := hX_
      replace R0 := keep hb_ R0
      replace R1 := keep hb_ R1
      replace R2 := keep hb_ R2
      replace rB2 := keep hb_ rB2
      replace rB1 := keep hb_ rB1
      replace hw := Below.after hw hb_
      clear hb_
      clear hB1_ hB2_
      refine hK_ _ _ (trivial) ?_
      simp only [Act.put, List.getElem_toArray, List.getElem_cons_succ, List.getElem_cons_zero, List.setIfInBounds_toArray, List.set_cons_succ, List.set_cons_zero]
      clear hK_
      refine wpAnyH_one (k := 5) (fuel := 2) (by kernel_rfl) rfl (by kernel_rfl) (fun K_ hK_ => ?_)
      have hB1_ : Bys q33 (.slice (some ⟨w.heap.size, 0, none⟩) 32 32) key := by
        have h := Bys.of_row R0 (by omega) hkz 32
        rw [hkl] at h
        exact h
      have hB2_ : Bys q33 (.slice (some ⟨g32, 0, none⟩) 1 1) [1] := Bys.of_row (l := [1]) rB1 (by decide) (by decide) 1
      refine wp_call_ex (f := 22) (by kernel_rfl) (ex1 (r_sum4 key [1] q33 _ _ ⟨hB1_, by omega, fun a l c h h2 => by cases h; cases h2⟩ ⟨hB2_, by decide, fun a l c h h2 => by cases h; cases h2⟩ (by decide))) (fun v_ q34 hX_ => ?_)
      obtain ⟨rfl, hb_⟩ := hX_
      replace R0 := keep hb_ R0
      replace R1 := keep hb_ R1
      replace R2 := keep hb_ R2
      replace rB2 := keep hb_ rB2
      replace rB1 := keep hb_ rB1
      replace hw := Below.after hw hb_
      clear hb_
      clear hB1_ hB2_
      refine hK_ _ _ (trivial) ?_
      simp only [Act.put, List.getElem_toArray, List.getElem_cons_succ, List.getElem_cons_zero, List.setIfInBounds_toArray, List.set_cons_succ, List.set_cons_zero]
      clear hK_
      refine wpAnyH_one (k := 6) (fuel := 1) (by kernel_rfl) rfl (by kernel_rfl) (fun K_ hK_ => ?_)
      clear rB1 rB2 R0
      refine wp_store_row 26 _ _ rfl (w.heap.size + 1) (irow .u8 (hm key [2])) rfl rfl 26 _ R1 (infok8 _ l2) (fit32 _ _ (zr_len 32) l2) (irow_one _ _) ?_
      replace R2 := (setRow_other q34 (w.heap.size + 1) (w.heap.size + 1 + 1) (irow .u8 (hm key [2])) (by omega)).trans R2
      replace R1 := setRow_heap q34 (w.heap.size + 1) _ (irow .u8 (hm key [2])) _ _ R1
      replace hw := below_setRow hw (show w.heap.size ≤ w.heap.size + 1 by omega) (irow .u8 (hm key [2]))
      refine hK_ _ _ (trivial) ?_
      simp only [Act.put]
      clear hK_
      generalize q34.setRow (w.heap.size + 1) (irow .u8 (hm key [2])) = q35 at *
      refine wpAnyH_one (k := 7) (fuel := 0) (by kernel_rfl) rfl (by kernel_rfl) (fun K_ hK_ => ?_)
      refine wp_store_row 26 _ _ rfl (w.heap.size + 1 + 1) (irow .u8 (hm key [1])) rfl rfl 26 _ R2 (infok8 _ l1) (fit32 _ _ (zr_len 32) l1) (irow_one _ _) ?_
      replace R1 := (setRow_other q35 (w.heap.size + 1 + 1) (w.heap.size + 1) (irow .u8 (hm key [1])) (by omega)).trans R1
      replace R2 := setRow_heap q35 (w.heap.size + 1 + 1) _ (irow .u8 (hm key [1])) _ _ R2
      replace hw := below_setRow hw (show w.heap.size ≤ w.heap.size + 1 + 1 by omega) (irow .u8 (hm key [1]))
      refine hK_ _ _ (trivial) ?_
      simp only [Act.put]
      clear hK_
      generalize q35.setRow (w.heap.size + 1 + 1) (irow .u8 (hm key [1])) = q36 at *
      refine wpAnyH_done (by kernel_rfl) ?_ _
      refine NoPanic.normal ?_
      go_wp2
      exact bodyPost_ret (results_cell2_row Tryd.results15 _ _ (w.heap.size + 1) (w.heap.size + 1 + 1) _ _ _ _ _ _ _ rfl rfl R1 R2 Tryd.underlying26 rfl (infok8 _ l2) (infok8 _ l1)) rfl ⟨rfl, hw⟩
  · refine wp_world_op (.slice (some ⟨w1.heap.size, 0, none⟩) 1 1) (w1.alloc (.cells #[.int .u8 1] 5)) (by kernel_rfl) ?_
    have hb_ : Below w1.heap.size w1 (w1.alloc (.cells #[.int .u8 1] 5)) := (Below.refl _ _).alloc (Nat.le_refl _) _
    have sz_g38 : w.heap.size ≤ w1.heap.size := hw.size
    have lt_R0_g38 := lt_of_row R0
    have lt_R1_g38 := lt_of_row R1
    have lt_R2_g38 := lt_of_row R2
    have rB1 := hp1_0 w1 (.cells #[.int .u8 1] 5)
    replace R0 := keep hb_ R0
    replace R1 := keep hb_ R1
    replace R2 := keep hb_ R2
    replace hw := Below.after hw hb_
    clear hb_
    refine hK_ _ _ (trivial) ?_
    simp only [Act.put, List.getElem_toArray, List.getElem_cons_succ, List.getElem_cons_zero, List.setIfInBounds_toArray, List.set_cons_succ, List.set_cons_zero]
    clear hK_
    generalize w1.alloc (.cells #[.int .u8 1] 5) = q37 at *
    generalize w1.heap.size = g38 at *
    refine wpAnyH_one (k := 1) (fuel := 4) (by kernel_rfl) rfl (by kernel_rfl) (fun K_ hK_ => ?_)
    refine wp_world_op (.slice (some ⟨q37.heap.size, 0, none⟩) 1 1) (q37.alloc (.cells #[.int .u8 2] 5)) (by kernel_rfl) ?_
    have hb_ : Below q37.heap.size q37 (q37.alloc (.cells #[.int .u8 2] 5)) := (Below.refl _ _).alloc (Nat.le_refl _) _
    have sz_g40 : w.heap.size ≤ q37.heap.size := hw.size
    have lt_R0_g40 := lt_of_row R0
    have lt_R1_g40 := lt_of_row R1
    have lt_R2_g40 := lt_of_row R2
    have lt_rB1_g40 := lt_of_row rB1
    have rB2 := hp1_0 q37 (.cells #[.int .u8 2] 5)
    replace R0 := keep hb_ R0
    replace R1 := keep hb_ R1
    replace R2 := keep hb_ R2
    replace rB1 := keep hb_ rB1
    replace hw := Below.after hw hb_
    clear hb_
    refine hK_ _ _ (trivial) ?_
    simp only [Act.put, List.getElem_toArray, List.getElem_cons_succ, List.getElem_cons_zero, List.setIfInBounds_toArray, List.set_cons_succ, List.set_cons_zero]
    clear hK_
    generalize q37.alloc (.cells #[.int .u8 2] 5) = q39 at *
    generalize q37.heap.size = g40 at *
    refine wpAnyH_one (k := 2) (fuel := 3) (by kernel_rfl) rfl (by kernel_rfl) (fun K_ hK_ => ?_)
    have hB1_ : Bys q39 (.slice (some ⟨w.heap.size, 0, none⟩) 32 32) key := by
      have h := Bys.of_row R0 (by omega) hkz 32
      rw [hkl] at h
      exact h
    have hB2_ : Bys q39 (.slice (some ⟨g40, 0, none⟩) 1 1) [2] := Bys.of_row (l := [2]) rB2 (by decide) (by decide) 1
    refine wp_call_ex (f := 22) (by kernel_rfl) (ex1 (r_sum4 key [2] q39 _ _ ⟨hB1_, by omega, fun a l c h h2 => by cases h; cases h2⟩ ⟨hB2_, by decide, fun a l c h h2 => by cases h; cases h2⟩ (by decide))) (fun v_ q41 hX_ => ?_)
    obtain ⟨rfl, hb_⟩ := hX_
    replace R0 := keep hb_ R0
    replace R1 := keep hb_ R1
    replace R2 := keep hb_ R2
    replace rB1 := keep hb_ rB1
    replace rB2 := keep hb_ rB2
    replace hw := Below.after hw hb_
    clear hb_
    clear hB1_ hB2_
    refine hK_ _ _ (trivial) ?_
    simp only [Act.put, List.getElem_toArray, List.getElem_cons_succ, List.getElem_cons_zero, List.setIfInBounds_toArray, List.set_cons_succ, List.set_cons_zero]
    clear hK_
    refine wpAnyH_one (k := 5) (fuel := 2) (by kernel_rfl) rfl (by kernel_rfl) (fun K_ hK_ => ?_)
    have hB1_ : Bys q41 (.slice (some ⟨w.heap.size, 0, none⟩) 32 32) key := by
      have h := Bys.of_row R0 (by omega) hkz 32
      rw [hkl] at h
      exact h
    have hB2_ : Bys q41 (.slice (some ⟨g38, 0, none⟩) 1 1) [1] := Bys.of_row (l := [1]) rB1 (by decide) (by decide) 1
    refine wp_call_ex (f := 22) (by kernel_rfl) (ex1 (r_sum4 key [1] q41 _ _ ⟨hB1_, by omega, fun a l c h h2 => by cases h; cases h2⟩ ⟨hB2_, by decide, fun a l c h h2 => by cases h; cases h2⟩ (by decide))) (fun v_ q42 hX_ => ?_)
    obtain ⟨rfl, hb_⟩ := hX_
    replace R0 := keep hb_ R0
    replace R1 := keep hb_ R1
    replace R2 := keep hb_ R2
    replace rB1 := keep hb_ rB1
    replace rB2 := keep hb_ rB2
    replace hw := Below.after hw hb_
    clear hb_
    clear hB1_ hB2_
    refine hK_ _ _ (trivial) ?_
    simp only [Act.put, List.getElem_toArray, List.getElem_cons_succ, List.getElem_cons_zero, List.setIfInBounds_toArray, List.set_cons_succ, List.set_cons_zero]
    clear hK_
    refine wpAnyH_one (k := 6) (fuel := 1) (by kernel_rfl) rfl (by kernel_rfl) (fun K_ hK_ => ?_)
    clear rB1 rB2 R0
    refine wp_store_row 26 _ _ rfl (w.heap.size + 1) (irow .u8 (hm key [2])) rfl rfl 26 _ R1 (infok8 _ l2) (fit32 _ _ (zr_len 32) l2) (irow_one _ _) ?_
    replace R2 := (setRow_other q42 (w.heap.size + 1) (w.heap.size + 1 + 1) (irow .u8 (hm key [2])) (by omega)).trans R2
    replace R1 := setRow_heap q42 (w.heap.size + 1) _ (irow .u8 (hm key [2])) _ _ R1
    replace hw := below_setRow hw (show w.heap.size ≤ w.heap.size + 1 by omega) (irow .u8 (hm key [2]))
    refine hK_ _ _ (trivial) ?_
    simp only [Act.put]
    clear hK_
    generalize q42.setRow (w.heap.size + 1) (irow .u8 (hm key [2])) = q43 at *
    refine wpAnyH_one (k := 7) (fuel := 0) (by kernel_rfl) rfl (by kernel_rfl) (fun K_ hK_ => ?_)
    refine wp_store_row 26 _ _ rfl (w.heap.size + 1 + 1) (irow .u8 (hm key [1])) rfl rfl 26 _ R2 (infok8 _ l1) (fit32 _ _ (zr_len 32) l1) (irow_one _ _) ?_
    replace R1 := (setRow_other q43 (w.heap.size + 1 + 1) (w.heap.size + 1) (irow .u8 (hm key [1])) (by omega)).trans R1
    replace R2 := setRow_heap q43 (w.heap.size + 1 + 1) _ (irow .u8 (hm key [1])) _ _ R2
    replace hw := below_setRow hw (show w.heap.size ≤ w.heap.size + 1 + 1 by omega) (irow .u8 (hm key [1]))
    refine hK_ _ _ (trivial) ?_
    simp only [Act.put]
    clear hK_
    generalize q43.setRow (w.heap.size + 1 + 1) (irow .u8 (hm key [1])) = q44 at *
    refine wpAnyH_done (by kernel_rfl) ?_ _
    refine NoPanic.normal ?_
    go_wp2
    exact bodyPost_ret (results_cell2_row Tryd.results15 _ _ (w.heap.size + 1) (w.heap.size + 1 + 1) _ _ _ _ _ _ _ rfl rfl R1 R2 Tryd.underlying26 rfl (infok8 _ l2) (infok8 _ l1)) rfl ⟨rfl, hw⟩

end Go.Proofs.YtilgicikcjcdjaaDoor

namespace Go.Proofs.YtilgicikcjcdjaaDoor
set_option maxRecDepth 100000
open Go Go.RowKit Go.Sort
attribute [local go_sem] setCell_drewN alloc_drewN

/-- Bytes of a constant, turned to bytes. -/
theorem wp_convert {P : Program} {o : Oper} {a : Act} {w : World} {K : Act → World → Prop} {Q : Exit → Act → World → Prop} (t u : TypeId) (x : Operand) (ho : o.op = .convert t u x) (v v' : Value) (w' : World) (hx : a.eval x = v) (hr : (convert t u v).run P w = .ok v' w') (h : K (a.put o.dst v') w') : o.wp P a w K Q := by
  unfold Oper.wp
  simp [execOp, ho, hx, hr, Result.andThen]
  exact h
def rtn : List Int := [112, 97, 119, 108, 32, 114, 111, 111, 116]
def msn : List Int := [112, 97, 119, 108, 32, 109, 101, 115, 115, 97, 103, 101]
theorem rtn_bd : ∀ z ∈ rtn, 0 ≤ z ∧ z < 256 := by decide
theorem msn_bd : ∀ z ∈ msn, 0 ≤ z ∧ z < 256 := by decide
theorem rtn_bys (W : World) : Bys (W.alloc (.cells #[.int .u8 112, .int .u8 97, .int .u8 119, .int .u8 108, .int .u8 32, .int .u8 114, .int .u8 111, .int .u8 111, .int .u8 116] 5 (9, 10))) (.slice (some ⟨W.heap.size, 0, none⟩) 9 9) rtn := bys_rowF (l := rtn) (hp1_0 W _) (by decide) rtn_bd rfl
theorem msn_bys (W : World) : Bys (W.alloc (.cells #[.int .u8 112, .int .u8 97, .int .u8 119, .int .u8 108, .int .u8 32, .int .u8 109, .int .u8 101, .int .u8 115, .int .u8 115, .int .u8 97, .int .u8 103, .int .u8 101] 5 (12, 13))) (.slice (some ⟨W.heap.size, 0, none⟩) 12 12) msn := bys_rowF (l := msn) (hp1_0 W _) (by decide) msn_bd rfl
/-- Root's 96 bytes, Message's 48. -/
def rts (r s : List Int) : List Int := xpd (hm r s) rtn 96
def mss (k : List Int) : List Int := xpd k msn 48
theorem rts_len (r s : List Int) : (rts r s).length = 96 := xpd_len _ _ _
theorem mss_len (k : List Int) : (mss k).length = 48 := xpd_len _ _ _
theorem rts_bd (r s : List Int) : ∀ z ∈ rts r s, 0 ≤ z ∧ z < 256 := xpd_bd _ _ _
theorem mss_bd (k : List Int) : ∀ z ∈ mss k, 0 ≤ z ∧ z < 256 := xpd_bd _ _ _
/-- So many bytes from a place on. -/
def pt (l : List Int) (o n : Nat) : List Int := (l.drop o).take n
theorem pt_len (l : List Int) (o n : Nat) (h : o + n ≤ l.length) : (pt l o n).length = n := by simp [pt]; omega
theorem pt_bd {l : List Int} (h : ∀ z ∈ l, 0 ≤ z ∧ z < 256) (o n : Nat) : ∀ z ∈ pt l o n, 0 ≤ z ∧ z < 256 := fun z hz => h z (List.mem_of_mem_drop (List.mem_of_mem_take hz))
theorem pt_ext (l : List Int) (o n : Nat) (k : IntKind) (h : o + n ≤ l.length) : (irow k l).extract o (o + (irow k (pt l o n)).size) = irow k (pt l o n) := by
  have hs : (irow k (pt l o n)).size = n := by rw [irow_size, pt_len l o n h]
  rw [hs]
  apply Array.ext'
  simp [irow, pt, List.map_take, List.map_drop, List.extract_eq_take_drop]
theorem pt_get (l : List Int) (o n i : Nat) (h : i < n) : (pt l o n).getD i 0 = l.getD (o + i) 0 := by
  simp only [pt, List.getD_eq_getElem?_getD, List.getElem?_take_of_lt h, List.getElem?_drop]
theorem fit16 (a b : List Int) (ha : a.length = 16) (hb : b.length = 16) : (irow .u8 a).size = (irow .u8 b).size := by rw [irow_size, irow_size, ha, hb]
/-- Three results that lie in rows; two of two kinds. -/
theorem results_cell3_row {P : Program} {fn : Func} {p q r : Tmp} {ty : TypeId} (h : fn.results = #[.cell p ty, .cell q ty, .cell r ty]) (tmps : Array Value) (w : World) (g k m : Nat) (t u x : TypeId) (cs ds es : Array Value) (fr gr er : Nat × Nat) (d : TypeDesc)
    (hp : tmps.getD p undef = .pointer (some ⟨g, 0, none⟩)) (hq : tmps.getD q undef = .pointer (some ⟨k, 0, none⟩)) (hr : tmps.getD r undef = .pointer (some ⟨m, 0, none⟩)) (hg : w.heap[g]? = some (.cells cs t fr)) (hk : w.heap[k]? = some (.cells ds u gr)) (hm : w.heap[m]? = some (.cells es x er))
    (hu : P.underlying ty = some d) (hd : (match d with | .struct _ | .array _ _ => true | _ => false) = true) (hi : (P.info? ty).map (·.size) = some cs.size) (hj : (P.info? ty).map (·.size) = some ds.size) (hl : (P.info? ty).map (·.size) = some es.size) :
    (results fn tmps).run P w = .ok (.tuple #[.agg cs, .agg ds, .agg es]) w := by
  have hp' : tmps[p]?.getD undef = .pointer (some ⟨g, 0, none⟩) := by simpa using hp
  have hq' : tmps[q]?.getD undef = .pointer (some ⟨k, 0, none⟩) := by simpa using hq
  have hr' : tmps[r]?.getD undef = .pointer (some ⟨m, 0, none⟩) := by simpa using hr
  simp [results, h, hp', hq', hr', asAddr, run_loadVar_row w g t ty cs fr d hg hu hd hi, run_loadVar_row w k u ty ds gr d hk hu hd hj, run_loadVar_row w m x ty es er d hm hu hd hl]
theorem results_cell_cell {P : Program} {fn : Func} {p q : Tmp} {ty tz : TypeId} (h : fn.results = #[.cell p ty, .cell q tz]) (tmps : Array Value) (w : World) (g k : Nat) (t u : TypeId) (cs ds : Array Value) (fr gr : Nat × Nat) (d d2 : TypeDesc)
    (hp : tmps.getD p undef = .pointer (some ⟨g, 0, none⟩)) (hq : tmps.getD q undef = .pointer (some ⟨k, 0, none⟩)) (hg : w.heap[g]? = some (.cells cs t fr)) (hk : w.heap[k]? = some (.cells ds u gr))
    (hu : P.underlying ty = some d) (hd : (match d with | .struct _ | .array _ _ => true | _ => false) = true) (hu2 : P.underlying tz = some d2) (hd2 : (match d2 with | .struct _ | .array _ _ => true | _ => false) = true) (hi : (P.info? ty).map (·.size) = some cs.size) (hj : (P.info? tz).map (·.size) = some ds.size) :
    (results fn tmps).run P w = .ok (.tuple #[.agg cs, .agg ds]) w := by
  have hp' : tmps[p]?.getD undef = .pointer (some ⟨g, 0, none⟩) := by simpa using hp
  have hq' : tmps[q]?.getD undef = .pointer (some ⟨k, 0, none⟩) := by simpa using hq
  simp [results, h, hp', hq', asAddr, run_loadVar_row w g t ty cs fr d hg hu hd hi, run_loadVar_row w k u tz ds gr d2 hk hu2 hd2 hj]
theorem sl_0 (g : Nat) (W : World) : (Instr.sliceAt 67 (.slice (some ⟨g, 0, none⟩) 96 96) none (some (.int .i64 32)) none).run Tryd.prog W = .ok (.slice (some ⟨g, 0, none⟩) 32 96) W := by kernel_rfl
theorem sl_1 (g : Nat) (W : World) : (Instr.sliceAt 67 (.slice (some ⟨g, 0, none⟩) 96 96) (some (.int .i64 32)) (some (.int .i64 64)) none).run Tryd.prog W = .ok (.slice (some ⟨g, 32, none⟩) 32 64) W := by kernel_rfl
theorem sl_2 (g : Nat) (W : World) : (Instr.sliceAt 67 (.slice (some ⟨g, 0, none⟩) 96 96) (some (.int .i64 64)) none none).run Tryd.prog W = .ok (.slice (some ⟨g, 64, none⟩) 32 32) W := by kernel_rfl
theorem sm_0 (g : Nat) (W : World) : (Instr.sliceAt 67 (.slice (some ⟨g, 0, none⟩) 48 48) none (some (.int .i64 32)) none).run Tryd.prog W = .ok (.slice (some ⟨g, 0, none⟩) 32 48) W := by kernel_rfl
theorem sm_1 (g : Nat) (W : World) : (Instr.sliceAt 67 (.slice (some ⟨g, 0, none⟩) 48 48) (some (.int .i64 32)) none none).run Tryd.prog W = .ok (.slice (some ⟨g, 32, none⟩) 16 16) W := by kernel_rfl
end Go.Proofs.YtilgicikcjcdjaaDoor

namespace Go.Proofs.YtilgicikcjcdjaaDoor
set_option maxRecDepth 100000
open Go Go.RowKit Go.Sort
attribute [local go_sem] setCell_drewN alloc_drewN


/-- A slice's room. -/
def vcap : Value → Nat
  | .slice _ _ c => c
  | _ => 0
end Go.Proofs.YtilgicikcjcdjaaDoor

namespace Go.Proofs.YtilgicikcjcdjaaDoor
set_option maxRecDepth 100000
open Go Go.RowKit Go.Sort
attribute [local go_sem] setCell_drewN alloc_drewN

/-- Where a walk shall stop. -/
def WpStay (p : Prop) : Prop := p
theorem wpList_stay {P : Program} {ops : Array Oper} {rest : List Oper} {a : Act} {w : World} {Q : Exit → Act → World → Prop} (h : WpStay (wpList P ops Q rest a w)) : wpList P ops Q rest a w := h
theorem eqKs (l : List Int) (hl : l.length = 32) (W : World) : (Op.equalIn 10000 26 (.agg (irow .u8 l)) (.agg (irow .u8 l))).run Tryd.prog W = .ok true W := by
  rw [eqK _ _ hl hl]; simp
end Go.Proofs.YtilgicikcjcdjaaDoor

namespace Go.Proofs.YtilgicikcjcdjaaDoor
set_option maxRecDepth 100000
open Go Go.RowKit Go.Sort
attribute [local go_sem] setCell_drewN alloc_drewN

/-- All blocks but one have stayed. -/
structure But (g : Nat) (w w' : World) : Prop where
  os : w'.os = w.os
  tape : w'.tape = w.tape
  output : w'.output = w.output
  size : w.heap.size ≤ w'.heap.size
  block : ∀ k, k < w.heap.size → k ≠ g → w'.heap[k]? = w.heap[k]?
theorem But.refl (g : Nat) (w : World) : But g w w := ⟨rfl, rfl, rfl, Nat.le_refl _, fun _ _ _ => rfl⟩
theorem But.trans {g : Nat} {a b c : World} (h : But g a b) (k : But g b c) : But g a c :=
  ⟨k.os.trans h.os, k.tape.trans h.tape, k.output.trans h.output, Nat.le_trans h.size k.size, fun i hi hg => (k.block i (Nat.lt_of_lt_of_le hi h.size) hg).trans (h.block i hi hg)⟩
theorem But.of {g : Nat} {w w' : World} (h : Below w.heap.size w w') : But g w w' := ⟨h.os, h.tape, h.output, h.size, fun k hk _ => h.block k hk⟩
theorem But.below {g B : Nat} {w w' : World} (h : But g w w') (h1 : B ≤ g) (h2 : B ≤ w.heap.size) : Below B w w' := ⟨h.os, h.tape, h.output, h.size, fun k hk => h.block k (by omega) (by omega)⟩
theorem But.after {g : Nat} {W w w' : World} (h0 : Below W.heap.size W w) (h1 : W.heap.size ≤ g) (h : But g w w') : Below W.heap.size W w' := h0.trans (h.below h1 h0.size)
theorem But.row {g : Nat} {w w' : World} (h : But g w w') {k : Nat} {o : Obj} (hk : w.heap[k]? = some o) (hg : k ≠ g) : w'.heap[k]? = some o :=
  (h.block k (Array.getElem?_eq_some_iff.1 hk).1 hg).trans hk
theorem But.set {g : Nat} (w : World) (v : Value) : But g w (w.setCell ⟨g, 0, none⟩ v) :=
  ⟨rfl, rfl, rfl, Nat.le_of_eq (by simp), fun k _ hk => heap_setCell_other w _ k v hk⟩
theorem results_slot_cell {P : Program} {fn : Func} {p q : Tmp} {ty : TypeId} (h : fn.results = #[.tmp q, .cell p ty]) (tmps : Array Value) (w : World) (g : Nat) (t : TypeId) (cs : Array Value) (fr : Nat × Nat) (d : TypeDesc)
    (hp : tmps.getD p undef = .pointer (some ⟨g, 0, none⟩)) (hg : w.heap[g]? = some (.cells cs t fr))
    (hu : P.underlying ty = some d) (hd : (match d with | .struct _ | .array _ _ => true | _ => false) = true) (hi : (P.info? ty).map (·.size) = some cs.size) :
    (results fn tmps).run P w = .ok (.tuple #[tmps.getD q undef, .agg cs]) w := by
  have hp' : tmps[p]?.getD undef = .pointer (some ⟨g, 0, none⟩) := by simpa using hp
  simp [results, h, hp', asAddr, run_loadVar_row w g t ty cs fr d hg hu hd hi]
theorem results_cell_slot {P : Program} {fn : Func} {p q : Tmp} {ty : TypeId} (h : fn.results = #[.cell p ty, .tmp q]) (tmps : Array Value) (w : World) (g : Nat) (t : TypeId) (cs : Array Value) (fr : Nat × Nat) (d : TypeDesc)
    (hp : tmps.getD p undef = .pointer (some ⟨g, 0, none⟩)) (hg : w.heap[g]? = some (.cells cs t fr))
    (hu : P.underlying ty = some d) (hd : (match d with | .struct _ | .array _ _ => true | _ => false) = true) (hi : (P.info? ty).map (·.size) = some cs.size) :
    (results fn tmps).run P w = .ok (.tuple #[.agg cs, tmps.getD q undef]) w := by
  have hp' : tmps[p]?.getD undef = .pointer (some ⟨g, 0, none⟩) := by simpa using hp
  simp [results, h, hp', asAddr, run_loadVar_row w g t ty cs fr d hg hu hd hi]
/-- A chain's cells. -/
def chc (key : List Int) (n : Int) : Array Value := ((key.map (Value.int .u8)) ++ [Value.int .u32 n]).toArray
theorem chc_size (key : List Int) (hkl : key.length = 32) (n : Int) : (chc key n).size = 33 := by simp [chc, hkl]
theorem chc_one (key : List Int) (n : Int) : (chc key n).all (·.oneCell') = true := by
  simp [chc, Value.oneCell']
theorem chc_key (key : List Int) (hkl : key.length = 32) (n : Int) : (chc key n).extract 0 (0 + (irow .u8 key).size) = (irow .u8 key) := by
  apply Array.ext'
  simp [chc, irow, hkl]
theorem chc_n (key : List Int) (hkl : key.length = 32) (n : Int) : (chc key n)[32]? = some (.int .u32 n) := by
  simp [chc, hkl]
theorem infoC (key : List Int) (hkl : key.length = 32) (n : Int) : (Tryd.prog.info? 48).map (·.size) = some (chc key n).size := by
  rw [chc_size key hkl]; kernel_rfl
theorem infoR (key : List Int) (hkl : key.length = 32) (n : Int) : (Tryd.prog.info? 29).map (·.size) = some (chc key n).size := by
  rw [chc_size key hkl]; kernel_rfl
theorem ovw_mid : ∀ (c pre a b : List Value), a.length = c.length → ovw (pre ++ (a ++ b)).toArray pre.length c = (pre ++ (c ++ b)).toArray
  | [], pre, a, b, h => by
    obtain rfl : a = [] := List.length_eq_zero_iff.1 h
    rfl
  | v :: r, pre, [], b, h => by simp at h
  | v :: r, pre, x :: a, b, h => by
    have e : (pre ++ (x :: a ++ b)).toArray.setIfInBounds pre.length v = (pre ++ [v] ++ (a ++ b)).toArray := by simp
    have i := ovw_mid r (pre ++ [v]) a b (by simpa using h)
    rw [ovw, e]
    simp only [List.length_append, List.length_cons, List.length_nil, List.append_assoc] at i ⊢
    exact i
theorem chc_setk (key k2 : List Int) (hkl : key.length = 32) (h2 : k2.length = 32) (n : Int) : ovw (chc key n) 0 (irow .u8 k2).toList = chc k2 n := ovw_mid (k2.map (Value.int .u8)) [] (key.map (Value.int .u8)) [.int .u32 n] (by simp [hkl, h2])
theorem len32 (l : List Int) (h : l.length = 32) : ∃ x0 x1 x2 x3 x4 x5 x6 x7 x8 x9 x10 x11 x12 x13 x14 x15 x16 x17 x18 x19 x20 x21 x22 x23 x24 x25 x26 x27 x28 x29 x30 x31, l = [x0, x1, x2, x3, x4, x5, x6, x7, x8, x9, x10, x11, x12, x13, x14, x15, x16, x17, x18, x19, x20, x21, x22, x23, x24, x25, x26, x27, x28, x29, x30, x31] := by
  match l, h with
  | [x0, x1, x2, x3, x4, x5, x6, x7, x8, x9, x10, x11, x12, x13, x14, x15, x16, x17, x18, x19, x20, x21, x22, x23, x24, x25, x26, x27, x28, x29, x30, x31], _ => exact ⟨x0, x1, x2, x3, x4, x5, x6, x7, x8, x9, x10, x11, x12, x13, x14, x15, x16, x17, x18, x19, x20, x21, x22, x23, x24, x25, x26, x27, x28, x29, x30, x31, rfl⟩
theorem chc_setn (key : List Int) (hkl : key.length = 32) (n m : Int) : (chc key n).setIfInBounds 32 (.int .u32 m) = chc key m := by
  apply Array.ext'
  simp [chc, hkl]
theorem builtC (key : List Int) (hkl : key.length = 32) (n : Int) : Tryd.prog.built 48 [(0, .agg (irow .u8 key)), (1, .int .u32 n)] = some (chc key n) := by
  obtain ⟨x0, x1, x2, x3, x4, x5, x6, x7, x8, x9, x10, x11, x12, x13, x14, x15, x16, x17, x18, x19, x20, x21, x22, x23, x24, x25, x26, x27, x28, x29, x30, x31, rfl⟩ := len32 key hkl
  kernel_rfl
theorem builtR (key : List Int) (hkl : key.length = 32) (n : Int) : Tryd.prog.built 29 [(0, .agg (irow .u8 key)), (1, .int .u32 n)] = some (chc key n) := by
  obtain ⟨x0, x1, x2, x3, x4, x5, x6, x7, x8, x9, x10, x11, x12, x13, x14, x15, x16, x17, x18, x19, x20, x21, x22, x23, x24, x25, x26, x27, x28, x29, x30, x31, rfl⟩ := len32 key hkl
  kernel_rfl
theorem zchc (W : World) : (Instr.alloc 48 true (.tuple #[])).run Tryd.prog W = .ok (.pointer (some ⟨W.heap.size, 0, none⟩)) (W.alloc (.cells (chc (zr 32) 0) 48)) := by kernel_rfl
theorem zchr (W : World) : (Instr.alloc 29 true (.tuple #[])).run Tryd.prog W = .ok (.pointer (some ⟨W.heap.size, 0, none⟩)) (W.alloc (.cells (chc (zr 32) 0) 29)) := by kernel_rfl
theorem bC (cs : Array Value) (W : World) : (Instr.box 48 (.agg cs)).run Tryd.prog W = .ok (.pointer (some ⟨W.heap.size, 0, none⟩)) (W.alloc (.cells cs 48)) := by kernel_rfl
theorem bR (cs : Array Value) (W : World) : (Instr.box 29 (.agg cs)).run Tryd.prog W = .ok (.pointer (some ⟨W.heap.size, 0, none⟩)) (W.alloc (.cells cs 29)) := by kernel_rfl
theorem cell_n {W : World} {g : Nat} (key : List Int) (hkl : key.length = 32) {n : Int} {t : TypeId} (h : W.heap[g]? = some (.cells (chc key n) t (0, 0))) : W.cell? ⟨g, 32, none⟩ = some (.int .u32 n) := by
  rw [cell_of_row W g 32 _ _ _ h, chc_n key hkl]
set_option maxRecDepth 100000 in
set_option maxHeartbeats 4000000 in
theorem a_New (key : List Int) (hkl : key.length = 32) (n : Int) (w : World) : Calls Tryd.prog 4 #[.agg (irow .u8 key), .int .u32 n] w fun e w' => ∃ g, e = .returned (.pointer (some ⟨g, 0, none⟩)) ∧ w.heap.size ≤ g ∧ w'.heap[g]? = some (.cells (chc key n) 48 (0, 0)) ∧ Below w.heap.size w w' := by
  have R0 := hp1_0 w (.cells (irow .u8 key) 26)
  have hb := builtC key hkl n
  have RF := hp2_1 w (.cells (irow .u8 key) 26) (.cells (chc key n) 48)
  have hw : Below w.heap.size w ((w.alloc (.cells (irow .u8 key) 26)).alloc (.cells (chc key n) 48)) := ((Below.refl _ _).alloc (Nat.le_refl _) _).alloc (by simp) _
  go_enter Tryd.func4, Tryd.ntmps4
  go_wp2_with (first | (refine wpList_box rfl 26 _ rfl _ rfl (bK _) ?_) | (refine wpList_load_want rfl 26 _ rfl (w.heap.size) rfl 26 (irow .u8 key) (0, 0) _ R0 Tryd.underlying26 rfl (infok8 _ hkl) ?_) | (refine wpList_build_as rfl 48 _ rfl [(0, .agg (irow .u8 key)), (1, .int .u32 n)] rfl (chc key n) hb ?_) | (refine wpList_box rfl 48 _ rfl _ rfl (bC _) ?_) | fail)
  try simp only [size_alloc1, Act.put, List.setIfInBounds_toArray, List.set_cons_succ, List.set_cons_zero]
  go_ret
  exact ⟨_, rfl, Nat.le_succ _, RF, hw⟩
set_option maxRecDepth 100000 in
set_option maxHeartbeats 4000000 in
theorem a_Key (key : List Int) (hkl : key.length = 32) (n : Int) (w : World) (g : Nat) (rM : w.heap[g]? = some (.cells (chc key n) 48 (0, 0))) : Calls Tryd.prog 5 #[.pointer (some ⟨g, 0, none⟩)] w fun e w' => e = .returned (.agg (irow .u8 key)) ∧ Below w.heap.size w w' := by
  have Z := (.cells (irow .u8 (zr 32)) 26 : Obj)
  have R0 := hp1_0 w (.cells (irow .u8 (zr 32)) 26)
  have hba : Below w.heap.size w (w.alloc (.cells (irow .u8 (zr 32)) 26)) := (Below.refl _ _).alloc (Nat.le_refl _) _
  have r1 := keep hba rM
  go_enter Tryd.func5, Tryd.ntmps5
  go_wp2_with (first | (refine wpList_alloc rfl 26 rfl (irow .u8 (zr 32)) zkey ?_) | (refine wpList_load_part rfl 26 _ rfl (g) 0 rfl 48 (chc key n) (0, 0) (irow .u8 key) _ r1 (chc_key _ hkl _) Tryd.underlying26 rfl (infok8 _ hkl) ?_) | (refine wpList_store_row rfl 26 _ _ rfl (w.heap.size) (irow .u8 key) rfl rfl 26 _ R0 (infok8 _ hkl) (fit32 _ _ (zr_len 32) hkl) (irow_one _ _) ?_) | fail)
  exact bodyPost_ret (results_cell_row Tryd.results5 _ _ w.heap.size _ _ _ _ rfl (setRow_heap _ w.heap.size _ (irow .u8 key) _ _ R0) Tryd.underlying26 rfl (infok8 _ hkl)) rfl ⟨rfl, below_setRow hba (Nat.le_refl _) (irow .u8 key)⟩
set_option maxRecDepth 100000 in
set_option maxHeartbeats 4000000 in
theorem a_N (key : List Int) (hkl : key.length = 32) (n : Int) (w : World) (g : Nat) (rM : w.heap[g]? = some (.cells (chc key n) 48 (0, 0))) : Calls Tryd.prog 6 #[.pointer (some ⟨g, 0, none⟩)] w fun e w' => e = .returned (.int .u32 n) ∧ Below w.heap.size w w' := by
  have c0 := cell_n key hkl rM
  go_enter Tryd.func6, Tryd.ntmps6
  go_wp2_with (fail)
  go_ret
  exact ⟨rfl, Below.refl _ _⟩
set_option maxRecDepth 100000 in
set_option maxHeartbeats 4000000 in
theorem a_left (key : List Int) (hkl : key.length = 32) (n : Int) (hn0 : 0 ≤ n) (hn1 : n ≤ 4294967295) (w : World) (g : Nat) (rM : w.heap[g]? = some (.cells (chc key n) 48 (0, 0))) : Calls Tryd.prog 13 #[.pointer (some ⟨g, 0, none⟩)] w fun e w' => e = .returned (.int .i64 (4294967295 - n)) ∧ w' = w := by
  have c0 := cell_n key hkl rM
  go_enter Tryd.func13, Tryd.ntmps13
  go_wp2_with (fail)
  go_ret
  exact ⟨by go_num, rfl⟩
theorem but_row {g : Nat} {w w' : World} (h : But g w w') (k : Nat) (cs : Array Value) (hk : w.heap.size ≤ k ∨ k = g) : But g w (w'.setRow k cs) :=
  ⟨h.os, h.tape, h.output, by rw [setRow_size]; exact h.size, fun j hj hg => (setRow_other w' k j cs (by omega)).trans (h.block j hj hg)⟩
set_option maxRecDepth 100000 in
set_option maxHeartbeats 4000000 in
theorem a_step_aux (key A2 A1 : List Int) (hkl : key.length = 32) (l2 : A2.length = 32) (l1 : A1.length = 32) (n : Int) (hn0 : 0 ≤ n) (hn1 : n ≤ 4294967294) (w : World) (g : Nat) (rM : w.heap[g]? = some (.cells (chc key n) 48 (0, 0)))
    (cS : ∀ V, Below w.heap.size w V → Calls Tryd.prog 21 #[.agg (irow .u8 key)] V fun e w' => e = .returned (.tuple #[.agg (irow .u8 A2), .agg (irow .u8 A1)]) ∧ Below V.heap.size V w') :
    Calls Tryd.prog 14 #[.pointer (some ⟨g, 0, none⟩)] w fun e w' => e = .returned (.tuple #[.int .u32 n, .agg (irow .u8 A1)]) ∧ w'.heap[g]? = some (.cells (chc A2 (n + 1)) 48 (0, 0)) ∧ But g w w' := by
  have R0 := hp1_0 w (.cells (irow .u8 (zr 32)) 26)
  have hw : Below w.heap.size w (w.alloc (.cells (irow .u8 (zr 32)) 26)) := (Below.refl _ _).alloc (Nat.le_refl _) _
  have hgl := lt_of_row rM
  replace rM := keep hw rM
  have hl0 : w.heap.size < (w.alloc (.cells (irow .u8 (zr 32)) 26)).heap.size := lt_of_row R0
  go_enter Tryd.func14, Tryd.ntmps14
  go_wp2_with (first | (refine wpList_alloc rfl 26 rfl (irow .u8 (zr 32)) zkey ?_) | (refine wpList_load_part rfl 26 _ rfl (g) 0 rfl 48 (chc key n) (0, 0) (irow .u8 key) _ rM (chc_key _ hkl _) Tryd.underlying26 rfl (infok8 _ hkl) ?_) | fail)
  try simp only [size_alloc1, Act.put, List.setIfInBounds_toArray, List.set_cons_succ, List.set_cons_zero]
  generalize w.alloc (.cells (irow .u8 (zr 32)) 26) = w0 at *
  refine (cS w0 hw).mono ?_
  rintro e_ w1 ⟨rfl, hb⟩
  have hs1 := hb.size
  replace R0 := keep hb R0
  replace rM := keep hb rM
  replace hw := Below.after hw hb
  clear hb cS
  have zc0 := hp2_0 w1 (.cells (irow .u8 (zr 32)) 26) (.cells (irow .u8 (zr 32)) 26)
  have zc1 := hp2_1 w1 (.cells (irow .u8 (zr 32)) 26) (.cells (irow .u8 (zr 32)) 26)
  have yc00 := setRow_heap ((w1.alloc (.cells (irow .u8 (zr 32)) 26)).alloc (.cells (irow .u8 (zr 32)) 26)) (w1.heap.size) _ (irow .u8 A2) _ _ zc0
  have yc01 := (setRow_other ((w1.alloc (.cells (irow .u8 (zr 32)) 26)).alloc (.cells (irow .u8 (zr 32)) 26)) (w1.heap.size) (w1.heap.size + 1) (irow .u8 A2) (by omega)).trans zc1
  have yc10 := (setRow_other (((w1.alloc (.cells (irow .u8 (zr 32)) 26)).alloc (.cells (irow .u8 (zr 32)) 26)).setRow (w1.heap.size) (irow .u8 A2)) (w1.heap.size + 1) (w1.heap.size) (irow .u8 A1) (by omega)).trans yc00
  have yc11 := setRow_heap (((w1.alloc (.cells (irow .u8 (zr 32)) 26)).alloc (.cells (irow .u8 (zr 32)) 26)).setRow (w1.heap.size) (irow .u8 A2)) (w1.heap.size + 1) _ (irow .u8 A1) _ _ yc01
  have hbF : Below w1.heap.size w1 ((((w1.alloc (.cells (irow .u8 (zr 32)) 26)).alloc (.cells (irow .u8 (zr 32)) 26)).setRow (w1.heap.size) (irow .u8 A2)).setRow (w1.heap.size + 1) (irow .u8 A1)) := (below_setRow (below_setRow (((Below.refl _ _).alloc (Nat.le_refl _) _).alloc (by simp) _) (show w1.heap.size ≤ w1.heap.size by omega) (irow .u8 A2)) (show w1.heap.size ≤ w1.heap.size + 1 by omega) (irow .u8 A1))
  go_wp2_with (first | (refine wpList_alloc rfl 26 rfl (irow .u8 (zr 32)) zkey ?_) | (refine wpList_store_row rfl 26 _ _ rfl (w1.heap.size) (irow .u8 A2) rfl rfl 26 _ zc0 (infok8 _ l2) (fit32 _ _ (zr_len 32) l2) (irow_one _ _) ?_; refine wpList_stay ?_) | fail)
  unfold WpStay
  go_wp2_with (first | (refine wpList_store_row rfl 26 _ _ rfl (w1.heap.size + 1) (irow .u8 A1) rfl rfl 26 _ yc01 (infok8 _ l1) (fit32 _ _ (zr_len 32) l1) (irow_one _ _) ?_; refine wpList_stay ?_) | fail)
  unfold WpStay
  replace R0 := keep hbF R0
  replace rM := keep hbF rM
  replace hw := Below.after hw hbF
  clear hbF zc0 zc1 yc00 yc01
  generalize ((((w1.alloc (.cells (irow .u8 (zr 32)) 26)).alloc (.cells (irow .u8 (zr 32)) 26)).setRow (w1.heap.size) (irow .u8 A2)).setRow (w1.heap.size + 1) (irow .u8 A1)) = w2 at *
  generalize w1.heap.size = g1 at *
  have c0 := cell_n key hkl rM
  have k0 := setRow_heap w2 g _ (chc A2 n) _ _ rM
  have c3 := cell_n A2 l2 k0
  have f3 : (w2.setRow g (chc A2 n)).frozen? ⟨g, 32, none⟩ = false := by simp [World.frozen?, k0]
  go_wp2_with (first | (refine wpList_load_want rfl 26 _ rfl (g1) rfl 26 (irow .u8 A2) (0, 0) _ yc10 Tryd.underlying26 rfl (infok8 _ l2) ?_) | (refine wpList_store_part rfl 26 _ _ rfl g 0 (irow .u8 A2) rfl rfl 48 _ (chc A2 n) rM (by rw [irow_size, l2, chc_size key hkl]; decide) (chc_setk key A2 hkl l2 n) (infok8 _ l2) (irow_one _ _) ?_; refine wpList_stay ?_) | fail)
  unfold WpStay
  go_wp2_with (fail)
  have e4 := setCell_eq_setRow (w2.setRow g (chc A2 n)) g 32 _ _ _ (.int .u32 (n + 1)) k0
  rw [chc_setn A2 l2] at e4
  rw [e4]
  have b4 := but_row (but_row (But.of hw) g (chc A2 n) (.inr rfl)) g (chc A2 (n + 1)) (.inr rfl)
  have r4 := setRow_heap _ g _ (chc A2 (n + 1)) _ _ k0
  replace R0 := (setRow_other (w2.setRow g (chc A2 n)) g w.heap.size (chc A2 (n + 1)) (by omega)).trans ((setRow_other w2 g w.heap.size (chc A2 n) (by omega)).trans R0)
  replace yc11 := (setRow_other (w2.setRow g (chc A2 n)) g (g1 + 1) (chc A2 (n + 1)) (by omega)).trans ((setRow_other w2 g (g1 + 1) (chc A2 n) (by omega)).trans yc11)
  clear e4 c0 c3 f3 k0 rM yc10
  generalize (w2.setRow g (chc A2 n)).setRow g (chc A2 (n + 1)) = w4 at *
  clear hw
  have hw := b4
  clear b4
  have hbd : Below w4.heap.size w4 w4.drew := below_drN (Below.refl _ _) 1
  replace R0 := keep hbd R0
  replace yc11 := keep hbd yc11
  replace r4 := keep hbd r4
  replace hw := But.trans hw (But.of hbd)
  clear hbd
  refine wp_region_noPanic ?_
  refine wp_region_held (S := fun W => W.heap[g1 + 1]? = some (.cells (irow .u8 A1) 26 (0, 0))) (by kernel_rfl) ?_
  change wpAnyH _ _ _ _ _ _ _ _ (World.drew _)
  generalize w4.drew = w5 at *
  refine wpAnyH_take (i := 0) (v := ?v1) rfl (by kernel_rfl) (by kernel_rfl) (by kernel_rfl) (fun _ _ _ h => h) (Or.inl ⟨by rfl, ?y1⟩) (yc11) ?r1
  case y1 =>
    intro w_ hS_
    go_simp
    try with_reducible rfl
  simp only [Act.put, List.getElem_toArray, List.getElem_cons_zero, List.setIfInBounds_toArray, List.set_cons_succ, List.set_cons_zero]
  refine wpAnyH_take (i := 1) (v := .agg (irow .u8 A1)) rfl (by kernel_rfl) (by kernel_rfl) (by kernel_rfl) (fun _ _ _ h => h) (Or.inl ⟨by rfl, ?y2⟩) (yc11) ?r2
  case y2 =>
    intro w_ hS_
    simp only [List.getElem_toArray, List.getElem_cons_succ, List.getElem_cons_zero]
    exact run_load_part 26 _ (by rfl) (g1 + 1) 0 (by rfl) 26 (irow .u8 A1) (0, 0) (irow .u8 A1) _ (hS_) (all_row _) Tryd.underlying26 rfl (infok8 _ l1)
  simp only [Act.put, List.getElem_toArray, List.getElem_cons_succ, List.getElem_cons_zero, List.setIfInBounds_toArray, List.set_cons_succ, List.set_cons_zero]
  refine wpAnyH_take (i := 2) (v := ?v3) rfl (by kernel_rfl) (by kernel_rfl) (by kernel_rfl) (fun _ _ _ h => h) (Or.inl ⟨by rfl, ?y3⟩) (yc11) ?r3
  case y3 =>
    intro w_ hS_
    go_simp
    try with_reducible rfl
  simp only [Act.put, List.getElem_toArray, List.getElem_cons_succ, List.getElem_cons_zero, List.setIfInBounds_toArray, List.set_cons_succ, List.set_cons_zero]
  refine wpAnyH_one (k := 3) (fuel := 0) (by kernel_rfl) rfl (by kernel_rfl) (fun K_ hK_ => ?_)
  refine wp_store_row 26 _ _ rfl w.heap.size (irow .u8 A1) rfl rfl 26 _ R0 (infok8 _ l1) (fit32 _ _ (zr_len 32) l1) (irow_one _ _) ?_
  replace yc11 := (setRow_other w5 w.heap.size (g1 + 1) (irow .u8 A1) (by omega)).trans yc11
  replace r4 := (setRow_other w5 w.heap.size g (irow .u8 A1) (by omega)).trans r4
  replace R0 := setRow_heap w5 w.heap.size _ (irow .u8 A1) _ _ R0
  replace hw := but_row hw w.heap.size (irow .u8 A1) (.inl (Nat.le_refl _))
  refine hK_ _ _ (yc11) ?_
  simp only [Act.put]
  clear hK_
  generalize w5.setRow w.heap.size (irow .u8 A1) = w6 at *
  refine wpAnyH_done (by kernel_rfl) ?_ _
  refine NoPanic.normal ?_
  go_wp2
  exact bodyPost_ret (results_slot_cell Tryd.results14 _ _ w.heap.size _ _ _ _ rfl R0 Tryd.underlying26 rfl (infok8 _ l1)) rfl ⟨rfl, r4, hw⟩
theorem a_step (key : List Int) (hkl : key.length = 32) (hkz : ∀ z ∈ key, 0 ≤ z ∧ z < 256) (n : Int) (hn0 : 0 ≤ n) (hn1 : n ≤ 4294967294) (w : World) (hS : Sta w) (hK : Kon w) (g : Nat) (rM : w.heap[g]? = some (.cells (chc key n) 48 (0, 0))) :
    Calls Tryd.prog 14 #[.pointer (some ⟨g, 0, none⟩)] w fun e w' => e = .returned (.tuple #[.int .u32 n, .agg (irow .u8 (hm key [1]))]) ∧ w'.heap[g]? = some (.cells (chc (hm key [2]) (n + 1)) 48 (0, 0)) ∧ But g w w' :=
  a_step_aux key (hm key [2]) (hm key [1]) hkl (hm_len _ _) (hm_len _ _) n hn0 hn1 w g rM (fun V h => a_Step key hkl hkz V (hS.below h) (hK.below h))
theorem zbt11 : Tryd.prog.built 26 [] = some (irow .u8 (zr 32)) := by kernel_rfl
set_option maxRecDepth 100000 in
set_option maxHeartbeats 4000000 in
theorem a_Next_end (key : List Int) (hkl : key.length = 32) (w : World) (g : Nat) (rM : w.heap[g]? = some (.cells (chc key 4294967295) 48 (0, 0))) :
    Calls Tryd.prog 9 #[.pointer (some ⟨g, 0, none⟩)] w fun e w' => e = .returned (.tuple #[.agg (irow .u8 (zr 32)), .int .i64 110]) ∧ Below w.heap.size w w' := by
  have R0 := hp1_0 w (.cells (irow .u8 (zr 32)) 26)
  have hw : Below w.heap.size w (w.alloc (.cells (irow .u8 (zr 32)) 26)) := (Below.refl _ _).alloc (Nat.le_refl _) _
  replace rM := keep hw rM
  go_enter Tryd.func9, Tryd.ntmps9
  go_wp2_with (first | (refine wpList_alloc rfl 26 rfl (irow .u8 (zr 32)) zkey ?_) | fail)
  try simp only [size_alloc1, Act.put, List.setIfInBounds_toArray, List.set_cons_succ, List.set_cons_zero]
  generalize w.alloc (.cells (irow .u8 (zr 32)) 26) = w0 at *
  refine (a_left key hkl 4294967295 (by decide) (by decide) w0 g rM).mono ?_
  rintro e_ wL ⟨rfl, hwl⟩
  rw [hwl]
  clear hwl wL
  go_wp2_with (first | (refine wpList_build_as rfl 26 _ rfl [] rfl (irow .u8 (zr 32)) zbt11 ?_) | (refine wpList_store_row rfl 26 _ _ rfl (w.heap.size) (irow .u8 (zr 32)) rfl rfl 26 _ R0 (infok8 _ (zr_len 32)) rfl (irow_one _ _) ?_) | fail)
  exact bodyPost_ret (results_cell_slot Tryd.results9 _ _ w.heap.size _ _ _ _ rfl (setRow_heap _ w.heap.size _ (irow .u8 (zr 32)) _ _ R0) Tryd.underlying26 rfl (infok8 _ (zr_len 32))) rfl ⟨rfl, below_setRow hw (Nat.le_refl _) _⟩
set_option maxRecDepth 100000 in
set_option maxHeartbeats 4000000 in
theorem a_Next_aux (key A2 A1 : List Int) (hkl : key.length = 32) (l1 : A1.length = 32) (n : Int) (hn0 : 0 ≤ n) (hn1 : n ≤ 4294967294) (w : World) (g : Nat) (rM : w.heap[g]? = some (.cells (chc key n) 48 (0, 0)))
    (cS : ∀ V, Below w.heap.size w V → Calls Tryd.prog 14 #[.pointer (some ⟨g, 0, none⟩)] V fun e w' => e = .returned (.tuple #[.int .u32 n, .agg (irow .u8 A1)]) ∧ w'.heap[g]? = some (.cells (chc A2 (n + 1)) 48 (0, 0)) ∧ But g V w') :
    Calls Tryd.prog 9 #[.pointer (some ⟨g, 0, none⟩)] w fun e w' => e = .returned (.tuple #[.agg (irow .u8 A1), .int .i64 0]) ∧ w'.heap[g]? = some (.cells (chc A2 (n + 1)) 48 (0, 0)) ∧ But g w w' := by
  have R0 := hp1_0 w (.cells (irow .u8 (zr 32)) 26)
  have hw : Below w.heap.size w (w.alloc (.cells (irow .u8 (zr 32)) 26)) := (Below.refl _ _).alloc (Nat.le_refl _) _
  have hgl := lt_of_row rM
  replace rM := keep hw rM
  have hd : ((4294967295 - n) == 0) = false := by simp; omega
  have hd2 : decide (4294967295 - n = 0) = false := by simp; omega
  go_enter Tryd.func9, Tryd.ntmps9
  go_wp2_with (first | (refine wpList_alloc rfl 26 rfl (irow .u8 (zr 32)) zkey ?_) | fail)
  try simp only [size_alloc1, Act.put, List.setIfInBounds_toArray, List.set_cons_succ, List.set_cons_zero]
  generalize w.alloc (.cells (irow .u8 (zr 32)) 26) = w0 at *
  refine (a_left key hkl n hn0 (by omega) w0 g rM).mono ?_
  rintro e_ wL ⟨rfl, hwl⟩
  rw [hwl]
  clear hwl wL
  go_wp2_with (fail)
  refine (cS w0 hw).mono ?_
  rintro e_ w1 ⟨rfl, r1, hb⟩
  have lR := lt_of_row R0
  replace R0 := hb.row R0 (by omega)
  have hB := (But.of (g := g) hw).trans hb
  have hs0 := hw.size
  have hs1 := hb.size
  clear hb hd hd2 rM
  have zd0 := hp1_0 w1 (.cells (irow .u8 (zr 32)) 26)
  have yd00 := setRow_heap (w1.alloc (.cells (irow .u8 (zr 32)) 26)) (w1.heap.size) _ (irow .u8 A1) _ _ zd0
  have hbF : Below w1.heap.size w1 ((w1.alloc (.cells (irow .u8 (zr 32)) 26)).setRow (w1.heap.size) (irow .u8 A1)) := (below_setRow ((Below.refl _ _).alloc (Nat.le_refl _) _) (show w1.heap.size ≤ w1.heap.size by omega) (irow .u8 A1))
  have R0k := keep hbF R0
  have r1k := keep hbF r1
  have RF := setRow_heap ((w1.alloc (.cells (irow .u8 (zr 32)) 26)).setRow (w1.heap.size) (irow .u8 A1)) w.heap.size _ (irow .u8 A1) _ _ R0k
  have rF := (setRow_other ((w1.alloc (.cells (irow .u8 (zr 32)) 26)).setRow (w1.heap.size) (irow .u8 A1)) w.heap.size g (irow .u8 A1) (by omega)).trans r1k
  have BF := but_row (hB.trans (But.of hbF)) w.heap.size (irow .u8 A1) (.inl (Nat.le_refl _))
  go_wp2_with (first | (refine wpList_alloc rfl 26 rfl (irow .u8 (zr 32)) zkey ?_) | (refine wpList_store_row rfl 26 _ _ rfl (w1.heap.size) (irow .u8 A1) rfl rfl 26 _ zd0 (infok8 _ l1) (fit32 _ _ (zr_len 32) l1) (irow_one _ _) ?_; refine wpList_stay ?_) | fail)
  unfold WpStay
  generalize ((w1.alloc (.cells (irow .u8 (zr 32)) 26)).setRow (w1.heap.size) (irow .u8 A1)) = w3 at *
  go_wp2_with (first | (refine wpList_load_want rfl 26 _ rfl (w1.heap.size) rfl 26 (irow .u8 A1) (0, 0) _ yd00 Tryd.underlying26 rfl (infok8 _ l1) ?_) | (refine wpList_store_row rfl 26 _ _ rfl (w.heap.size) (irow .u8 A1) rfl rfl 26 _ R0k (infok8 _ l1) (fit32 _ _ (zr_len 32) l1) (irow_one _ _) ?_) | fail)
  exact bodyPost_ret (results_cell_slot Tryd.results9 _ _ w.heap.size _ _ _ _ rfl RF Tryd.underlying26 rfl (infok8 _ l1)) rfl ⟨rfl, rF, BF⟩
theorem a_Next (key : List Int) (hkl : key.length = 32) (hkz : ∀ z ∈ key, 0 ≤ z ∧ z < 256) (n : Int) (hn0 : 0 ≤ n) (hn1 : n ≤ 4294967294) (w : World) (hS : Sta w) (hK : Kon w) (g : Nat) (rM : w.heap[g]? = some (.cells (chc key n) 48 (0, 0))) :
    Calls Tryd.prog 9 #[.pointer (some ⟨g, 0, none⟩)] w fun e w' => e = .returned (.tuple #[.agg (irow .u8 (hm key [1])), .int .i64 0]) ∧ w'.heap[g]? = some (.cells (chc (hm key [2]) (n + 1)) 48 (0, 0)) ∧ But g w w' :=
  a_Next_aux key (hm key [2]) (hm key [1]) hkl (hm_len _ _) n hn0 hn1 w g rM (fun V h => a_step key hkl hkz n hn0 hn1 V (hS.below h) (hK.below h) g (keep h rM))

end Go.Proofs.YtilgicikcjcdjaaDoor

namespace Go.Proofs.YtilgicikcjcdjaaDoor
set_option maxRecDepth 100000
open Go Go.RowKit Go.Sort
attribute [local go_sem] setCell_drewN alloc_drewN

/-- The chain's key behind so many steps; the messages' keys. -/
def kat (key : List Int) : Nat → List Int
  | 0 => key
  | (i + 1) => hm (kat key i) [2]
def mat (key : List Int) (i : Nat) : List Int := hm (kat key i) [1]
theorem kat_len {key : List Int} (h : key.length = 32) : ∀ i, (kat key i).length = 32
  | 0 => h
  | (_ + 1) => hm_len _ _
theorem kat_bd {key : List Int} (h : ∀ z ∈ key, 0 ≤ z ∧ z < 256) : ∀ i, ∀ z ∈ kat key i, 0 ≤ z ∧ z < 256
  | 0 => h
  | (_ + 1) => hm_bd _ _
theorem mat_len (key : List Int) (i : Nat) : (mat key i).length = 32 := hm_len _ _
theorem mat_bd (key : List Int) (i : Nat) : ∀ z ∈ mat key i, 0 ≤ z ∧ z < 256 := hm_bd _ _
theorem kat_kat (key : List Int) (i : Nat) : ∀ j, kat (kat key i) j = kat key (i + j)
  | 0 => rfl
  | (j + 1) => by rw [kat, kat_kat key i j]; rfl
theorem mat_kat (key : List Int) (i j : Nat) : mat (kat key i) j = mat key (i + j) := by unfold mat; rw [kat_kat]
set_option maxRecDepth 100000 in
set_option maxHeartbeats 4000000 in
theorem a_steps1 (key : List Int) (hkl : key.length = 32) (hkz : ∀ z ∈ key, 0 ≤ z ∧ z < 256) (n : Int) (hn0 : 0 ≤ n) (cnt : Int) (m : Nat) (hc : cnt.toNat = m) (hm : n + (m : Int) ≤ 4294967295) (c cb sb l : Nat) (J Jx : Nat → World → Prop)
    (hJr : ∀ i A, J i A → Sta A ∧ Kon A ∧ A.heap[cb]? = some (.cells #[.int .i64 cnt] 2 (0, 0)) ∧ A.heap[sb]? = some (.cells #[.func (.func 14) #[.pointer (some ⟨c, 0, none⟩)] #[]] 51 (0, 0)) ∧ A.heap[c]? = some (.cells (chc (kat key i) (n + (i : Int))) 48 (0, 0)))
    (hY : ∀ (i : Nat) A C, i < m → J i A → But c A C → C.heap[c]? = some (.cells (chc (kat key (i + 1)) (n + (i : Int) + 1)) 48 (0, 0)) → YieldAt Fence.wide 2 Tryd.prog l #[.int .u32 (n + (i : Int)), .agg (irow .u8 (mat key i))] C fun e C' => (e = .returned (.bool true) ∧ J (i + 1) C') ∨ (e = .returned (.bool false) ∧ Jx (i + 1) C'))
    (w : World) (h0 : J 0 w) :
    Calls Tryd.prog 29 #[.func (.yield l) #[] #[], .pointer (some ⟨cb, 0, none⟩), .pointer (some ⟨sb, 0, none⟩)] w fun e w' => (∃ r, e = .returned r) ∧ (J m w' ∨ ∃ i, i < m ∧ Jx (i + 1) w') := by
  obtain ⟨_, _, r1, _, _⟩ := hJr _ _ h0
  have c1 : w.cell? ⟨cb, 0, none⟩ = some (.int .i64 cnt) := by rw [cell_of_row _ cb 0 _ _ _ r1]; rfl
  clear r1
  have eS := enters_of (P := Tryd.prog) Tryd.func14 (by kernel_rfl) rfl
  go_enter Tryd.func29, Tryd.ntmps29
  go_wp2_with (fail)
  go_loopw [5] (fun a0 wr => ∃ i : Nat, i ≤ m ∧ a0 = .int .i64 (i : Int) ∧ J i wr) (fun a0 _ => m - (intOf a0).toNat)
  case atStart => exact ⟨0, by omega, rfl, h0⟩
  case round =>
    obtain ⟨i, hi, rfl, hJ⟩ := hrel
    clear h0 c1
    obtain ⟨f0, f4, r1, r2, r3⟩ := hJr _ _ hJ
    have c2 : wr.cell? ⟨sb, 0, none⟩ = some (.func (.func 14) #[.pointer (some ⟨c, 0, none⟩)] #[]) := by rw [cell_of_row _ sb 0 _ _ _ r2]; rfl
    by_cases hlt : i < m
    · have hd : decide ((i : Int) < cnt) = true := by simp; omega
      have cS := a_step (kat key i) (kat_len hkl i) (kat_bd hkz i) (n + (i : Int)) (by omega) (by omega) wr f0 f4 c r3
      refine (wpIn_wide (n := 3)).1 ?_
      gi_wp2_with (fail)
      refine ⟨trivial, callsIn_wide.2 (cS.mono ?_)⟩
      rintro e_ w1 ⟨rfl, q1, q2⟩
      obtain ⟨fn, tmps, assign, body, hy, hRd⟩ := hY i wr w1 hlt hJ q2 q1
      rw [mat] at hy
      gi_wp2_with (fail)
      refine hRd.mono ?_
      clear hRd hy cS
      rintro e_ w7 (⟨rfl, hJ7⟩ | ⟨rfl, hJx7⟩)
      · gi_wp2_with (fail)
        refine ⟨⟨i + 1, by omega, by go_num, hJ7⟩, ?_⟩
        simp [intOf]; omega
      · gi_wp2_with (fail)
        refine bodyPost_ret (results_none rfl _ _ _) rfl ?_
        exact ⟨⟨_, rfl⟩, .inr ⟨i, hlt, hJx7⟩⟩
    · obtain rfl : i = m := by omega
      have hd : decide ((i : Int) < cnt) = false := by simp; omega
      go_wp2_with (fail)
      refine bodyPost_end (results_none rfl _ _ _) rfl ?_
      exact ⟨⟨_, rfl⟩, .inl hJ⟩
theorem bF (v : Value) (W : World) : (Instr.box 51 v).run Tryd.prog W = .ok (.pointer (some ⟨W.heap.size, 0, none⟩)) (W.alloc (.cells v.cells 51)) := by kernel_rfl
set_option maxRecDepth 100000 in
set_option maxHeartbeats 4000000 in
theorem a_steps (g : Nat) (k : Int) (w : World) : Calls Tryd.prog 23 #[.func (.func 14) #[.pointer (some ⟨g, 0, none⟩)] #[], .int .i64 k] w fun e w' => e = .returned (.func (.func 29) #[] #[.pointer (some ⟨w.heap.size + 1, 0, none⟩), .pointer (some ⟨w.heap.size, 0, none⟩)]) ∧ w' = (w.alloc (.cells #[.func (.func 14) #[.pointer (some ⟨g, 0, none⟩)] #[]] 51)).alloc (.cells #[.int .i64 k] 2) := by
  go_enter Tryd.func23, Tryd.ntmps23
  go_wp2_with (fail)
  try simp only [size_alloc1, Act.put, List.setIfInBounds_toArray, List.set_cons_succ, List.set_cons_zero]
  go_ret
  exact ⟨rfl, rfl⟩
set_option maxRecDepth 100000 in
set_option maxHeartbeats 4000000 in
theorem a_Ahead (g : Nat) (k : Int) (w : World) : Calls Tryd.prog 20 #[.pointer (some ⟨g, 0, none⟩), .int .i64 k] w fun e w' => e = .returned (.func (.func 24) #[] #[.pointer (some ⟨w.heap.size, 0, none⟩), .pointer (some ⟨w.heap.size + 1, 0, none⟩)]) ∧ w' = (w.alloc (.cells #[.pointer (some ⟨g, 0, none⟩)] 23)).alloc (.cells #[.int .i64 k] 3) := by
  go_enter Tryd.func20, Tryd.ntmps20
  go_wp2_with (fail)
  try simp only [size_alloc1, Act.put, List.setIfInBounds_toArray, List.set_cons_succ, List.set_cons_zero]
  go_ret
  exact ⟨rfl, rfl⟩
theorem run_min (a b : Int) (ts : Array TypeId) (ty : TypeId) (W : World) : (Builtin.min_ ts ty #[.int .i64 a, .int .i64 b]).run Tryd.prog W = .ok (.int .i64 (min a b)) W := by
  by_cases h : b < a
  · simp [Builtin.min_, Builtin.min2, h, Int.min_eq_right (Int.le_of_lt h)]
  · have h2 : a ≤ b := by omega
    have h' : ¬ b < a := by omega
    simp [Builtin.min_, Builtin.min2, h', Int.min_eq_left h2]
/-- How many messages are ahead. -/
def ahm (n k : Int) : Nat := (min k (4294967295 - n)).toNat
set_option maxRecDepth 100000 in
set_option maxHeartbeats 4000000 in
theorem a_ahead1 (key : List Int) (hkl : key.length = 32) (hkz : ∀ z ∈ key, 0 ≤ z ∧ z < 256) (n : Int) (hn0 : 0 ≤ n) (hn1 : n ≤ 4294967295) (k : Int) (c cbx nbx l : Nat) (J Jx : Nat → World → Prop) (w : World)
    (rcb : w.heap[cbx]? = some (.cells #[.pointer (some ⟨c, 0, none⟩)] 23 (0, 0))) (rnb : w.heap[nbx]? = some (.cells #[.int .i64 k] 3 (0, 0))) (rc : w.heap[c]? = some (.cells (chc key n) 48 (0, 0)))
    (hJS : ∀ i A, J i A → Sta A ∧ Kon A)
    (hJb : ∀ i A C, J i A → But w.heap.size A C → w.heap.size + 3 ≤ A.heap.size → J i C)
    (h0 : ∀ C, Below w.heap.size w C → w.heap.size + 3 ≤ C.heap.size → J 0 C)
    (hY : ∀ (i : Nat) A, i < ahm n k → J i A → w.heap.size + 3 ≤ A.heap.size → YieldAt Fence.wide 2 Tryd.prog l #[.int .u32 (n + (i : Int)), .agg (irow .u8 (mat key i))] A fun e A' => (e = .returned (.bool true) ∧ J (i + 1) A' ∧ A.heap.size ≤ A'.heap.size ∧ ∀ g, w.heap.size ≤ g → g < w.heap.size + 3 → A'.heap[g]? = A.heap[g]?) ∨ (e = .returned (.bool false) ∧ Jx (i + 1) A')) :
    Calls Tryd.prog 24 #[.func (.yield l) #[] #[], .pointer (some ⟨cbx, 0, none⟩), .pointer (some ⟨nbx, 0, none⟩)] w fun e w' => (∃ r, e = .returned r) ∧ (J (ahm n k) w' ∨ ∃ i, i < ahm n k ∧ Jx (i + 1) w') := by
  have hm : n + (ahm n k : Int) ≤ 4294967295 := by unfold ahm; omega
  have hcnt : (min k (4294967295 - n)).toNat = ahm n k := rfl
  generalize ahm n k = m at *
  have c1 : w.cell? ⟨cbx, 0, none⟩ = some (.pointer (some ⟨c, 0, none⟩)) := by rw [cell_of_row _ cbx 0 _ _ _ rcb]; rfl
  have R0 := hp1_0 w (.cells (chc (zr 32) 0) 48)
  have hba : Below w.heap.size w (w.alloc (.cells (chc (zr 32) 0) 48)) := (Below.refl _ _).alloc (Nat.le_refl _) _
  have R1 := setRow_heap _ w.heap.size _ (chc key n) _ _ R0
  have hw : Below w.heap.size w ((w.alloc (.cells (chc (zr 32) 0) 48)).setRow w.heap.size (chc key n)) := below_setRow hba (Nat.le_refl _) (chc key n)
  have hsz : ((w.alloc (.cells (chc (zr 32) 0) 48)).setRow w.heap.size (chc key n)).drew.heap.size = w.heap.size + 1 := by show ((w.alloc (.cells (chc (zr 32) 0) 48)).setRow w.heap.size (chc key n)).heap.size = _; rw [setRow_size, size_alloc1]
  have rn := keep hw rnb
  have hlw : cbx < w.heap.size := lt_of_row rcb
  go_enter Tryd.func24, Tryd.ntmps24
  go_wp2_with (first | (refine wpList_load_want rfl 48 _ rfl (c) rfl 48 (chc key n) (0, 0) _ rc Tryd.underlying48 rfl (infoC _ hkl _) ?_) | (refine wpList_alloc rfl 48 rfl (chc (zr 32) 0) zchc ?_) | (refine wpList_store_row rfl 48 _ _ rfl (w.heap.size) (chc key n) rfl rfl 48 _ R0 (infoC _ hkl _) (by rw [chc_size _ (zr_len 32), chc_size _ hkl]) (chc_one _ _) ?_) | fail)
  simp only [Act.put, List.setIfInBounds_toArray, List.set_cons_succ, List.set_cons_zero]
  clear c1 R0 hba
  generalize ((w.alloc (.cells (chc (zr 32) 0) 48)).setRow w.heap.size (chc key n)) = w1 at *
  have hbd : Below w1.heap.size w1 w1.drew := below_drN (Below.refl _ _) 1
  replace R1 := keep hbd R1
  replace rn := keep hbd rn
  replace hw := Below.after hw hbd
  clear hbd
  refine wp_region_noPanic ?_
  refine wp_region_held (S := fun _ => True) (by kernel_rfl) ?_
  change wpAnyH _ _ _ _ _ _ _ _ (World.drew _)
  generalize w1.drew = w2 at *
  refine wpAnyH_take (i := 0) (v := ?v1) rfl (by kernel_rfl) (by kernel_rfl) (by kernel_rfl) (fun _ _ _ h => h) (Or.inl ⟨by rfl, ?y1⟩) (trivial) ?r1
  case y1 =>
    intro w_ hS_
    go_simp
    try with_reducible rfl
  simp only [Act.put, List.getElem_toArray, List.getElem_cons_zero, List.setIfInBounds_toArray, List.set_cons_succ, List.set_cons_zero]
  refine wpAnyH_take (i := 5) (v := ?v2) rfl (by kernel_rfl) (by kernel_rfl) (by kernel_rfl) (fun _ _ _ h => h) (Or.inl ⟨by rfl, ?y2⟩) (trivial) ?r2
  case y2 =>
    intro w_ hS_
    go_simp
    try with_reducible rfl
  simp only [Act.put, List.getElem_toArray, List.getElem_cons_succ, List.getElem_cons_zero, List.setIfInBounds_toArray, List.set_cons_succ, List.set_cons_zero]
  refine wpAnyH_two (j := 1) (k := 2) (fuel := 4) (by kernel_rfl) rfl rfl (by kernel_rfl) (by kernel_rfl) (fun K_ hK_ => ?_) (fun K_ hK_ => ?_)
  · have c_ : w2.cell? ⟨nbx, 0, none⟩ = some (.int .i64 k) := by rw [cell_of_row _ nbx 0 _ _ _ rn]; rfl
    refine wp_pure_op (.int .i64 k) (by go_simp; try with_reducible rfl) ?_
    clear c_
    refine hK_ _ _ (trivial) ?_
    simp only [Act.put, List.getElem_toArray, List.getElem_cons_succ, List.getElem_cons_zero, List.setIfInBounds_toArray, List.set_cons_succ, List.set_cons_zero]
    clear hK_
    refine wpAnyH_one (k := 2) (fuel := 3) (by kernel_rfl) rfl (by kernel_rfl) (fun K_ hK_ => ?_)
    refine wp_call_ex (f := 13) (R := fun v w' => v = .int .i64 (4294967295 - n) ∧ w' = w2) (by kernel_rfl) ((a_left key hkl n hn0 hn1 w2 _ R1).mono fun e_ w_ ⟨h1_, h2_⟩ => ⟨_, h1_, rfl, h2_⟩) (fun v_ qL hX_ => ?_)
    obtain ⟨hv_, hq_⟩ := hX_
    rw [hv_, hq_]
    clear hv_ hq_
    refine hK_ _ _ (trivial) ?_
    simp only [Act.put, List.getElem_toArray, List.getElem_cons_succ, List.getElem_cons_zero, List.setIfInBounds_toArray, List.set_cons_succ, List.set_cons_zero]
    clear hK_
    refine wpAnyH_one (k := 3) (fuel := 2) (by kernel_rfl) rfl (by kernel_rfl) (fun K_ hK_ => ?_)
    have hmn := run_min k (4294967295 - n)
    refine wp_pure_op (.int .i64 (min k (4294967295 - n))) (by simp [execOp, resolve, invoke, builtin, hmn, Act.eval, Result.andThen]) ?_
    clear hmn
    refine hK_ _ _ (trivial) ?_
    simp only [Act.put, List.getElem_toArray, List.getElem_cons_succ, List.getElem_cons_zero, List.setIfInBounds_toArray, List.set_cons_succ, List.set_cons_zero]
    clear hK_
    refine wpAnyH_one (k := 4) (fuel := 1) (by kernel_rfl) rfl (by kernel_rfl) (fun K_ hK_ => ?_)
    refine wp_call_ex (f := 23) (R := fun v w' => v = .func (.func 29) #[] #[.pointer (some ⟨w2.heap.size + 1, 0, none⟩), .pointer (some ⟨w2.heap.size, 0, none⟩)] ∧ w' = ((w2.alloc (.cells #[(.func (.func 14) #[.pointer (some ⟨w.heap.size, 0, none⟩)] #[])] 51)).alloc (.cells #[.int .i64 (min k (4294967295 - n))] 2))) (by kernel_rfl) ((a_steps w.heap.size (min k (4294967295 - n)) w2).mono fun e_ w_ ⟨h1_, h2_⟩ => ⟨_, h1_, rfl, h2_⟩) (fun v_ qL hX_ => ?_)
    obtain ⟨hv_, hq_⟩ := hX_
    rw [hv_, hq_]
    clear hv_ hq_
    have r1 := hp2_0 w2 (.cells #[(.func (.func 14) #[.pointer (some ⟨w.heap.size, 0, none⟩)] #[])] 51) (.cells #[.int .i64 (min k (4294967295 - n))] 2)
    have r2 := hp2_1 w2 (.cells #[(.func (.func 14) #[.pointer (some ⟨w.heap.size, 0, none⟩)] #[])] 51) (.cells #[.int .i64 (min k (4294967295 - n))] 2)
    have hb_ : Below w2.heap.size w2 ((w2.alloc (.cells #[(.func (.func 14) #[.pointer (some ⟨w.heap.size, 0, none⟩)] #[])] 51)).alloc (.cells #[.int .i64 (min k (4294967295 - n))] 2)) := ((Below.refl _ _).alloc (Nat.le_refl _) _).alloc (by simp) _
    have hz3 : ((w2.alloc (.cells #[(.func (.func 14) #[.pointer (some ⟨w.heap.size, 0, none⟩)] #[])] 51)).alloc (.cells #[.int .i64 (min k (4294967295 - n))] 2)).heap.size = w.heap.size + 3 := by rw [size_alloc1, size_alloc1, hsz]
    replace R1 := keep hb_ R1
    replace rn := keep hb_ rn
    replace hw := Below.after hw hb_
    clear hb_
    refine hK_ _ _ (trivial) ?_
    simp only [Act.put, List.getElem_toArray, List.getElem_cons_succ, List.getElem_cons_zero, List.setIfInBounds_toArray, List.set_cons_succ, List.set_cons_zero]
    clear hK_
    generalize ((w2.alloc (.cells #[(.func (.func 14) #[.pointer (some ⟨w.heap.size, 0, none⟩)] #[])] 51)).alloc (.cells #[.int .i64 (min k (4294967295 - n))] 2)) = w3 at *
    rw [hsz] at r1 r2 ⊢
    refine wpAnyH_one (k := 6) (fuel := 0) (by kernel_rfl) rfl (by kernel_rfl) (fun K_ hK_ => ?_)
    have cT : Calls Tryd.prog 29 #[.func (.yield l) #[] #[], .pointer (some ⟨w.heap.size + 1 + 1, 0, none⟩), .pointer (some ⟨w.heap.size + 1, 0, none⟩)] w3 fun e w' => (∃ r, e = .returned r) ∧ (J m w' ∨ ∃ i, i < m ∧ Jx (i + 1) w') := by
      refine (a_steps1 key hkl hkz n hn0 _ m hcnt hm w.heap.size (w.heap.size + 1 + 1) (w.heap.size + 1) l (fun i A => J i A ∧ w.heap.size + 3 ≤ A.heap.size ∧ A.heap[w.heap.size + 1 + 1]? = some (.cells #[.int .i64 (min k (4294967295 - n))] 2 (0, 0)) ∧ A.heap[w.heap.size + 1]? = some (.cells #[(.func (.func 14) #[.pointer (some ⟨w.heap.size, 0, none⟩)] #[])] 51 (0, 0)) ∧ A.heap[w.heap.size]? = some (.cells (chc (kat key i) (n + (i : Int))) 48 (0, 0))) Jx ?_ ?_ w3 ?_).mono ?_
      · rintro i A ⟨hJ, _, a1, a2, a3⟩
        exact ⟨(hJS i A hJ).1, (hJS i A hJ).2, a1, a2, a3⟩
      · rintro i A C hi ⟨hJ, hs, a1, a2, a3⟩ hB rC
        have hsC := hB.size
        have b1 := hB.row a1 (by omega)
        have b2 := hB.row a2 (by omega)
        refine (hY i C hi (hJb i A C hJ hB hs) (by omega)).mono ?_
        rintro e A' (⟨rfl, h1, h2, h3⟩ | ⟨rfl, h1⟩)
        · refine .inl ⟨rfl, h1, by omega, (h3 _ (by omega) (by omega)).trans b1, (h3 _ (by omega) (by omega)).trans b2, ?_⟩
          rw [h3 _ (by omega) (by omega), rC]
          simp [Int.add_assoc]
        · exact .inr ⟨rfl, h1⟩
      · refine ⟨h0 w3 hw (by omega), by omega, r2, r1, ?_⟩
        rw [R1]; simp [kat]
      · rintro e w' ⟨h1, h2⟩
        refine ⟨h1, ?_⟩
        rcases h2 with ⟨h2, _⟩ | h2
        · exact .inl h2
        · exact .inr h2
    refine wp_call_ex (f := 29) (R := fun v w' => J m w' ∨ ∃ i, i < m ∧ Jx (i + 1) w') (by kernel_rfl) (cT.mono fun e_ w_ ⟨⟨r_, h1_⟩, h2_⟩ => ⟨r_, h1_, h2_⟩) (fun v_ w4 hX_ => ?_)
    clear cT
    refine hK_ _ _ (trivial) ?_
    simp only [Act.put]
    clear hK_
    refine wpAnyH_done (by kernel_rfl) ?_ _
    refine NoPanic.normal ?_
    go_wp2
    refine bodyPost_end (results_none rfl _ _ _) rfl ?_
    exact ⟨⟨_, rfl⟩, hX_⟩
  · refine wp_call_ex (f := 13) (R := fun v w' => v = .int .i64 (4294967295 - n) ∧ w' = w2) (by kernel_rfl) ((a_left key hkl n hn0 hn1 w2 _ R1).mono fun e_ w_ ⟨h1_, h2_⟩ => ⟨_, h1_, rfl, h2_⟩) (fun v_ qL hX_ => ?_)
    obtain ⟨hv_, hq_⟩ := hX_
    rw [hv_, hq_]
    clear hv_ hq_
    refine hK_ _ _ (trivial) ?_
    simp only [Act.put, List.getElem_toArray, List.getElem_cons_succ, List.getElem_cons_zero, List.setIfInBounds_toArray, List.set_cons_succ, List.set_cons_zero]
    clear hK_
    refine wpAnyH_one (k := 1) (fuel := 3) (by kernel_rfl) rfl (by kernel_rfl) (fun K_ hK_ => ?_)
    have c_ : w2.cell? ⟨nbx, 0, none⟩ = some (.int .i64 k) := by rw [cell_of_row _ nbx 0 _ _ _ rn]; rfl
    refine wp_pure_op (.int .i64 k) (by go_simp; try with_reducible rfl) ?_
    clear c_
    refine hK_ _ _ (trivial) ?_
    simp only [Act.put, List.getElem_toArray, List.getElem_cons_succ, List.getElem_cons_zero, List.setIfInBounds_toArray, List.set_cons_succ, List.set_cons_zero]
    clear hK_
    refine wpAnyH_one (k := 3) (fuel := 2) (by kernel_rfl) rfl (by kernel_rfl) (fun K_ hK_ => ?_)
    have hmn := run_min k (4294967295 - n)
    refine wp_pure_op (.int .i64 (min k (4294967295 - n))) (by simp [execOp, resolve, invoke, builtin, hmn, Act.eval, Result.andThen]) ?_
    clear hmn
    refine hK_ _ _ (trivial) ?_
    simp only [Act.put, List.getElem_toArray, List.getElem_cons_succ, List.getElem_cons_zero, List.setIfInBounds_toArray, List.set_cons_succ, List.set_cons_zero]
    clear hK_
    refine wpAnyH_one (k := 4) (fuel := 1) (by kernel_rfl) rfl (by kernel_rfl) (fun K_ hK_ => ?_)
    refine wp_call_ex (f := 23) (R := fun v w' => v = .func (.func 29) #[] #[.pointer (some ⟨w2.heap.size + 1, 0, none⟩), .pointer (some ⟨w2.heap.size, 0, none⟩)] ∧ w' = ((w2.alloc (.cells #[(.func (.func 14) #[.pointer (some ⟨w.heap.size, 0, none⟩)] #[])] 51)).alloc (.cells #[.int .i64 (min k (4294967295 - n))] 2))) (by kernel_rfl) ((a_steps w.heap.size (min k (4294967295 - n)) w2).mono fun e_ w_ ⟨h1_, h2_⟩ => ⟨_, h1_, rfl, h2_⟩) (fun v_ qL hX_ => ?_)
    obtain ⟨hv_, hq_⟩ := hX_
    rw [hv_, hq_]
    clear hv_ hq_
    have r1 := hp2_0 w2 (.cells #[(.func (.func 14) #[.pointer (some ⟨w.heap.size, 0, none⟩)] #[])] 51) (.cells #[.int .i64 (min k (4294967295 - n))] 2)
    have r2 := hp2_1 w2 (.cells #[(.func (.func 14) #[.pointer (some ⟨w.heap.size, 0, none⟩)] #[])] 51) (.cells #[.int .i64 (min k (4294967295 - n))] 2)
    have hb_ : Below w2.heap.size w2 ((w2.alloc (.cells #[(.func (.func 14) #[.pointer (some ⟨w.heap.size, 0, none⟩)] #[])] 51)).alloc (.cells #[.int .i64 (min k (4294967295 - n))] 2)) := ((Below.refl _ _).alloc (Nat.le_refl _) _).alloc (by simp) _
    have hz3 : ((w2.alloc (.cells #[(.func (.func 14) #[.pointer (some ⟨w.heap.size, 0, none⟩)] #[])] 51)).alloc (.cells #[.int .i64 (min k (4294967295 - n))] 2)).heap.size = w.heap.size + 3 := by rw [size_alloc1, size_alloc1, hsz]
    replace R1 := keep hb_ R1
    replace rn := keep hb_ rn
    replace hw := Below.after hw hb_
    clear hb_
    refine hK_ _ _ (trivial) ?_
    simp only [Act.put, List.getElem_toArray, List.getElem_cons_succ, List.getElem_cons_zero, List.setIfInBounds_toArray, List.set_cons_succ, List.set_cons_zero]
    clear hK_
    generalize ((w2.alloc (.cells #[(.func (.func 14) #[.pointer (some ⟨w.heap.size, 0, none⟩)] #[])] 51)).alloc (.cells #[.int .i64 (min k (4294967295 - n))] 2)) = w3 at *
    rw [hsz] at r1 r2 ⊢
    refine wpAnyH_one (k := 6) (fuel := 0) (by kernel_rfl) rfl (by kernel_rfl) (fun K_ hK_ => ?_)
    have cT : Calls Tryd.prog 29 #[.func (.yield l) #[] #[], .pointer (some ⟨w.heap.size + 1 + 1, 0, none⟩), .pointer (some ⟨w.heap.size + 1, 0, none⟩)] w3 fun e w' => (∃ r, e = .returned r) ∧ (J m w' ∨ ∃ i, i < m ∧ Jx (i + 1) w') := by
      refine (a_steps1 key hkl hkz n hn0 _ m hcnt hm w.heap.size (w.heap.size + 1 + 1) (w.heap.size + 1) l (fun i A => J i A ∧ w.heap.size + 3 ≤ A.heap.size ∧ A.heap[w.heap.size + 1 + 1]? = some (.cells #[.int .i64 (min k (4294967295 - n))] 2 (0, 0)) ∧ A.heap[w.heap.size + 1]? = some (.cells #[(.func (.func 14) #[.pointer (some ⟨w.heap.size, 0, none⟩)] #[])] 51 (0, 0)) ∧ A.heap[w.heap.size]? = some (.cells (chc (kat key i) (n + (i : Int))) 48 (0, 0))) Jx ?_ ?_ w3 ?_).mono ?_
      · rintro i A ⟨hJ, _, a1, a2, a3⟩
        exact ⟨(hJS i A hJ).1, (hJS i A hJ).2, a1, a2, a3⟩
      · rintro i A C hi ⟨hJ, hs, a1, a2, a3⟩ hB rC
        have hsC := hB.size
        have b1 := hB.row a1 (by omega)
        have b2 := hB.row a2 (by omega)
        refine (hY i C hi (hJb i A C hJ hB hs) (by omega)).mono ?_
        rintro e A' (⟨rfl, h1, h2, h3⟩ | ⟨rfl, h1⟩)
        · refine .inl ⟨rfl, h1, by omega, (h3 _ (by omega) (by omega)).trans b1, (h3 _ (by omega) (by omega)).trans b2, ?_⟩
          rw [h3 _ (by omega) (by omega), rC]
          simp [Int.add_assoc]
        · exact .inr ⟨rfl, h1⟩
      · refine ⟨h0 w3 hw (by omega), by omega, r2, r1, ?_⟩
        rw [R1]; simp [kat]
      · rintro e w' ⟨h1, h2⟩
        refine ⟨h1, ?_⟩
        rcases h2 with ⟨h2, _⟩ | h2
        · exact .inl h2
        · exact .inr h2
    refine wp_call_ex (f := 29) (R := fun v w' => J m w' ∨ ∃ i, i < m ∧ Jx (i + 1) w') (by kernel_rfl) (cT.mono fun e_ w_ ⟨⟨r_, h1_⟩, h2_⟩ => ⟨r_, h1_, h2_⟩) (fun v_ w4 hX_ => ?_)
    clear cT
    refine hK_ _ _ (trivial) ?_
    simp only [Act.put]
    clear hK_
    refine wpAnyH_done (by kernel_rfl) ?_ _
    refine NoPanic.normal ?_
    go_wp2
    refine bodyPost_end (results_none rfl _ _ _) rfl ?_
    exact ⟨⟨_, rfl⟩, hX_⟩

end Go.Proofs.YtilgicikcjcdjaaDoor
