import Derived.Test.YtgfeacnhdlgpoaaDoorProg
import Derived.WalkKit
import Derived.WalkSpells
import Derived.WalkLawsBesides
import Derived.Lib.QuietBelow
import Derived.BigQuiet
import Derived.OrdersHeld
import Derived.OwnWalk
import Derived.Great.BuildSlice
import Derived.Deep.RegionHeld3
import Derived.Deep.Cut
import Derived.Deep.CutRange
import Derived.Test.YtgfeacnhdlgpoaaDoorTri
namespace Go.Proofs.YtgfeacnhdlgpoaaDoor
set_option maxRecDepth 100000
open Go Go.RowKit Go.Sort
attribute [local go_sem] setCell_drewN alloc_drewN
theorem e_load_sl {o : Oper} {a : Act} {w : World} (x : Operand) (ho : o.op = .load 31 x) (g : Nat) (hx : a.eval x = .pointer (some ⟨g, 0, none⟩)) (ao : Option Addr) (n c : Nat) (hc : w.cell? ⟨g, 0, none⟩ = some (.slice ao n c)) : (execOp a.eval o).run Tryd.prog w = .ok (.value (.slice ao n c)) w := by
  unfold execOp
  simp only [ho, hx]
  go_simp
theorem wp_store_one {P : Program} {o : Oper} {a : Act} {w : World} {K : Act → World → Prop} {Q : Exit → Act → World → Prop} (ty : TypeId) (x y : Operand) (ho : o.op = .store ty x y) (g : Nat) (v : Value) (hx : a.eval x = .pointer (some ⟨g, 0, none⟩)) (hy : a.eval y = v) (h1 : v.oneCell' = true) (t : TypeId) (old : Value) (hg : w.heap[g]? = some (.cells #[old] t (0, 0))) (hi : (P.info? ty).map (·.size) = some 1)
    (h : K (a.put o.dst undef) (w.setRow g #[v])) : o.wp P a w K Q := by
  unfold Oper.wp execOp
  simp only [ho, hx, hy, Instr.storeAt, Instr.sureAddr, Sem.run_bind, Sem.run_pure, Result.andThen_ok, run_storeVar_one w g t ty old v hg hi h1]
  exact h
/-- What a leaf more leaves: all other blocks stay. -/
def ApF (w w' : World) (b g : Nat) (v : Value) : Prop := Below b w w' ∧ ∀ j, j < w.heap.size → j ≠ g → v.ownBlock ≠ some j → w'.heap[j]? = w.heap[j]?
theorem ap_end {w W W' : World} {b g : Nat} {v v' : Value} {l : List (List Int)} {k : List Int} (hG : LogS w b g v l) (hk : k.length = 32 ∧ ∀ z ∈ k, 0 ≤ z ∧ z < 256) (hl : l.length < 65536) (hw : Below w.heap.size w W) (h1 : OwnK W' b v' (l ++ [k])) (h2 : W.grownBy W' v.ownBlock) (h3 : Nx W v v') : LogS (W'.setRow g #[v']) b g v' (l ++ [k]) ∧ Nx w v v' ∧ ApF w (W'.setRow g #[v']) b g v := by
  obtain ⟨r, hO, hbg, hne, hok, hle⟩ := hG
  have hgl := lt_of_row r
  have hs := hw.size
  have rW := keep hw r
  have rW' := (h2.block g (by omega) (fun e => hne e.symm)).trans rW
  have hne' : v'.ownBlock ≠ some g := h3.ne (by omega) hne
  have hn : Nx w v v' := by
    rcases h3 with e | ⟨j, e, hj⟩
    · exact .inl e
    · exact .inr ⟨j, e, by omega⟩
  have hfr : ∀ j, j < w.heap.size → j ≠ g → v.ownBlock ≠ some j → (W'.setRow g #[v']).heap[j]? = w.heap[j]? := fun j hj h4 h5 => by
    rw [setRow_other W' g j _ h4, h2.block j (by omega) (fun e => h5 e.symm), hw.block j hj]
  refine ⟨⟨setRow_heap W' g _ _ _ _ rW', h1.move (fun j o e hj => ?_), hbg, hne', hok.app (Kok.one hk), by rw [List.length_append, List.length_singleton]; omega⟩, hn, ⟨?_, hfr⟩⟩
  · rw [setRow_other W' g j _ (fun e2 => hne' (by rw [e, e2]))]; exact hj
  · have hsz : W'.heap.size ≤ (W'.setRow g #[v']).heap.size := by simp [World.setRow]
    refine ⟨?_, ?_, ?_, Nat.le_trans hs (Nat.le_trans h2.size hsz), fun j hj => hfr j (by omega) (by omega) (fun e => by have := (hO.lt j e).1; omega)⟩
    · show W'.os = w.os; rw [h2.os, hw.os]
    · show W'.tape = w.tape; rw [h2.tape, hw.tape]
    · show W'.output = w.output; rw [h2.output, hw.output]
set_option maxRecDepth 100000 in
set_option maxHeartbeats 8000000 in
theorem a_Append_no (l : List (List Int)) (k : List Int) (_hk : k.length = 32 ∧ ∀ z ∈ k, 0 ≤ z ∧ z < 256) (w : World) (b g : Nat) (v : Value) (hG : LogS w b g v l) (hl : 65536 ≤ l.length) : Calls Tryd.prog 25 #[.pointer (some ⟨g, 0, none⟩), .agg (irow .u8 k)] w fun e w' => e = .returned (.tuple #[.int .i64 0, .int .i64 2]) ∧ Below w.heap.size w w' := by
  have d1 : decide ((l.length : Int) ≥ 65536) = true := by simp; omega
  have d2 : decide (65536 ≤ l.length) = true := by simp; omega
  obtain ⟨ao, cap, rfl, hc, hz⟩ := hG.2.1.slc
  have rp0 := hp1_0 w (.cells (irow .u8 k) 24)
  have hw : Below w.heap.size w (w.alloc (.cells (irow .u8 k) 24)) := ((Below.refl _ _).alloc (Nat.le_refl _) _)
  go_enter Tryd.func25, Tryd.ntmps25
  iterate 6 go_step
  generalize (w.alloc (.cells (irow .u8 k) 24)) = w0 at *
  go_wp2_with (fail)
  refine (a_Len l _ b g _ (hG.keep hw)).mono ?_
  rintro e_ w1 ⟨rfl, hb⟩
  replace rp0 := keep hb rp0
  replace hw := Below.after hw hb
  clear hb
  go_wp2_with (fail)
  exact bodyPost_ret (results_tmp2 Tryd.results25 _ _ _) rfl ⟨rfl, hw⟩
set_option maxRecDepth 100000 in
set_option maxHeartbeats 8000000 in
theorem a_Append (l : List (List Int)) (k : List Int) (hk : k.length = 32 ∧ ∀ z ∈ k, 0 ≤ z ∧ z < 256) (w : World) (b g : Nat) (v : Value) (hG : LogS w b g v l) (hl : l.length < 65536) : Calls Tryd.prog 25 #[.pointer (some ⟨g, 0, none⟩), .agg (irow .u8 k)] w fun e w' => e = .returned (.tuple #[.int .i64 (l.length : Int), .int .i64 0]) ∧ ∃ v', LogS w' b g v' (l ++ [k]) ∧ Nx w v v' ∧ ApF w w' b g v := by
  have d1 : decide ((l.length : Int) ≥ 65536) = false := by simp; omega
  have d2 : decide (65536 ≤ l.length) = false := by simp; omega
  obtain ⟨ao, cap, rfl, hc, hz⟩ := hG.2.1.slc
  have rp0 := hp1_0 w (.cells (irow .u8 k) 24)
  have hw : Below w.heap.size w (w.alloc (.cells (irow .u8 k) 24)) := ((Below.refl _ _).alloc (Nat.le_refl _) _)
  go_enter Tryd.func25, Tryd.ntmps25
  iterate 6 go_step
  generalize (w.alloc (.cells (irow .u8 k) 24)) = w0 at *
  go_wp2_with (fail)
  refine (a_Len l _ b g _ (hG.keep hw)).mono ?_
  rintro e_ w1 ⟨rfl, hb⟩
  replace rp0 := keep hb rp0
  replace hw := Below.after hw hb
  clear hb
  go_wp2_with (fail)
  have hb : Below w1.heap.size w1 w1.drew := below_drN (Below.refl _ _) 1
  replace rp0 := keep hb rp0
  replace hw := Below.after hw hb
  clear hb
  refine wp_region_noPanic ?_
  refine wp_region_held (S := fun W_ => W_.heap[w.heap.size]? = some (.cells (irow .u8 k) 24 (0, 0))) (by kernel_rfl) ?_
  change wpAnyH _ _ _ _ _ _ _ _ (World.drew _)
  generalize w1.drew = wd9 at *
  refine wpAnyH_take (i := 0) (v := ?v10) rfl (by kernel_rfl) (by kernel_rfl) (by kernel_rfl) (fun _ _ _ h => h) (Or.inl ⟨by rfl, ?y10⟩) (rp0) ?r10
  case y10 =>
    intro w_ hS_
    go_simp
    try with_reducible rfl
  simp only [Act.put, List.getElem_toArray, List.getElem_cons_zero, List.setIfInBounds_toArray, List.set_cons_succ, List.set_cons_zero]
  refine wpAnyH_take (i := 1) (v := ?v11) rfl (by kernel_rfl) (by kernel_rfl) (by kernel_rfl) (fun _ _ _ h => h) (Or.inl ⟨by rfl, ?y11⟩) (rp0) ?r11
  case y11 =>
    intro w_ hS_
    go_simp
    try with_reducible rfl
  simp only [Act.put, List.getElem_toArray, List.getElem_cons_succ, List.getElem_cons_zero, List.setIfInBounds_toArray, List.set_cons_succ, List.set_cons_zero]
  refine wpAnyH_take (i := 2) (v := ?v12) rfl (by kernel_rfl) (by kernel_rfl) (by kernel_rfl) (fun _ _ _ h => h) (Or.inl ⟨by rfl, ?y12⟩) (rp0) ?r12
  case y12 =>
    intro w_ hS_
    go_simp
    try with_reducible rfl
  simp only [Act.put, List.getElem_toArray, List.getElem_cons_succ, List.getElem_cons_zero, List.setIfInBounds_toArray, List.set_cons_succ, List.set_cons_zero]
  refine wpAnyH_take (i := 3) (v := ?v13) rfl (by kernel_rfl) (by kernel_rfl) (by kernel_rfl) (fun _ _ _ h => h) (Or.inl ⟨by rfl, ?y13⟩) (rp0) ?r13
  case y13 =>
    intro w_ hS_
    go_simp
    try with_reducible rfl
  simp only [Act.put, List.getElem_toArray, List.getElem_cons_succ, List.getElem_cons_zero, List.setIfInBounds_toArray, List.set_cons_succ, List.set_cons_zero]
  refine wpAnyH_take (i := 5) (v := .agg (irow .u8 k)) rfl (by kernel_rfl) (by kernel_rfl) (by kernel_rfl) (fun _ _ _ h => h) (Or.inl ⟨by rfl, ?y14⟩) (rp0) ?r14
  case y14 =>
    intro w_ hS_
    simp only [List.getElem_toArray, List.getElem_cons_succ, List.getElem_cons_zero]
    exact e_load_part 24 _ (by rfl) (w.heap.size) 0 (by rfl) 24 (irow .u8 k) (0, 0) (irow .u8 k) _ (hS_) (all_rowe _) Tryd.underlying24 rfl (infok8 _ hk.1)
  simp only [Act.put, List.getElem_toArray, List.getElem_cons_succ, List.getElem_cons_zero, List.setIfInBounds_toArray, List.set_cons_succ, List.set_cons_zero]
  refine eH_two (j := 4) (k := 6) (fuel := 5) (by kernel_rfl) rfl rfl (by kernel_rfl) (by kernel_rfl) (fun K_ hK_ => ?_) (fun K_ hK_ => ?_)
  · skip
    refine e_world_op (.slice ao l.length cap) _ (e_load_sl _ rfl g rfl ao l.length cap (hG.keep hw).cell) ?_
    refine hK_ _ _ (rp0) ?_
    simp only [Act.put, List.getElem_toArray, List.getElem_cons_succ, List.getElem_cons_zero, List.setIfInBounds_toArray, List.set_cons_succ, List.set_cons_zero]
    clear hK_
    refine eH_one (k := 6) (fuel := 4) (by kernel_rfl) rfl (by kernel_rfl) (fun K_ hK_ => ?_)
    refine e_world_op (.slice (some ⟨wd9.heap.size, 0, none⟩) 1 1) (wd9.alloc (.cells (irow .u8 k) 24)) (e_bslK _ rfl k hk.1 rfl _) ?_
    have hb : Below wd9.heap.size wd9 (wd9.alloc (.cells (irow .u8 k) 24)) := (Below.refl _ _).alloc (Nat.le_refl _) _
    have rg15 := hp1_0 wd9 (.cells (irow .u8 k) 24)
    have lt_g15_0 := lt_of_row rp0
    have sz_g15 := hw.size
    replace rp0 := keep hb rp0
    replace hw := Below.after hw hb
    clear hb
    refine hK_ _ _ (rp0) ?_
    simp only [Act.put, List.getElem_toArray, List.getElem_cons_succ, List.getElem_cons_zero, List.setIfInBounds_toArray, List.set_cons_succ, List.set_cons_zero]
    clear hK_
    generalize (wd9.alloc (.cells (irow .u8 k) 24)) = wq15 at *
    generalize wd9.heap.size = g15 at *
    refine eH_one (k := 7) (fuel := 3) (by kernel_rfl) rfl (by kernel_rfl) (fun K_ hK_ => ?_)
    have hGw := hG.keep hw
    refine wp_append_K _ _ rfl b _ l rfl hGw.2.1 g15 k hk.1 rfl rg15 (by omega) (by have := lt_of_row hGw.1; have := hG.2.2.1; omega) (fun v' wa16 h1 h2 h3 => ?_)
    have rs0 := (h2.block _ (lt_of_row rp0) (fun e => by have := (hG.2.1.lt _ e.symm).2; omega)).trans rp0
    refine hK_ _ _ rs0 ?_
    simp only [Act.put, List.getElem_toArray, List.getElem_cons_succ, List.getElem_cons_zero, List.setIfInBounds_toArray, List.set_cons_succ, List.set_cons_zero]
    clear hK_
    refine wpAnyH_take (i := 8) (v := ?v17) rfl (by kernel_rfl) (by kernel_rfl) (by kernel_rfl) (fun _ _ _ h => h) (Or.inl ⟨by rfl, ?y17⟩) (rs0) ?r17
    case y17 =>
      intro w_ hS_
      go_simp
      try with_reducible rfl
    simp only [Act.put, List.getElem_toArray, List.getElem_cons_succ, List.getElem_cons_zero, List.setIfInBounds_toArray, List.set_cons_succ, List.set_cons_zero]
    refine wpAnyH_take (i := 9) (v := ?v18) rfl (by kernel_rfl) (by kernel_rfl) (by kernel_rfl) (fun _ _ _ h => h) (Or.inl ⟨by rfl, ?y18⟩) (rs0) ?r18
    case y18 =>
      intro w_ hS_
      go_simp
      try with_reducible rfl
    simp only [Act.put, List.getElem_toArray, List.getElem_cons_succ, List.getElem_cons_zero, List.setIfInBounds_toArray, List.set_cons_succ, List.set_cons_zero]
    refine eH_one (k := 10) (fuel := 0) (by kernel_rfl) rfl (by kernel_rfl) (fun K_ hK_ => ?_)
    have rgg := (h2.block g (lt_of_row hGw.1) (fun e => hG.2.2.2.1 e.symm)).trans hGw.1
    obtain ⟨q1, q2, q3⟩ := ap_end hG hk hl hw h1 h2 h3
    have hog : v'.oneCell' = true := by obtain ⟨_, _, e, _⟩ := h1.slc; rw [e]; rfl
    refine wp_store_one 31 _ _ rfl g v' rfl rfl hog _ _ rgg rfl ?_
    have rs1 := (setRow_other wa16 g (w.heap.size) #[v'] (by have := lt_of_row hG.1; omega)).trans rs0
    refine hK_ _ _ rs1 ?_
    simp only [Act.put]
    clear hK_
    refine wpAnyH_done (by kernel_rfl) ?_ _
    refine NoPanic.normal ?_
    go_wp2_with (fail)
    exact bodyPost_ret (results_tmp2 Tryd.results25 _ _ _) rfl ⟨rfl, _, q1, q2, q3⟩
  · skip
    refine e_world_op (.slice (some ⟨wd9.heap.size, 0, none⟩) 1 1) (wd9.alloc (.cells (irow .u8 k) 24)) (e_bslK _ rfl k hk.1 rfl _) ?_
    have hb : Below wd9.heap.size wd9 (wd9.alloc (.cells (irow .u8 k) 24)) := (Below.refl _ _).alloc (Nat.le_refl _) _
    have rg19 := hp1_0 wd9 (.cells (irow .u8 k) 24)
    have lt_g19_0 := lt_of_row rp0
    have sz_g19 := hw.size
    replace rp0 := keep hb rp0
    replace hw := Below.after hw hb
    clear hb
    refine hK_ _ _ (rp0) ?_
    simp only [Act.put, List.getElem_toArray, List.getElem_cons_succ, List.getElem_cons_zero, List.setIfInBounds_toArray, List.set_cons_succ, List.set_cons_zero]
    clear hK_
    generalize (wd9.alloc (.cells (irow .u8 k) 24)) = wq19 at *
    generalize wd9.heap.size = g19 at *
    refine eH_one (k := 4) (fuel := 4) (by kernel_rfl) rfl (by kernel_rfl) (fun K_ hK_ => ?_)
    refine e_world_op (.slice ao l.length cap) _ (e_load_sl _ rfl g rfl ao l.length cap (hG.keep hw).cell) ?_
    refine hK_ _ _ (rp0) ?_
    simp only [Act.put, List.getElem_toArray, List.getElem_cons_succ, List.getElem_cons_zero, List.setIfInBounds_toArray, List.set_cons_succ, List.set_cons_zero]
    clear hK_
    refine eH_one (k := 7) (fuel := 3) (by kernel_rfl) rfl (by kernel_rfl) (fun K_ hK_ => ?_)
    have hGw := hG.keep hw
    refine wp_append_K _ _ rfl b _ l rfl hGw.2.1 g19 k hk.1 rfl rg19 (by omega) (by have := lt_of_row hGw.1; have := hG.2.2.1; omega) (fun v' wa20 h1 h2 h3 => ?_)
    have rs0 := (h2.block _ (lt_of_row rp0) (fun e => by have := (hG.2.1.lt _ e.symm).2; omega)).trans rp0
    refine hK_ _ _ rs0 ?_
    simp only [Act.put, List.getElem_toArray, List.getElem_cons_succ, List.getElem_cons_zero, List.setIfInBounds_toArray, List.set_cons_succ, List.set_cons_zero]
    clear hK_
    refine wpAnyH_take (i := 8) (v := ?v21) rfl (by kernel_rfl) (by kernel_rfl) (by kernel_rfl) (fun _ _ _ h => h) (Or.inl ⟨by rfl, ?y21⟩) (rs0) ?r21
    case y21 =>
      intro w_ hS_
      go_simp
      try with_reducible rfl
    simp only [Act.put, List.getElem_toArray, List.getElem_cons_succ, List.getElem_cons_zero, List.setIfInBounds_toArray, List.set_cons_succ, List.set_cons_zero]
    refine wpAnyH_take (i := 9) (v := ?v22) rfl (by kernel_rfl) (by kernel_rfl) (by kernel_rfl) (fun _ _ _ h => h) (Or.inl ⟨by rfl, ?y22⟩) (rs0) ?r22
    case y22 =>
      intro w_ hS_
      go_simp
      try with_reducible rfl
    simp only [Act.put, List.getElem_toArray, List.getElem_cons_succ, List.getElem_cons_zero, List.setIfInBounds_toArray, List.set_cons_succ, List.set_cons_zero]
    refine eH_one (k := 10) (fuel := 0) (by kernel_rfl) rfl (by kernel_rfl) (fun K_ hK_ => ?_)
    have rgg := (h2.block g (lt_of_row hGw.1) (fun e => hG.2.2.2.1 e.symm)).trans hGw.1
    obtain ⟨q1, q2, q3⟩ := ap_end hG hk hl hw h1 h2 h3
    have hog : v'.oneCell' = true := by obtain ⟨_, _, e, _⟩ := h1.slc; rw [e]; rfl
    refine wp_store_one 31 _ _ rfl g v' rfl rfl hog _ _ rgg rfl ?_
    have rs1 := (setRow_other wa20 g (w.heap.size) #[v'] (by have := lt_of_row hG.1; omega)).trans rs0
    refine hK_ _ _ rs1 ?_
    simp only [Act.put]
    clear hK_
    refine wpAnyH_done (by kernel_rfl) ?_ _
    refine NoPanic.normal ?_
    go_wp2_with (fail)
    exact bodyPost_ret (results_tmp2 Tryd.results25 _ _ _) rfl ⟨rfl, _, q1, q2, q3⟩
end Go.Proofs.YtgfeacnhdlgpoaaDoor
