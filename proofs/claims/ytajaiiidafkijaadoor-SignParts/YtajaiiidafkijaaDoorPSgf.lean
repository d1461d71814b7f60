import Derived.Test.YtajaiiidafkijaaDoorProg
import Derived.WalkKit
import Derived.WalkSpells
import Derived.WalkLawsBesides
import Derived.Lib.QuietBelow
import Derived.BigQuiet
import Derived.Deep.Cut
import Derived.Deep.CutRange
import Derived.Test.YtajaiiidafkijaaDoorPSgm
import Derived.Test.YtajaiiidafkijaaDoorPSga
namespace Go.Proofs.YtajaiiidafkijaaDoor
set_option maxRecDepth 100000
open Go Go.RowKit Go.Sort
attribute [local go_sem] setCell_drewN alloc_drewN
theorem BysK.slc {W : World} {v : Value} {bs : List Int} (h : BysK W v bs) : ∃ ao cap, v = .slice ao bs.length cap ∧ True := by
 obtain ⟨⟨ao, cap, e, _⟩, _⟩ := h
 exact ⟨ao, cap, e, trivial⟩
theorem bysK_row {w : World} {g : Nat} {N : Int} {t : TypeId} (r : w.heap[g]? = some (.cells (kb N) t (0, 0))) : BysK w (.slice (some ⟨g, 0, none⟩) 32 32) (b32 N) := by
 refine ⟨⟨some ⟨g, 0, none⟩, 32, rfl, (by show 32 ≤ _; decide), fun j hj => ⟨g, 0, rfl, lt_of_row r, ?_⟩, b32_bd N⟩, fun a l c h => by cases h; exact Nat.le_refl _, (by show 32 ≤ _; decide)⟩
 rw [Nat.zero_add, cell_of_row w g j _ _ _ r, kb_b32]
 rw [List.getElem?_toArray, List.getElem?_map, List.getElem?_eq_getElem hj, List.getD_eq_getElem?_getD, List.getElem?_eq_getElem hj]
 rfl
inductive All2 (W : World) : List Value → List (List Int) → Prop
 | nil : All2 W [] []
 | cons {v : Value} {p : List Int} {vs : List Value} {ps : List (List Int)} : BysK W v p → All2 W vs ps → All2 W (v :: vs) (p :: ps)
theorem All2.len {W : World} {vs : List Value} {ps : List (List Int)} (h : All2 W vs ps) : vs.length = ps.length := by
 induction h with
 | nil => rfl
 | cons _ _ ih => simp [ih]
theorem All2.get {W : World} {vs : List Value} {ps : List (List Int)} (h : All2 W vs ps) : ∀ i, i < ps.length → ∃ v, vs[i]? = some v ∧ BysK W v (ps.getD i []) := by
 induction h with
 | nil => intro i hi; simp at hi
 | cons hb _ ih =>
  intro i hi
  cases i with
  | zero => exact ⟨_, rfl, by simpa using hb⟩
  | succ i =>
   obtain ⟨v, h1, h2⟩ := ih i (by simpa using hi)
   exact ⟨v, by simpa using h1, by simpa using h2⟩
theorem pck_row {W : World} {g k : Nat} {t : TypeId} {vs : List Value} {ps : List (List Int)} (hr : W.heap[g]? = some (.cells vs.toArray t (0, 0))) (h : All2 W vs ps) (hk : k = ps.length) (hl : ps.length ≤ 9223372036854775807) : PcK W (.slice (some ⟨g, 0, none⟩) k k) ps := by
 subst hk
 refine ⟨some ⟨g, 0, none⟩, _, rfl, hl, fun i hi => ?_⟩
 obtain ⟨v, hv, hB⟩ := h.get i hi
 have hB0 := hB.1
 obtain ⟨ao, cap, rfl, h1, h2, h3⟩ := hB0
 refine ⟨g, 0, ao, cap, rfl, lt_of_row hr, ?_, hB.1, hB.2.1 _ _ _ rfl⟩
 rw [Nat.zero_add, cell_of_row W g i _ _ _ hr]
 simpa using hv
theorem chl3 (R A : Int) (b : List Int) : nbr [b32 R, b32 A, b].flatten = chl R A b := by unfold chl; simp
set_option maxRecDepth 100000 in
set_option maxHeartbeats 8000000 in
theorem signed_walk {xa xr xb xR1 xm xs : Array Value} {A R S : Int} {b : List Int} (oa : WdO xa) (or : WdO xr) (cB : GivesE 19 #[] (.agg xb)) (cT : Gives4 24 #[.agg xb, .agg xr] (.agg xR1)) (cY : Gives 21 #[.agg xR1] (.agg (kb R))) (cM : GivesO 42 #[.agg (wd (chl R A b)), .agg xa] (.agg xm)) (cA : GivesO 38 #[.agg xr, .agg xm] (.agg xs)) (cS : Gives 36 #[.agg xs] (.agg (kb S))) (w : World) {ao : Option Addr} {lb cap : Nat} (hS : Sgn w) (hB : BysK w (.slice ao lb cap) b) : Calls Tryd.prog 61 #[.agg xa, .agg xr, .agg (kb A), .slice ao lb cap] w fun e w' => e = .returned (.agg (sg R S)) ∧ Below w.heap.size w w' := by
 have cJ := a_joined R S
 have hB0 := hB
 have rp0 := hp4_0 w (.cells xa 54) (.cells xr 54) (.cells (kb A) 25) (.cells (Wi.irow .u8 (Wi.zr 64)) 30)
 have rp1 := hp4_1 w (.cells xa 54) (.cells xr 54) (.cells (kb A) 25) (.cells (Wi.irow .u8 (Wi.zr 64)) 30)
 have rp2 := hp4_2 w (.cells xa 54) (.cells xr 54) (.cells (kb A) 25) (.cells (Wi.irow .u8 (Wi.zr 64)) 30)
 have rp3 := hp4_3 w (.cells xa 54) (.cells xr 54) (.cells (kb A) 25) (.cells (Wi.irow .u8 (Wi.zr 64)) 30)
 have hw : Below w.heap.size w ((((w.alloc (.cells xa 54)).alloc (.cells xr 54)).alloc (.cells (kb A) 25)).alloc (.cells (Wi.irow .u8 (Wi.zr 64)) 30)) := (((((Below.refl _ _).alloc (Nat.le_refl _) _).alloc (by simp) _).alloc (by simp; omega) _).alloc (by simp; omega) _)
 have f4 := hS.below (show Below w.heap.size w ((((w.alloc (.cells xa 54)).alloc (.cells xr 54)).alloc (.cells (kb A) 25)).alloc (.cells (Wi.irow .u8 (Wi.zr 64)) 30)) from hw)
 have hB := hB.keep (show Below w.heap.size w ((((w.alloc (.cells xa 54)).alloc (.cells xr 54)).alloc (.cells (kb A) 25)).alloc (.cells (Wi.irow .u8 (Wi.zr 64)) 30)) from hw)
 go_enter Tryd.func61, Tryd.ntmps61
 iterate 15 go_step
 try rw [z64]
 generalize ((((w.alloc (.cells xa 54)).alloc (.cells xr 54)).alloc (.cells (kb A) 25)).alloc (.cells (Wi.irow .u8 (Wi.zr 64)) 30)) = w0 at *
 go_wp2_with (fail)
 go_cut [9] from 10 to 28 (fun u_ wx => ∃ gx, u_ = .pointer (some ⟨gx, 0, none⟩) ∧ w.heap.size < gx ∧ w.heap.size + 1 < gx ∧ w.heap.size + 1 + 1 < gx ∧ w.heap.size + 1 + 1 + 1 < gx ∧ w.heap.size ≤ gx ∧ wx.heap[w.heap.size]? = some (.cells xa 54 (0, 0)) ∧ wx.heap[w.heap.size + 1]? = some (.cells xr 54 (0, 0)) ∧ wx.heap[w.heap.size + 1 + 1]? = some (.cells (kb A) 25 (0, 0)) ∧ wx.heap[w.heap.size + 1 + 1 + 1]? = some (.cells (Wi.irow .u8 (Wi.zr 64)) 30 (0, 0)) ∧ wx.heap[gx]? = some (.cells (kb R) 25 (0, 0)) ∧ Sgn wx ∧ BysK wx (.slice ao lb cap) b ∧ Below w.heap.size w wx)
 case first =>
  have hb : Below w0.heap.size w0 w0.drew := below_drN (Below.refl _ _) 1
  replace rp0 := keep hb rp0
  replace rp1 := keep hb rp1
  replace rp2 := keep hb rp2
  replace rp3 := keep hb rp3
  replace f4 := f4.below hb
  replace hB := hB.keep hb
  replace hw := Below.after hw hb
  clear hb
  refine wp_region_noPanic ?_
  refine wp_region_held (S := fun W_ => W_.heap[w.heap.size + 1]? = some (.cells xr 54 (0, 0))) (by kernel_rfl) ?_
  change wpAnyH _ _ _ _ _ _ _ _ (World.drew _)
  generalize w0.drew = wd2 at *
  refine wpAnyH_take (i := 1) (v := .agg xr) rfl (by kernel_rfl) (by kernel_rfl) (by kernel_rfl) (fun _ _ _ h => h) (Or.inl ⟨by rfl, ?y3⟩) (rp1) ?r3
  case y3 =>
   intro w_ hS_
   simp only [List.getElem_toArray, List.getElem_cons_succ, List.getElem_cons_zero]
   exact e_load_part 54 _ (by rfl) (w.heap.size + 1) 0 (by rfl) 54 xr (0, 0) xr _ (hS_) (all_rowe _) Tryd.underlying54 rfl or.infoS
  simp only [Act.put, ZPa, ZPb, ZPc, ZPd, ZPe, ZPf]
  refine eH_two (j := 0) (k := 4) (fuel := 4) (by kernel_rfl) rfl rfl (by kernel_rfl) (by kernel_rfl) (fun K_ hK_ => ?_) (fun K_ hK_ => ?_)
  ·skip
   refine wp_call_ex (f := 19) (by kernel_rfl) (ex1e (cB.at f4.1)) (fun v_ wq4 hX_ => ?_)
   obtain ⟨rfl, hb⟩ := hX_
   replace rp0 := keep hb rp0
   replace rp1 := keep hb rp1
   replace rp2 := keep hb rp2
   replace rp3 := keep hb rp3
   replace f4 := f4.below hb
   replace hB := hB.keep hb
   replace hw := Below.after hw hb
   clear hb
   refine hK_ _ _ (rp1) ?_
   simp only [Act.put, ZPa, ZPc, ZPd, ZPe, ZPf]
   clear hK_
   refine eH_two (j := 2) (k := 4) (fuel := 3) (by kernel_rfl) rfl rfl (by kernel_rfl) (by kernel_rfl) (fun K_ hK_ => ?_) (fun K_ hK_ => ?_)
   ·skip
    refine wp_call_ex (f := 24) (by kernel_rfl) (ex1e (cT.at f4.four)) (fun v_ wq5 hX_ => ?_)
    obtain ⟨rfl, hb⟩ := hX_
    replace rp0 := keep hb rp0
    replace rp1 := keep hb rp1
    replace rp2 := keep hb rp2
    replace rp3 := keep hb rp3
    replace f4 := f4.below hb
    replace hB := hB.keep hb
    replace hw := Below.after hw hb
    clear hb
    refine hK_ _ _ (rp1) ?_
    simp only [Act.put, ZPa, ZPb, ZPc, ZPd, ZPe, ZPf]
    clear hK_
    refine eH_two (j := 3) (k := 4) (fuel := 2) (by kernel_rfl) rfl rfl (by kernel_rfl) (by kernel_rfl) (fun K_ hK_ => ?_) (fun K_ hK_ => ?_)
    ·skip
     refine wp_call_ex (f := 21) (by kernel_rfl) (ex1e (cY.at _)) (fun v_ wq6 hX_ => ?_)
     obtain ⟨rfl, hb⟩ := hX_
     replace rp0 := keep hb rp0
     replace rp1 := keep hb rp1
     replace rp2 := keep hb rp2
     replace rp3 := keep hb rp3
     replace f4 := f4.below hb
     replace hB := hB.keep hb
     replace hw := Below.after hw hb
     clear hb
     refine hK_ _ _ (rp1) ?_
     simp only [Act.put, ZPa, ZPb, ZPc, ZPd, ZPe, ZPf]
     clear hK_
     refine eH_one (k := 4) (fuel := 1) (by kernel_rfl) rfl (by kernel_rfl) (fun K_ hK_ => ?_)
     refine e_world_op (.pointer (some ⟨wq6.heap.size, 0, none⟩)) (wq6.alloc (.cells (kb 0) 25)) (by kernel_rfl) ?_
     have hb : Below wq6.heap.size wq6 (wq6.alloc (.cells (kb 0) 25)) := (Below.refl _ _).alloc (Nat.le_refl _) _
     have rg7 := hp1_0 wq6 (.cells (kb 0) 25)
     have lt_g7_0 := lt_of_row rp0
     have lt_g7_1 := lt_of_row rp1
     have lt_g7_2 := lt_of_row rp2
     have lt_g7_3 := lt_of_row rp3
     have sz_g7 := hw.size
     replace rp0 := keep hb rp0
     replace rp1 := keep hb rp1
     replace rp2 := keep hb rp2
     replace rp3 := keep hb rp3
     replace f4 := f4.below hb
     replace hB := hB.keep hb
     replace hw := Below.after hw hb
     clear hb
     refine hK_ _ _ (rp1) ?_
     simp only [Act.put, ZPa, ZPb, ZPc, ZPd, ZPe, ZPf]
     clear hK_
     generalize (wq6.alloc (.cells (kb 0) 25)) = wq7 at *
     generalize wq6.heap.size = g7 at *
     refine eH_one (k := 5) (fuel := 0) (by kernel_rfl) rfl (by kernel_rfl) (fun K_ hK_ => ?_)
     refine wp_store_row 25 _ _ rfl (g7) (kb R) rfl rfl 25 _ rg7 (kb_info _) ((kb_size _).trans (kb_size _).symm) (kb_one _) ?_
     have hN_ := setRow_heap wq7 (g7) _ (kb R) _ _ rg7
     replace rp0 := (setRow_other wq7 (g7) (w.heap.size) (kb R) (by omega)).trans rp0
     replace rp1 := (setRow_other wq7 (g7) (w.heap.size + 1) (kb R) (by omega)).trans rp1
     replace rp2 := (setRow_other wq7 (g7) (w.heap.size + 1 + 1) (kb R) (by omega)).trans rp2
     replace rp3 := (setRow_other wq7 (g7) (w.heap.size + 1 + 1 + 1) (kb R) (by omega)).trans rp3
     replace hw := below_setRow hw (show w.heap.size ≤ g7 by omega) (kb R)
     replace f4 := hS.below hw
     replace hB := hB0.keep hw
     generalize (wq7.setRow (g7) (kb R)) = wq8 at *
     clear rg7
     have rg7 := hN_
     clear hN_
     refine hK_ _ _ (rp1) ?_
     simp only [Act.put]
     clear hK_
     refine wpAnyH_done (by kernel_rfl) ?_ _
     refine NoPanic.normal ?_
     go_wp2_with (fail)
     go_meet
     case rel => exact ⟨g7, rfl, by omega, by omega, by omega, by omega, by omega, rp0, rp1, rp2, rp3, rg7, f4, hB, hw⟩
    ·skip
     refine e_world_op (.pointer (some ⟨wq5.heap.size, 0, none⟩)) (wq5.alloc (.cells (kb 0) 25)) (by kernel_rfl) ?_
     have hb : Below wq5.heap.size wq5 (wq5.alloc (.cells (kb 0) 25)) := (Below.refl _ _).alloc (Nat.le_refl _) _
     have rg9 := hp1_0 wq5 (.cells (kb 0) 25)
     have lt_g9_0 := lt_of_row rp0
     have lt_g9_1 := lt_of_row rp1
     have lt_g9_2 := lt_of_row rp2
     have lt_g9_3 := lt_of_row rp3
     have sz_g9 := hw.size
     replace rp0 := keep hb rp0
     replace rp1 := keep hb rp1
     replace rp2 := keep hb rp2
     replace rp3 := keep hb rp3
     replace f4 := f4.below hb
     replace hB := hB.keep hb
     replace hw := Below.after hw hb
     clear hb
     refine hK_ _ _ (rp1) ?_
     simp only [Act.put, ZPa, ZPb, ZPc, ZPd, ZPe, ZPf]
     clear hK_
     generalize (wq5.alloc (.cells (kb 0) 25)) = wq9 at *
     generalize wq5.heap.size = g9 at *
     refine eH_one (k := 3) (fuel := 1) (by kernel_rfl) rfl (by kernel_rfl) (fun K_ hK_ => ?_)
     refine wp_call_ex (f := 21) (by kernel_rfl) (ex1e (cY.at _)) (fun v_ wq10 hX_ => ?_)
     obtain ⟨rfl, hb⟩ := hX_
     replace rp0 := keep hb rp0
     replace rp1 := keep hb rp1
     replace rp2 := keep hb rp2
     replace rp3 := keep hb rp3
     replace rg9 := keep hb rg9
     replace f4 := f4.below hb
     replace hB := hB.keep hb
     replace hw := Below.after hw hb
     clear hb
     refine hK_ _ _ (rp1) ?_
     simp only [Act.put, ZPa, ZPb, ZPc, ZPd, ZPe, ZPf]
     clear hK_
     refine eH_one (k := 5) (fuel := 0) (by kernel_rfl) rfl (by kernel_rfl) (fun K_ hK_ => ?_)
     refine wp_store_row 25 _ _ rfl (g9) (kb R) rfl rfl 25 _ rg9 (kb_info _) ((kb_size _).trans (kb_size _).symm) (kb_one _) ?_
     have hN_ := setRow_heap wq10 (g9) _ (kb R) _ _ rg9
     replace rp0 := (setRow_other wq10 (g9) (w.heap.size) (kb R) (by omega)).trans rp0
     replace rp1 := (setRow_other wq10 (g9) (w.heap.size + 1) (kb R) (by omega)).trans rp1
     replace rp2 := (setRow_other wq10 (g9) (w.heap.size + 1 + 1) (kb R) (by omega)).trans rp2
     replace rp3 := (setRow_other wq10 (g9) (w.heap.size + 1 + 1 + 1) (kb R) (by omega)).trans rp3
     replace hw := below_setRow hw (show w.heap.size ≤ g9 by omega) (kb R)
     replace f4 := hS.below hw
     replace hB := hB0.keep hw
     generalize (wq10.setRow (g9) (kb R)) = wq11 at *
     clear rg9
     have rg9 := hN_
     clear hN_
     refine hK_ _ _ (rp1) ?_
     simp only [Act.put]
     clear hK_
     refine wpAnyH_done (by kernel_rfl) ?_ _
     refine NoPanic.normal ?_
     go_wp2_with (fail)
     go_meet
     case rel => exact ⟨g9, rfl, by omega, by omega, by omega, by omega, by omega, rp0, rp1, rp2, rp3, rg9, f4, hB, hw⟩
   ·skip
    refine e_world_op (.pointer (some ⟨wq4.heap.size, 0, none⟩)) (wq4.alloc (.cells (kb 0) 25)) (by kernel_rfl) ?_
    have hb : Below wq4.heap.size wq4 (wq4.alloc (.cells (kb 0) 25)) := (Below.refl _ _).alloc (Nat.le_refl _) _
    have rg12 := hp1_0 wq4 (.cells (kb 0) 25)
    have lt_g12_0 := lt_of_row rp0
    have lt_g12_1 := lt_of_row rp1
    have lt_g12_2 := lt_of_row rp2
    have lt_g12_3 := lt_of_row rp3
    have sz_g12 := hw.size
    replace rp0 := keep hb rp0
    replace rp1 := keep hb rp1
    replace rp2 := keep hb rp2
    replace rp3 := keep hb rp3
    replace f4 := f4.below hb
    replace hB := hB.keep hb
    replace hw := Below.after hw hb
    clear hb
    refine hK_ _ _ (rp1) ?_
    simp only [Act.put, ZPa, ZPb, ZPc, ZPd, ZPe, ZPf]
    clear hK_
    generalize (wq4.alloc (.cells (kb 0) 25)) = wq12 at *
    generalize wq4.heap.size = g12 at *
    refine eH_one (k := 2) (fuel := 2) (by kernel_rfl) rfl (by kernel_rfl) (fun K_ hK_ => ?_)
    refine wp_call_ex (f := 24) (by kernel_rfl) (ex1e (cT.at f4.four)) (fun v_ wq13 hX_ => ?_)
    obtain ⟨rfl, hb⟩ := hX_
    replace rp0 := keep hb rp0
    replace rp1 := keep hb rp1
    replace rp2 := keep hb rp2
    replace rp3 := keep hb rp3
    replace rg12 := keep hb rg12
    replace f4 := f4.below hb
    replace hB := hB.keep hb
    replace hw := Below.after hw hb
    clear hb
    refine hK_ _ _ (rp1) ?_
    simp only [Act.put, ZPa, ZPb, ZPc, ZPd, ZPe, ZPf]
    clear hK_
    refine eH_one (k := 3) (fuel := 1) (by kernel_rfl) rfl (by kernel_rfl) (fun K_ hK_ => ?_)
    refine wp_call_ex (f := 21) (by kernel_rfl) (ex1e (cY.at _)) (fun v_ wq14 hX_ => ?_)
    obtain ⟨rfl, hb⟩ := hX_
    replace rp0 := keep hb rp0
    replace rp1 := keep hb rp1
    replace rp2 := keep hb rp2
    replace rp3 := keep hb rp3
    replace rg12 := keep hb rg12
    replace f4 := f4.below hb
    replace hB := hB.keep hb
    replace hw := Below.after hw hb
    clear hb
    refine hK_ _ _ (rp1) ?_
    simp only [Act.put, ZPa, ZPb, ZPc, ZPd, ZPe, ZPf]
    clear hK_
    refine eH_one (k := 5) (fuel := 0) (by kernel_rfl) rfl (by kernel_rfl) (fun K_ hK_ => ?_)
    refine wp_store_row 25 _ _ rfl (g12) (kb R) rfl rfl 25 _ rg12 (kb_info _) ((kb_size _).trans (kb_size _).symm) (kb_one _) ?_
    have hN_ := setRow_heap wq14 (g12) _ (kb R) _ _ rg12
    replace rp0 := (setRow_other wq14 (g12) (w.heap.size) (kb R) (by omega)).trans rp0
    replace rp1 := (setRow_other wq14 (g12) (w.heap.size + 1) (kb R) (by omega)).trans rp1
    replace rp2 := (setRow_other wq14 (g12) (w.heap.size + 1 + 1) (kb R) (by omega)).trans rp2
    replace rp3 := (setRow_other wq14 (g12) (w.heap.size + 1 + 1 + 1) (kb R) (by omega)).trans rp3
    replace hw := below_setRow hw (show w.heap.size ≤ g12 by omega) (kb R)
    replace f4 := hS.below hw
    replace hB := hB0.keep hw
    generalize (wq14.setRow (g12) (kb R)) = wq15 at *
    clear rg12
    have rg12 := hN_
    clear hN_
    refine hK_ _ _ (rp1) ?_
    simp only [Act.put]
    clear hK_
    refine wpAnyH_done (by kernel_rfl) ?_ _
    refine NoPanic.normal ?_
    go_wp2_with (fail)
    go_meet
    case rel => exact ⟨g12, rfl, by omega, by omega, by omega, by omega, by omega, rp0, rp1, rp2, rp3, rg12, f4, hB, hw⟩
  ·skip
   refine e_world_op (.pointer (some ⟨wd2.heap.size, 0, none⟩)) (wd2.alloc (.cells (kb 0) 25)) (by kernel_rfl) ?_
   have hb : Below wd2.heap.size wd2 (wd2.alloc (.cells (kb 0) 25)) := (Below.refl _ _).alloc (Nat.le_refl _) _
   have rg16 := hp1_0 wd2 (.cells (kb 0) 25)
   have lt_g16_0 := lt_of_row rp0
   have lt_g16_1 := lt_of_row rp1
   have lt_g16_2 := lt_of_row rp2
   have lt_g16_3 := lt_of_row rp3
   have sz_g16 := hw.size
   replace rp0 := keep hb rp0
   replace rp1 := keep hb rp1
   replace rp2 := keep hb rp2
   replace rp3 := keep hb rp3
   replace f4 := f4.below hb
   replace hB := hB.keep hb
   replace hw := Below.after hw hb
   clear hb
   refine hK_ _ _ (rp1) ?_
   simp only [Act.put, ZPa, ZPb, ZPc, ZPd, ZPe, ZPf]
   clear hK_
   generalize (wd2.alloc (.cells (kb 0) 25)) = wq16 at *
   generalize wd2.heap.size = g16 at *
   refine eH_one (k := 0) (fuel := 3) (by kernel_rfl) rfl (by kernel_rfl) (fun K_ hK_ => ?_)
   refine wp_call_ex (f := 19) (by kernel_rfl) (ex1e (cB.at f4.1)) (fun v_ wq17 hX_ => ?_)
   obtain ⟨rfl, hb⟩ := hX_
   replace rp0 := keep hb rp0
   replace rp1 := keep hb rp1
   replace rp2 := keep hb rp2
   replace rp3 := keep hb rp3
   replace rg16 := keep hb rg16
   replace f4 := f4.below hb
   replace hB := hB.keep hb
   replace hw := Below.after hw hb
   clear hb
   refine hK_ _ _ (rp1) ?_
   simp only [Act.put, ZPa, ZPc, ZPd, ZPe, ZPf]
   clear hK_
   refine eH_one (k := 2) (fuel := 2) (by kernel_rfl) rfl (by kernel_rfl) (fun K_ hK_ => ?_)
   refine wp_call_ex (f := 24) (by kernel_rfl) (ex1e (cT.at f4.four)) (fun v_ wq18 hX_ => ?_)
   obtain ⟨rfl, hb⟩ := hX_
   replace rp0 := keep hb rp0
   replace rp1 := keep hb rp1
   replace rp2 := keep hb rp2
   replace rp3 := keep hb rp3
   replace rg16 := keep hb rg16
   replace f4 := f4.below hb
   replace hB := hB.keep hb
   replace hw := Below.after hw hb
   clear hb
   refine hK_ _ _ (rp1) ?_
   simp only [Act.put, ZPa, ZPb, ZPc, ZPd, ZPe, ZPf]
   clear hK_
   refine eH_one (k := 3) (fuel := 1) (by kernel_rfl) rfl (by kernel_rfl) (fun K_ hK_ => ?_)
   refine wp_call_ex (f := 21) (by kernel_rfl) (ex1e (cY.at _)) (fun v_ wq19 hX_ => ?_)
   obtain ⟨rfl, hb⟩ := hX_
   replace rp0 := keep hb rp0
   replace rp1 := keep hb rp1
   replace rp2 := keep hb rp2
   replace rp3 := keep hb rp3
   replace rg16 := keep hb rg16
   replace f4 := f4.below hb
   replace hB := hB.keep hb
   replace hw := Below.after hw hb
   clear hb
   refine hK_ _ _ (rp1) ?_
   simp only [Act.put, ZPa, ZPb, ZPc, ZPd, ZPe, ZPf]
   clear hK_
   refine eH_one (k := 5) (fuel := 0) (by kernel_rfl) rfl (by kernel_rfl) (fun K_ hK_ => ?_)
   refine wp_store_row 25 _ _ rfl (g16) (kb R) rfl rfl 25 _ rg16 (kb_info _) ((kb_size _).trans (kb_size _).symm) (kb_one _) ?_
   have hN_ := setRow_heap wq19 (g16) _ (kb R) _ _ rg16
   replace rp0 := (setRow_other wq19 (g16) (w.heap.size) (kb R) (by omega)).trans rp0
   replace rp1 := (setRow_other wq19 (g16) (w.heap.size + 1) (kb R) (by omega)).trans rp1
   replace rp2 := (setRow_other wq19 (g16) (w.heap.size + 1 + 1) (kb R) (by omega)).trans rp2
   replace rp3 := (setRow_other wq19 (g16) (w.heap.size + 1 + 1 + 1) (kb R) (by omega)).trans rp3
   replace hw := below_setRow hw (show w.heap.size ≤ g16 by omega) (kb R)
   replace f4 := hS.below hw
   replace hB := hB0.keep hw
   generalize (wq19.setRow (g16) (kb R)) = wq20 at *
   clear rg16
   have rg16 := hN_
   clear hN_
   refine hK_ _ _ (rp1) ?_
   simp only [Act.put]
   clear hK_
   refine wpAnyH_done (by kernel_rfl) ?_ _
   refine NoPanic.normal ?_
   go_wp2_with (fail)
   go_meet
   case rel => exact ⟨g16, rfl, by omega, by omega, by omega, by omega, by omega, rp0, rp1, rp2, rp3, rg16, f4, hB, hw⟩
 case rest =>
  obtain ⟨gc1, rfl, ltc1_0, ltc1_1, ltc1_2, ltc1_3, szc1, rp0, rp1, rp2, rp3, rc1, f4, hB, hw⟩ := hcut
  go_wp2_with (fail)
  go_cut [10] from 11 to 28 (fun u_ wx => ∃ gx, u_ = .pointer (some ⟨gx, 0, none⟩) ∧ w.heap.size < gx ∧ w.heap.size + 1 < gx ∧ w.heap.size + 1 + 1 < gx ∧ w.heap.size + 1 + 1 + 1 < gx ∧ gc1 < gx ∧ w.heap.size ≤ gx ∧ wx.heap[w.heap.size]? = some (.cells xa 54 (0, 0)) ∧ wx.heap[w.heap.size + 1]? = some (.cells xr 54 (0, 0)) ∧ wx.heap[w.heap.size + 1 + 1]? = some (.cells (kb A) 25 (0, 0)) ∧ wx.heap[w.heap.size + 1 + 1 + 1]? = some (.cells (Wi.irow .u8 (Wi.zr 64)) 30 (0, 0)) ∧ wx.heap[gc1]? = some (.cells (kb R) 25 (0, 0)) ∧ wx.heap[gx]? = some (.cells (kb S) 25 (0, 0)) ∧ Sgn wx ∧ BysK wx (.slice ao lb cap) b ∧ Below w.heap.size w wx)
  case first =>
   have hb : Below wc.heap.size wc wc.drew := below_drN (Below.refl _ _) 1
   replace rp0 := keep hb rp0
   replace rp1 := keep hb rp1
   replace rp2 := keep hb rp2
   replace rp3 := keep hb rp3
   replace rc1 := keep hb rc1
   replace f4 := f4.below hb
   replace hB := hB.keep hb
   replace hw := Below.after hw hb
   clear hb
   refine wp_region_noPanic ?_
   refine wp_region_held (S := fun W_ => W_.heap[w.heap.size]? = some (.cells xa 54 (0, 0)) ∧ W_.heap[w.heap.size + 1]? = some (.cells xr 54 (0, 0))) (by kernel_rfl) ?_
   change wpAnyH _ _ _ _ _ _ _ _ (World.drew _)
   generalize wc.drew = wd22 at *
   refine wpAnyH_take (i := 0) (v := .agg xr) rfl (by kernel_rfl) (by kernel_rfl) (by kernel_rfl) (fun _ _ _ h => h) (Or.inl ⟨by rfl, ?y23⟩) (⟨rp0, rp1⟩) ?r23
   case y23 =>
    intro w_ hS_
    simp only [List.getElem_toArray, List.getElem_cons_zero]
    exact e_load_part 54 _ (by rfl) (w.heap.size + 1) 0 (by rfl) 54 xr (0, 0) xr _ (hS_.2) (all_rowe _) Tryd.underlying54 rfl or.infoS
   simp only [Act.put, ZPa, ZPc, ZPd, ZPe, ZPf]
   refine wpAnyH_take (i := 1) (v := .slice (some ⟨gc1, 0, none⟩) 32 32) rfl (by kernel_rfl) (by kernel_rfl) (by kernel_rfl) (fun _ _ _ h => h) (Or.inl ⟨by rfl, ?y24⟩) (⟨rp0, rp1⟩) ?r24
   case y24 =>
    intro w_ hS_
    go_simp
    try with_reducible rfl
   simp only [Act.put, ZPa, ZPb, ZPc, ZPd, ZPe, ZPf]
   refine wpAnyH_take (i := 2) (v := .slice (some ⟨w.heap.size + 1 + 1, 0, none⟩) 32 32) rfl (by kernel_rfl) (by kernel_rfl) (by kernel_rfl) (fun _ _ _ h => h) (Or.inl ⟨by rfl, ?y25⟩) (⟨rp0, rp1⟩) ?r25
   case y25 =>
    intro w_ hS_
    go_simp
    try with_reducible rfl
   simp only [Act.put, ZPa, ZPb, ZPc, ZPd, ZPe, ZPf]
   refine wpAnyH_take (i := 3) (v := ?v26) rfl (by kernel_rfl) (by kernel_rfl) (by kernel_rfl) (fun _ _ _ h => h) (Or.inl ⟨by rfl, ?y26⟩) (⟨rp0, rp1⟩) ?r26
   case y26 =>
    intro w_ hS_
    go_simp
    try with_reducible rfl
   simp only [Act.put, ZPa, ZPb, ZPc, ZPd, ZPe, ZPf]
   refine wpAnyH_take (i := 6) (v := .agg xa) rfl (by kernel_rfl) (by kernel_rfl) (by kernel_rfl) (fun _ _ _ h => h) (Or.inl ⟨by rfl, ?y27⟩) (⟨rp0, rp1⟩) ?r27
   case y27 =>
    intro w_ hS_
    simp only [List.getElem_toArray, List.getElem_cons_succ, List.getElem_cons_zero]
    exact e_load_part 54 _ (by rfl) (w.heap.size) 0 (by rfl) 54 xa (0, 0) xa _ (hS_.1) (all_rowe _) Tryd.underlying54 rfl oa.infoS
   simp only [Act.put, ZPa, ZPb, ZPc, ZPd, ZPe, ZPf]
   refine eH_two (j := 4) (k := 10) (fuel := 6) (by kernel_rfl) rfl rfl (by kernel_rfl) (by kernel_rfl) (fun K_ hK_ => ?_) (fun K_ hK_ => ?_)
   ·skip
    refine e_world_op (.slice (some ⟨wd22.heap.size, 0, none⟩) 3 3) (wd22.alloc (.cells #[.slice (some ⟨gc1, 0, none⟩) 32 32, .slice (some ⟨w.heap.size + 1 + 1, 0, none⟩) 32 32, .slice ao lb cap] 22)) (by kernel_rfl) ?_
    have hb : Below wd22.heap.size wd22 (wd22.alloc (.cells #[.slice (some ⟨gc1, 0, none⟩) 32 32, .slice (some ⟨w.heap.size + 1 + 1, 0, none⟩) 32 32, .slice ao lb cap] 22)) := (Below.refl _ _).alloc (Nat.le_refl _) _
    have rg28 := hp1_0 wd22 (.cells #[.slice (some ⟨gc1, 0, none⟩) 32 32, .slice (some ⟨w.heap.size + 1 + 1, 0, none⟩) 32 32, .slice ao lb cap] 22)
    have lt_g28_0 := lt_of_row rp0
    have lt_g28_1 := lt_of_row rp1
    have lt_g28_2 := lt_of_row rp2
    have lt_g28_3 := lt_of_row rp3
    have lt_g28_4 := lt_of_row rc1
    have sz_g28 := hw.size
    replace rp0 := keep hb rp0
    replace rp1 := keep hb rp1
    replace rp2 := keep hb rp2
    replace rp3 := keep hb rp3
    replace rc1 := keep hb rc1
    replace f4 := f4.below hb
    replace hB := hB.keep hb
    replace hw := Below.after hw hb
    clear hb
    refine hK_ _ _ (⟨rp0, rp1⟩) ?_
    simp only [Act.put, ZPa, ZPb, ZPc, ZPd, ZPe, ZPf]
    clear hK_
    generalize (wd22.alloc (.cells #[.slice (some ⟨gc1, 0, none⟩) 32 32, .slice (some ⟨w.heap.size + 1 + 1, 0, none⟩) 32 32, .slice ao lb cap] 22)) = wq28 at *
    generalize wd22.heap.size = g28 at *
    refine eH_two (j := 5) (k := 10) (fuel := 5) (by kernel_rfl) rfl rfl (by kernel_rfl) (by kernel_rfl) (fun K_ hK_ => ?_) (fun K_ hK_ => ?_)
    ·skip
     refine wp_call_ex (f := 60) (by kernel_rfl) (ex1e (a_number [b32 R, b32 A, b] _ _ f4.2 (pck_row (vs := [.slice (some ⟨gc1, 0, none⟩) 32 32, .slice (some ⟨w.heap.size + 1 + 1, 0, none⟩) 32 32, .slice ao lb cap]) rg28 (.cons (bysK_row rc1) (.cons (bysK_row rp2) (.cons hB .nil))) rfl (by show 3 ≤ _; decide)) (by have := hB.2.2; simp [b32]; omega))) (fun v_ wq29 hX_ => ?_)
     obtain ⟨rfl, hb⟩ := hX_
     replace rp0 := keep hb rp0
     replace rp1 := keep hb rp1
     replace rp2 := keep hb rp2
     replace rp3 := keep hb rp3
     replace rc1 := keep hb rc1
     replace rg28 := keep hb rg28
     replace f4 := f4.below hb
     replace hB := hB.keep hb
     replace hw := Below.after hw hb
     clear hb
     refine hK_ _ _ (⟨rp0, rp1⟩) ?_
     simp only [Act.put, ZPa, ZPb, ZPc, ZPd, ZPe, ZPf]
     clear hK_
     rw [chl3]
     refine eH_two (j := 7) (k := 10) (fuel := 4) (by kernel_rfl) rfl rfl (by kernel_rfl) (by kernel_rfl) (fun K_ hK_ => ?_) (fun K_ hK_ => ?_)
     ·skip
      refine wp_call_ex (f := 42) (by kernel_rfl) (ex1e (cM.at f4.2)) (fun v_ wq30 hX_ => ?_)
      obtain ⟨rfl, hb⟩ := hX_
      replace rp0 := keep hb rp0
      replace rp1 := keep hb rp1
      replace rp2 := keep hb rp2
      replace rp3 := keep hb rp3
      replace rc1 := keep hb rc1
      replace rg28 := keep hb rg28
      replace f4 := f4.below hb
      replace hB := hB.keep hb
      replace hw := Below.after hw hb
      clear hb
      refine hK_ _ _ (⟨rp0, rp1⟩) ?_
      simp only [Act.put, ZPa, ZPb, ZPc, ZPd, ZPe, ZPf]
      clear hK_
      refine eH_two (j := 8) (k := 10) (fuel := 3) (by kernel_rfl) rfl rfl (by kernel_rfl) (by kernel_rfl) (fun K_ hK_ => ?_) (fun K_ hK_ => ?_)
      ·skip
       refine wp_call_ex (f := 38) (by kernel_rfl) (ex1e (cA.at f4.2)) (fun v_ wq31 hX_ => ?_)
       obtain ⟨rfl, hb⟩ := hX_
       replace rp0 := keep hb rp0
       replace rp1 := keep hb rp1
       replace rp2 := keep hb rp2
       replace rp3 := keep hb rp3
       replace rc1 := keep hb rc1
       replace rg28 := keep hb rg28
       replace f4 := f4.below hb
       replace hB := hB.keep hb
       replace hw := Below.after hw hb
       clear hb
       refine hK_ _ _ (⟨rp0, rp1⟩) ?_
       simp only [Act.put, ZPa, ZPb, ZPc, ZPd, ZPe, ZPf]
       clear hK_
       refine eH_two (j := 9) (k := 10) (fuel := 2) (by kernel_rfl) rfl rfl (by kernel_rfl) (by kernel_rfl) (fun K_ hK_ => ?_) (fun K_ hK_ => ?_)
       ·skip
        refine wp_call_ex (f := 36) (by kernel_rfl) (ex1e (cS.at _)) (fun v_ wq32 hX_ => ?_)
        obtain ⟨rfl, hb⟩ := hX_
        replace rp0 := keep hb rp0
        replace rp1 := keep hb rp1
        replace rp2 := keep hb rp2
        replace rp3 := keep hb rp3
        replace rc1 := keep hb rc1
        replace rg28 := keep hb rg28
        replace f4 := f4.below hb
        replace hB := hB.keep hb
        replace hw := Below.after hw hb
        clear hb
        refine hK_ _ _ (⟨rp0, rp1⟩) ?_
        simp only [Act.put, ZPa, ZPb, ZPc, ZPd, ZPe, ZPf]
        clear hK_
        refine eH_one (k := 10) (fuel := 1) (by kernel_rfl) rfl (by kernel_rfl) (fun K_ hK_ => ?_)
        refine e_world_op (.pointer (some ⟨wq32.heap.size, 0, none⟩)) (wq32.alloc (.cells (kb 0) 25)) (by kernel_rfl) ?_
        have hb : Below wq32.heap.size wq32 (wq32.alloc (.cells (kb 0) 25)) := (Below.refl _ _).alloc (Nat.le_refl _) _
        have rg33 := hp1_0 wq32 (.cells (kb 0) 25)
        have lt_g33_0 := lt_of_row rp0
        have lt_g33_1 := lt_of_row rp1
        have lt_g33_2 := lt_of_row rp2
        have lt_g33_3 := lt_of_row rp3
        have lt_g33_4 := lt_of_row rc1
        have lt_g33_5 := lt_of_row rg28
        have sz_g33 := hw.size
        replace rp0 := keep hb rp0
        replace rp1 := keep hb rp1
        replace rp2 := keep hb rp2
        replace rp3 := keep hb rp3
        replace rc1 := keep hb rc1
        replace rg28 := keep hb rg28
        replace f4 := f4.below hb
        replace hB := hB.keep hb
        replace hw := Below.after hw hb
        clear hb
        refine hK_ _ _ (⟨rp0, rp1⟩) ?_
        simp only [Act.put, ZPa, ZPb, ZPc, ZPd, ZPe, ZPf]
        clear hK_
        generalize (wq32.alloc (.cells (kb 0) 25)) = wq33 at *
        generalize wq32.heap.size = g33 at *
        refine eH_one (k := 11) (fuel := 0) (by kernel_rfl) rfl (by kernel_rfl) (fun K_ hK_ => ?_)
        refine wp_store_row 25 _ _ rfl (g33) (kb S) rfl rfl 25 _ rg33 (kb_info _) ((kb_size _).trans (kb_size _).symm) (kb_one _) ?_
        have hN_ := setRow_heap wq33 (g33) _ (kb S) _ _ rg33
        replace rp0 := (setRow_other wq33 (g33) (w.heap.size) (kb S) (by omega)).trans rp0
        replace rp1 := (setRow_other wq33 (g33) (w.heap.size + 1) (kb S) (by omega)).trans rp1
        replace rp2 := (setRow_other wq33 (g33) (w.heap.size + 1 + 1) (kb S) (by omega)).trans rp2
        replace rp3 := (setRow_other wq33 (g33) (w.heap.size + 1 + 1 + 1) (kb S) (by omega)).trans rp3
        replace rc1 := (setRow_other wq33 (g33) (gc1) (kb S) (by omega)).trans rc1
        replace rg28 := (setRow_other wq33 (g33) (g28) (kb S) (by omega)).trans rg28
        replace hw := below_setRow hw (show w.heap.size ≤ g33 by omega) (kb S)
        replace f4 := hS.below hw
        replace hB := hB0.keep hw
        generalize (wq33.setRow (g33) (kb S)) = wq34 at *
        clear rg33
        have rg33 := hN_
        clear hN_
        refine hK_ _ _ (⟨rp0, rp1⟩) ?_
        simp only [Act.put]
        clear hK_
        refine wpAnyH_done (by kernel_rfl) ?_ _
        refine NoPanic.normal ?_
        go_wp2_with (fail)
        go_meet
        case rel => exact ⟨g33, rfl, by omega, by omega, by omega, by omega, by omega, by omega, rp0, rp1, rp2, rp3, rc1, rg33, f4, hB, hw⟩
       ·skip
        refine e_world_op (.pointer (some ⟨wq31.heap.size, 0, none⟩)) (wq31.alloc (.cells (kb 0) 25)) (by kernel_rfl) ?_
        have hb : Below wq31.heap.size wq31 (wq31.alloc (.cells (kb 0) 25)) := (Below.refl _ _).alloc (Nat.le_refl _) _
        have rg35 := hp1_0 wq31 (.cells (kb 0) 25)
        have lt_g35_0 := lt_of_row rp0
        have lt_g35_1 := lt_of_row rp1
        have lt_g35_2 := lt_of_row rp2
        have lt_g35_3 := lt_of_row rp3
        have lt_g35_4 := lt_of_row rc1
        have lt_g35_5 := lt_of_row rg28
        have sz_g35 := hw.size
        replace rp0 := keep hb rp0
        replace rp1 := keep hb rp1
        replace rp2 := keep hb rp2
        replace rp3 := keep hb rp3
        replace rc1 := keep hb rc1
        replace rg28 := keep hb rg28
        replace f4 := f4.below hb
        replace hB := hB.keep hb
        replace hw := Below.after hw hb
        clear hb
        refine hK_ _ _ (⟨rp0, rp1⟩) ?_
        simp only [Act.put, ZPa, ZPb, ZPc, ZPd, ZPe, ZPf]
        clear hK_
        generalize (wq31.alloc (.cells (kb 0) 25)) = wq35 at *
        generalize wq31.heap.size = g35 at *
        refine eH_one (k := 9) (fuel := 1) (by kernel_rfl) rfl (by kernel_rfl) (fun K_ hK_ => ?_)
        refine wp_call_ex (f := 36) (by kernel_rfl) (ex1e (cS.at _)) (fun v_ wq36 hX_ => ?_)
        obtain ⟨rfl, hb⟩ := hX_
        replace rp0 := keep hb rp0
        replace rp1 := keep hb rp1
        replace rp2 := keep hb rp2
        replace rp3 := keep hb rp3
        replace rc1 := keep hb rc1
        replace rg28 := keep hb rg28
        replace rg35 := keep hb rg35
        replace f4 := f4.below hb
        replace hB := hB.keep hb
        replace hw := Below.after hw hb
        clear hb
        refine hK_ _ _ (⟨rp0, rp1⟩) ?_
        simp only [Act.put, ZPa, ZPb, ZPc, ZPd, ZPe, ZPf]
        clear hK_
        refine eH_one (k := 11) (fuel := 0) (by kernel_rfl) rfl (by kernel_rfl) (fun K_ hK_ => ?_)
        refine wp_store_row 25 _ _ rfl (g35) (kb S) rfl rfl 25 _ rg35 (kb_info _) ((kb_size _).trans (kb_size _).symm) (kb_one _) ?_
        have hN_ := setRow_heap wq36 (g35) _ (kb S) _ _ rg35
        replace rp0 := (setRow_other wq36 (g35) (w.heap.size) (kb S) (by omega)).trans rp0
        replace rp1 := (setRow_other wq36 (g35) (w.heap.size + 1) (kb S) (by omega)).trans rp1
        replace rp2 := (setRow_other wq36 (g35) (w.heap.size + 1 + 1) (kb S) (by omega)).trans rp2
        replace rp3 := (setRow_other wq36 (g35) (w.heap.size + 1 + 1 + 1) (kb S) (by omega)).trans rp3
        replace rc1 := (setRow_other wq36 (g35) (gc1) (kb S) (by omega)).trans rc1
        replace rg28 := (setRow_other wq36 (g35) (g28) (kb S) (by omega)).trans rg28
        replace hw := below_setRow hw (show w.heap.size ≤ g35 by omega) (kb S)
        replace f4 := hS.below hw
        replace hB := hB0.keep hw
        generalize (wq36.setRow (g35) (kb S)) = wq37 at *
        clear rg35
        have rg35 := hN_
        clear hN_
        refine hK_ _ _ (⟨rp0, rp1⟩) ?_
        simp only [Act.put]
        clear hK_
        refine wpAnyH_done (by kernel_rfl) ?_ _
        refine NoPanic.normal ?_
        go_wp2_with (fail)
        go_meet
        case rel => exact ⟨g35, rfl, by omega, by omega, by omega, by omega, by omega, by omega, rp0, rp1, rp2, rp3, rc1, rg35, f4, hB, hw⟩
      ·skip
       refine e_world_op (.pointer (some ⟨wq30.heap.size, 0, none⟩)) (wq30.alloc (.cells (kb 0) 25)) (by kernel_rfl) ?_
       have hb : Below wq30.heap.size wq30 (wq30.alloc (.cells (kb 0) 25)) := (Below.refl _ _).alloc (Nat.le_refl _) _
       have rg38 := hp1_0 wq30 (.cells (kb 0) 25)
       have lt_g38_0 := lt_of_row rp0
       have lt_g38_1 := lt_of_row rp1
       have lt_g38_2 := lt_of_row rp2
       have lt_g38_3 := lt_of_row rp3
       have lt_g38_4 := lt_of_row rc1
       have lt_g38_5 := lt_of_row rg28
       have sz_g38 := hw.size
       replace rp0 := keep hb rp0
       replace rp1 := keep hb rp1
       replace rp2 := keep hb rp2
       replace rp3 := keep hb rp3
       replace rc1 := keep hb rc1
       replace rg28 := keep hb rg28
       replace f4 := f4.below hb
       replace hB := hB.keep hb
       replace hw := Below.after hw hb
       clear hb
       refine hK_ _ _ (⟨rp0, rp1⟩) ?_
       simp only [Act.put, ZPa, ZPb, ZPc, ZPd, ZPe, ZPf]
       clear hK_
       generalize (wq30.alloc (.cells (kb 0) 25)) = wq38 at *
       generalize wq30.heap.size = g38 at *
       refine eH_one (k := 8) (fuel := 2) (by kernel_rfl) rfl (by kernel_rfl) (fun K_ hK_ => ?_)
       refine wp_call_ex (f := 38) (by kernel_rfl) (ex1e (cA.at f4.2)) (fun v_ wq39 hX_ => ?_)
       obtain ⟨rfl, hb⟩ := hX_
       replace rp0 := keep hb rp0
       replace rp1 := keep hb rp1
       replace rp2 := keep hb rp2
       replace rp3 := keep hb rp3
       replace rc1 := keep hb rc1
       replace rg28 := keep hb rg28
       replace rg38 := keep hb rg38
       replace f4 := f4.below hb
       replace hB := hB.keep hb
       replace hw := Below.after hw hb
       clear hb
       refine hK_ _ _ (⟨rp0, rp1⟩) ?_
       simp only [Act.put, ZPa, ZPb, ZPc, ZPd, ZPe, ZPf]
       clear hK_
       refine eH_one (k := 9) (fuel := 1) (by kernel_rfl) rfl (by kernel_rfl) (fun K_ hK_ => ?_)
       refine wp_call_ex (f := 36) (by kernel_rfl) (ex1e (cS.at _)) (fun v_ wq40 hX_ => ?_)
       obtain ⟨rfl, hb⟩ := hX_
       replace rp0 := keep hb rp0
       replace rp1 := keep hb rp1
       replace rp2 := keep hb rp2
       replace rp3 := keep hb rp3
       replace rc1 := keep hb rc1
       replace rg28 := keep hb rg28
       replace rg38 := keep hb rg38
       replace f4 := f4.below hb
       replace hB := hB.keep hb
       replace hw := Below.after hw hb
       clear hb
       refine hK_ _ _ (⟨rp0, rp1⟩) ?_
       simp only [Act.put, ZPa, ZPb, ZPc, ZPd, ZPe, ZPf]
       clear hK_
       refine eH_one (k := 11) (fuel := 0) (by kernel_rfl) rfl (by kernel_rfl) (fun K_ hK_ => ?_)
       refine wp_store_row 25 _ _ rfl (g38) (kb S) rfl rfl 25 _ rg38 (kb_info _) ((kb_size _).trans (kb_size _).symm) (kb_one _) ?_
       have hN_ := setRow_heap wq40 (g38) _ (kb S) _ _ rg38
       replace rp0 := (setRow_other wq40 (g38) (w.heap.size) (kb S) (by omega)).trans rp0
       replace rp1 := (setRow_other wq40 (g38) (w.heap.size + 1) (kb S) (by omega)).trans rp1
       replace rp2 := (setRow_other wq40 (g38) (w.heap.size + 1 + 1) (kb S) (by omega)).trans rp2
       replace rp3 := (setRow_other wq40 (g38) (w.heap.size + 1 + 1 + 1) (kb S) (by omega)).trans rp3
       replace rc1 := (setRow_other wq40 (g38) (gc1) (kb S) (by omega)).trans rc1
       replace rg28 := (setRow_other wq40 (g38) (g28) (kb S) (by omega)).trans rg28
       replace hw := below_setRow hw (show w.heap.size ≤ g38 by omega) (kb S)
       replace f4 := hS.below hw
       replace hB := hB0.keep hw
       generalize (wq40.setRow (g38) (kb S)) = wq41 at *
       clear rg38
       have rg38 := hN_
       clear hN_
       refine hK_ _ _ (⟨rp0, rp1⟩) ?_
       simp only [Act.put]
       clear hK_
       refine wpAnyH_done (by kernel_rfl) ?_ _
       refine NoPanic.normal ?_
       go_wp2_with (fail)
       go_meet
       case rel => exact ⟨g38, rfl, by omega, by omega, by omega, by omega, by omega, by omega, rp0, rp1, rp2, rp3, rc1, rg38, f4, hB, hw⟩
     ·skip
      refine e_world_op (.pointer (some ⟨wq29.heap.size, 0, none⟩)) (wq29.alloc (.cells (kb 0) 25)) (by kernel_rfl) ?_
      have hb : Below wq29.heap.size wq29 (wq29.alloc (.cells (kb 0) 25)) := (Below.refl _ _).alloc (Nat.le_refl _) _
      have rg42 := hp1_0 wq29 (.cells (kb 0) 25)
      have lt_g42_0 := lt_of_row rp0
      have lt_g42_1 := lt_of_row rp1
      have lt_g42_2 := lt_of_row rp2
      have lt_g42_3 := lt_of_row rp3
      have lt_g42_4 := lt_of_row rc1
      have lt_g42_5 := lt_of_row rg28
      have sz_g42 := hw.size
      replace rp0 := keep hb rp0
      replace rp1 := keep hb rp1
      replace rp2 := keep hb rp2
      replace rp3 := keep hb rp3
      replace rc1 := keep hb rc1
      replace rg28 := keep hb rg28
      replace f4 := f4.below hb
      replace hB := hB.keep hb
      replace hw := Below.after hw hb
      clear hb
      refine hK_ _ _ (⟨rp0, rp1⟩) ?_
      simp only [Act.put, ZPa, ZPb, ZPc, ZPd, ZPe, ZPf]
      clear hK_
      generalize (wq29.alloc (.cells (kb 0) 25)) = wq42 at *
      generalize wq29.heap.size = g42 at *
      refine eH_one (k := 7) (fuel := 3) (by kernel_rfl) rfl (by kernel_rfl) (fun K_ hK_ => ?_)
      refine wp_call_ex (f := 42) (by kernel_rfl) (ex1e (cM.at f4.2)) (fun v_ wq43 hX_ => ?_)
      obtain ⟨rfl, hb⟩ := hX_
      replace rp0 := keep hb rp0
      replace rp1 := keep hb rp1
      replace rp2 := keep hb rp2
      replace rp3 := keep hb rp3
      replace rc1 := keep hb rc1
      replace rg28 := keep hb rg28
      replace rg42 := keep hb rg42
      replace f4 := f4.below hb
      replace hB := hB.keep hb
      replace hw := Below.after hw hb
      clear hb
      refine hK_ _ _ (⟨rp0, rp1⟩) ?_
      simp only [Act.put, ZPa, ZPb, ZPc, ZPd, ZPe, ZPf]
      clear hK_
      refine eH_one (k := 8) (fuel := 2) (by kernel_rfl) rfl (by kernel_rfl) (fun K_ hK_ => ?_)
      refine wp_call_ex (f := 38) (by kernel_rfl) (ex1e (cA.at f4.2)) (fun v_ wq44 hX_ => ?_)
      obtain ⟨rfl, hb⟩ := hX_
      replace rp0 := keep hb rp0
      replace rp1 := keep hb rp1
      replace rp2 := keep hb rp2
      replace rp3 := keep hb rp3
      replace rc1 := keep hb rc1
      replace rg28 := keep hb rg28
      replace rg42 := keep hb rg42
      replace f4 := f4.below hb
      replace hB := hB.keep hb
      replace hw := Below.after hw hb
      clear hb
      refine hK_ _ _ (⟨rp0, rp1⟩) ?_
      simp only [Act.put, ZPa, ZPb, ZPc, ZPd, ZPe, ZPf]
      clear hK_
      refine eH_one (k := 9) (fuel := 1) (by kernel_rfl) rfl (by kernel_rfl) (fun K_ hK_ => ?_)
      refine wp_call_ex (f := 36) (by kernel_rfl) (ex1e (cS.at _)) (fun v_ wq45 hX_ => ?_)
      obtain ⟨rfl, hb⟩ := hX_
      replace rp0 := keep hb rp0
      replace rp1 := keep hb rp1
      replace rp2 := keep hb rp2
      replace rp3 := keep hb rp3
      replace rc1 := keep hb rc1
      replace rg28 := keep hb rg28
      replace rg42 := keep hb rg42
      replace f4 := f4.below hb
      replace hB := hB.keep hb
      replace hw := Below.after hw hb
      clear hb
      refine hK_ _ _ (⟨rp0, rp1⟩) ?_
      simp only [Act.put, ZPa, ZPb, ZPc, ZPd, ZPe, ZPf]
      clear hK_
      refine eH_one (k := 11) (fuel := 0) (by kernel_rfl) rfl (by kernel_rfl) (fun K_ hK_ => ?_)
      refine wp_store_row 25 _ _ rfl (g42) (kb S) rfl rfl 25 _ rg42 (kb_info _) ((kb_size _).trans (kb_size _).symm) (kb_one _) ?_
      have hN_ := setRow_heap wq45 (g42) _ (kb S) _ _ rg42
      replace rp0 := (setRow_other wq45 (g42) (w.heap.size) (kb S) (by omega)).trans rp0
      replace rp1 := (setRow_other wq45 (g42) (w.heap.size + 1) (kb S) (by omega)).trans rp1
      replace rp2 := (setRow_other wq45 (g42) (w.heap.size + 1 + 1) (kb S) (by omega)).trans rp2
      replace rp3 := (setRow_other wq45 (g42) (w.heap.size + 1 + 1 + 1) (kb S) (by omega)).trans rp3
      replace rc1 := (setRow_other wq45 (g42) (gc1) (kb S) (by omega)).trans rc1
      replace rg28 := (setRow_other wq45 (g42) (g28) (kb S) (by omega)).trans rg28
      replace hw := below_setRow hw (show w.heap.size ≤ g42 by omega) (kb S)
      replace f4 := hS.below hw
      replace hB := hB0.keep hw
      generalize (wq45.setRow (g42) (kb S)) = wq46 at *
      clear rg42
      have rg42 := hN_
      clear hN_
      refine hK_ _ _ (⟨rp0, rp1⟩) ?_
      simp only [Act.put]
      clear hK_
      refine wpAnyH_done (by kernel_rfl) ?_ _
      refine NoPanic.normal ?_
      go_wp2_with (fail)
      go_meet
      case rel => exact ⟨g42, rfl, by omega, by omega, by omega, by omega, by omega, by omega, rp0, rp1, rp2, rp3, rc1, rg42, f4, hB, hw⟩
    ·skip
     refine e_world_op (.pointer (some ⟨wq28.heap.size, 0, none⟩)) (wq28.alloc (.cells (kb 0) 25)) (by kernel_rfl) ?_
     have hb : Below wq28.heap.size wq28 (wq28.alloc (.cells (kb 0) 25)) := (Below.refl _ _).alloc (Nat.le_refl _) _
     have rg47 := hp1_0 wq28 (.cells (kb 0) 25)
     have lt_g47_0 := lt_of_row rp0
     have lt_g47_1 := lt_of_row rp1
     have lt_g47_2 := lt_of_row rp2
     have lt_g47_3 := lt_of_row rp3
     have lt_g47_4 := lt_of_row rc1
     have lt_g47_5 := lt_of_row rg28
     have sz_g47 := hw.size
     replace rp0 := keep hb rp0
     replace rp1 := keep hb rp1
     replace rp2 := keep hb rp2
     replace rp3 := keep hb rp3
     replace rc1 := keep hb rc1
     replace rg28 := keep hb rg28
     replace f4 := f4.below hb
     replace hB := hB.keep hb
     replace hw := Below.after hw hb
     clear hb
     refine hK_ _ _ (⟨rp0, rp1⟩) ?_
     simp only [Act.put, ZPa, ZPb, ZPc, ZPd, ZPe, ZPf]
     clear hK_
     generalize (wq28.alloc (.cells (kb 0) 25)) = wq47 at *
     generalize wq28.heap.size = g47 at *
     refine eH_one (k := 5) (fuel := 4) (by kernel_rfl) rfl (by kernel_rfl) (fun K_ hK_ => ?_)
     refine wp_call_ex (f := 60) (by kernel_rfl) (ex1e (a_number [b32 R, b32 A, b] _ _ f4.2 (pck_row (vs := [.slice (some ⟨gc1, 0, none⟩) 32 32, .slice (some ⟨w.heap.size + 1 + 1, 0, none⟩) 32 32, .slice ao lb cap]) rg28 (.cons (bysK_row rc1) (.cons (bysK_row rp2) (.cons hB .nil))) rfl (by show 3 ≤ _; decide)) (by have := hB.2.2; simp [b32]; omega))) (fun v_ wq48 hX_ => ?_)
     obtain ⟨rfl, hb⟩ := hX_
     replace rp0 := keep hb rp0
     replace rp1 := keep hb rp1
     replace rp2 := keep hb rp2
     replace rp3 := keep hb rp3
     replace rc1 := keep hb rc1
     replace rg28 := keep hb rg28
     replace rg47 := keep hb rg47
     replace f4 := f4.below hb
     replace hB := hB.keep hb
     replace hw := Below.after hw hb
     clear hb
     refine hK_ _ _ (⟨rp0, rp1⟩) ?_
     simp only [Act.put, ZPa, ZPb, ZPc, ZPd, ZPe, ZPf]
     clear hK_
     rw [chl3]
     refine eH_one (k := 7) (fuel := 3) (by kernel_rfl) rfl (by kernel_rfl) (fun K_ hK_ => ?_)
     refine wp_call_ex (f := 42) (by kernel_rfl) (ex1e (cM.at f4.2)) (fun v_ wq49 hX_ => ?_)
     obtain ⟨rfl, hb⟩ := hX_
     replace rp0 := keep hb rp0
     replace rp1 := keep hb rp1
     replace rp2 := keep hb rp2
     replace rp3 := keep hb rp3
     replace rc1 := keep hb rc1
     replace rg28 := keep hb rg28
     replace rg47 := keep hb rg47
     replace f4 := f4.below hb
     replace hB := hB.keep hb
     replace hw := Below.after hw hb
     clear hb
     refine hK_ _ _ (⟨rp0, rp1⟩) ?_
     simp only [Act.put, ZPa, ZPb, ZPc, ZPd, ZPe, ZPf]
     clear hK_
     refine eH_one (k := 8) (fuel := 2) (by kernel_rfl) rfl (by kernel_rfl) (fun K_ hK_ => ?_)
     refine wp_call_ex (f := 38) (by kernel_rfl) (ex1e (cA.at f4.2)) (fun v_ wq50 hX_ => ?_)
     obtain ⟨rfl, hb⟩ := hX_
     replace rp0 := keep hb rp0
     replace rp1 := keep hb rp1
     replace rp2 := keep hb rp2
     replace rp3 := keep hb rp3
     replace rc1 := keep hb rc1
     replace rg28 := keep hb rg28
     replace rg47 := keep hb rg47
     replace f4 := f4.below hb
     replace hB := hB.keep hb
     replace hw := Below.after hw hb
     clear hb
     refine hK_ _ _ (⟨rp0, rp1⟩) ?_
     simp only [Act.put, ZPa, ZPb, ZPc, ZPd, ZPe, ZPf]
     clear hK_
     refine eH_one (k := 9) (fuel := 1) (by kernel_rfl) rfl (by kernel_rfl) (fun K_ hK_ => ?_)
     refine wp_call_ex (f := 36) (by kernel_rfl) (ex1e (cS.at _)) (fun v_ wq51 hX_ => ?_)
     obtain ⟨rfl, hb⟩ := hX_
     replace rp0 := keep hb rp0
     replace rp1 := keep hb rp1
     replace rp2 := keep hb rp2
     replace rp3 := keep hb rp3
     replace rc1 := keep hb rc1
     replace rg28 := keep hb rg28
     replace rg47 := keep hb rg47
     replace f4 := f4.below hb
     replace hB := hB.keep hb
     replace hw := Below.after hw hb
     clear hb
     refine hK_ _ _ (⟨rp0, rp1⟩) ?_
     simp only [Act.put, ZPa, ZPb, ZPc, ZPd, ZPe, ZPf]
     clear hK_
     refine eH_one (k := 11) (fuel := 0) (by kernel_rfl) rfl (by kernel_rfl) (fun K_ hK_ => ?_)
     refine wp_store_row 25 _ _ rfl (g47) (kb S) rfl rfl 25 _ rg47 (kb_info _) ((kb_size _).trans (kb_size _).symm) (kb_one _) ?_
     have hN_ := setRow_heap wq51 (g47) _ (kb S) _ _ rg47
     replace rp0 := (setRow_other wq51 (g47) (w.heap.size) (kb S) (by omega)).trans rp0
     replace rp1 := (setRow_other wq51 (g47) (w.heap.size + 1) (kb S) (by omega)).trans rp1
     replace rp2 := (setRow_other wq51 (g47) (w.heap.size + 1 + 1) (kb S) (by omega)).trans rp2
     replace rp3 := (setRow_other wq51 (g47) (w.heap.size + 1 + 1 + 1) (kb S) (by omega)).trans rp3
     replace rc1 := (setRow_other wq51 (g47) (gc1) (kb S) (by omega)).trans rc1
     replace rg28 := (setRow_other wq51 (g47) (g28) (kb S) (by omega)).trans rg28
     replace hw := below_setRow hw (show w.heap.size ≤ g47 by omega) (kb S)
     replace f4 := hS.below hw
     replace hB := hB0.keep hw
     generalize (wq51.setRow (g47) (kb S)) = wq52 at *
     clear rg47
     have rg47 := hN_
     clear hN_
     refine hK_ _ _ (⟨rp0, rp1⟩) ?_
     simp only [Act.put]
     clear hK_
     refine wpAnyH_done (by kernel_rfl) ?_ _
     refine NoPanic.normal ?_
     go_wp2_with (fail)
     go_meet
     case rel => exact ⟨g47, rfl, by omega, by omega, by omega, by omega, by omega, by omega, rp0, rp1, rp2, rp3, rc1, rg47, f4, hB, hw⟩
   ·skip
    refine e_world_op (.pointer (some ⟨wd22.heap.size, 0, none⟩)) (wd22.alloc (.cells (kb 0) 25)) (by kernel_rfl) ?_
    have hb : Below wd22.heap.size wd22 (wd22.alloc (.cells (kb 0) 25)) := (Below.refl _ _).alloc (Nat.le_refl _) _
    have rg53 := hp1_0 wd22 (.cells (kb 0) 25)
    have lt_g53_0 := lt_of_row rp0
    have lt_g53_1 := lt_of_row rp1
    have lt_g53_2 := lt_of_row rp2
    have lt_g53_3 := lt_of_row rp3
    have lt_g53_4 := lt_of_row rc1
    have sz_g53 := hw.size
    replace rp0 := keep hb rp0
    replace rp1 := keep hb rp1
    replace rp2 := keep hb rp2
    replace rp3 := keep hb rp3
    replace rc1 := keep hb rc1
    replace f4 := f4.below hb
    replace hB := hB.keep hb
    replace hw := Below.after hw hb
    clear hb
    refine hK_ _ _ (⟨rp0, rp1⟩) ?_
    simp only [Act.put, ZPa, ZPb, ZPc, ZPd, ZPe, ZPf]
    clear hK_
    generalize (wd22.alloc (.cells (kb 0) 25)) = wq53 at *
    generalize wd22.heap.size = g53 at *
    refine eH_one (k := 4) (fuel := 5) (by kernel_rfl) rfl (by kernel_rfl) (fun K_ hK_ => ?_)
    refine e_world_op (.slice (some ⟨wq53.heap.size, 0, none⟩) 3 3) (wq53.alloc (.cells #[.slice (some ⟨gc1, 0, none⟩) 32 32, .slice (some ⟨w.heap.size + 1 + 1, 0, none⟩) 32 32, .slice ao lb cap] 22)) (by kernel_rfl) ?_
    have hb : Below wq53.heap.size wq53 (wq53.alloc (.cells #[.slice (some ⟨gc1, 0, none⟩) 32 32, .slice (some ⟨w.heap.size + 1 + 1, 0, none⟩) 32 32, .slice ao lb cap] 22)) := (Below.refl _ _).alloc (Nat.le_refl _) _
    have rg54 := hp1_0 wq53 (.cells #[.slice (some ⟨gc1, 0, none⟩) 32 32, .slice (some ⟨w.heap.size + 1 + 1, 0, none⟩) 32 32, .slice ao lb cap] 22)
    have lt_g54_0 := lt_of_row rp0
    have lt_g54_1 := lt_of_row rp1
    have lt_g54_2 := lt_of_row rp2
    have lt_g54_3 := lt_of_row rp3
    have lt_g54_4 := lt_of_row rc1
    have lt_g54_5 := lt_of_row rg53
    have sz_g54 := hw.size
    replace rp0 := keep hb rp0
    replace rp1 := keep hb rp1
    replace rp2 := keep hb rp2
    replace rp3 := keep hb rp3
    replace rc1 := keep hb rc1
    replace rg53 := keep hb rg53
    replace f4 := f4.below hb
    replace hB := hB.keep hb
    replace hw := Below.after hw hb
    clear hb
    refine hK_ _ _ (⟨rp0, rp1⟩) ?_
    simp only [Act.put, ZPa, ZPb, ZPc, ZPd, ZPe, ZPf]
    clear hK_
    generalize (wq53.alloc (.cells #[.slice (some ⟨gc1, 0, none⟩) 32 32, .slice (some ⟨w.heap.size + 1 + 1, 0, none⟩) 32 32, .slice ao lb cap] 22)) = wq54 at *
    generalize wq53.heap.size = g54 at *
    refine eH_one (k := 5) (fuel := 4) (by kernel_rfl) rfl (by kernel_rfl) (fun K_ hK_ => ?_)
    refine wp_call_ex (f := 60) (by kernel_rfl) (ex1e (a_number [b32 R, b32 A, b] _ _ f4.2 (pck_row (vs := [.slice (some ⟨gc1, 0, none⟩) 32 32, .slice (some ⟨w.heap.size + 1 + 1, 0, none⟩) 32 32, .slice ao lb cap]) rg54 (.cons (bysK_row rc1) (.cons (bysK_row rp2) (.cons hB .nil))) rfl (by show 3 ≤ _; decide)) (by have := hB.2.2; simp [b32]; omega))) (fun v_ wq55 hX_ => ?_)
    obtain ⟨rfl, hb⟩ := hX_
    replace rp0 := keep hb rp0
    replace rp1 := keep hb rp1
    replace rp2 := keep hb rp2
    replace rp3 := keep hb rp3
    replace rc1 := keep hb rc1
    replace rg53 := keep hb rg53
    replace rg54 := keep hb rg54
    replace f4 := f4.below hb
    replace hB := hB.keep hb
    replace hw := Below.after hw hb
    clear hb
    refine hK_ _ _ (⟨rp0, rp1⟩) ?_
    simp only [Act.put, ZPa, ZPb, ZPc, ZPd, ZPe, ZPf]
    clear hK_
    rw [chl3]
    refine eH_one (k := 7) (fuel := 3) (by kernel_rfl) rfl (by kernel_rfl) (fun K_ hK_ => ?_)
    refine wp_call_ex (f := 42) (by kernel_rfl) (ex1e (cM.at f4.2)) (fun v_ wq56 hX_ => ?_)
    obtain ⟨rfl, hb⟩ := hX_
    replace rp0 := keep hb rp0
    replace rp1 := keep hb rp1
    replace rp2 := keep hb rp2
    replace rp3 := keep hb rp3
    replace rc1 := keep hb rc1
    replace rg53 := keep hb rg53
    replace rg54 := keep hb rg54
    replace f4 := f4.below hb
    replace hB := hB.keep hb
    replace hw := Below.after hw hb
    clear hb
    refine hK_ _ _ (⟨rp0, rp1⟩) ?_
    simp only [Act.put, ZPa, ZPb, ZPc, ZPd, ZPe, ZPf]
    clear hK_
    refine eH_one (k := 8) (fuel := 2) (by kernel_rfl) rfl (by kernel_rfl) (fun K_ hK_ => ?_)
    refine wp_call_ex (f := 38) (by kernel_rfl) (ex1e (cA.at f4.2)) (fun v_ wq57 hX_ => ?_)
    obtain ⟨rfl, hb⟩ := hX_
    replace rp0 := keep hb rp0
    replace rp1 := keep hb rp1
    replace rp2 := keep hb rp2
    replace rp3 := keep hb rp3
    replace rc1 := keep hb rc1
    replace rg53 := keep hb rg53
    replace rg54 := keep hb rg54
    replace f4 := f4.below hb
    replace hB := hB.keep hb
    replace hw := Below.after hw hb
    clear hb
    refine hK_ _ _ (⟨rp0, rp1⟩) ?_
    simp only [Act.put, ZPa, ZPb, ZPc, ZPd, ZPe, ZPf]
    clear hK_
    refine eH_one (k := 9) (fuel := 1) (by kernel_rfl) rfl (by kernel_rfl) (fun K_ hK_ => ?_)
    refine wp_call_ex (f := 36) (by kernel_rfl) (ex1e (cS.at _)) (fun v_ wq58 hX_ => ?_)
    obtain ⟨rfl, hb⟩ := hX_
    replace rp0 := keep hb rp0
    replace rp1 := keep hb rp1
    replace rp2 := keep hb rp2
    replace rp3 := keep hb rp3
    replace rc1 := keep hb rc1
    replace rg53 := keep hb rg53
    replace rg54 := keep hb rg54
    replace f4 := f4.below hb
    replace hB := hB.keep hb
    replace hw := Below.after hw hb
    clear hb
    refine hK_ _ _ (⟨rp0, rp1⟩) ?_
    simp only [Act.put, ZPa, ZPb, ZPc, ZPd, ZPe, ZPf]
    clear hK_
    refine eH_one (k := 11) (fuel := 0) (by kernel_rfl) rfl (by kernel_rfl) (fun K_ hK_ => ?_)
    refine wp_store_row 25 _ _ rfl (g53) (kb S) rfl rfl 25 _ rg53 (kb_info _) ((kb_size _).trans (kb_size _).symm) (kb_one _) ?_
    have hN_ := setRow_heap wq58 (g53) _ (kb S) _ _ rg53
    replace rp0 := (setRow_other wq58 (g53) (w.heap.size) (kb S) (by omega)).trans rp0
    replace rp1 := (setRow_other wq58 (g53) (w.heap.size + 1) (kb S) (by omega)).trans rp1
    replace rp2 := (setRow_other wq58 (g53) (w.heap.size + 1 + 1) (kb S) (by omega)).trans rp2
    replace rp3 := (setRow_other wq58 (g53) (w.heap.size + 1 + 1 + 1) (kb S) (by omega)).trans rp3
    replace rc1 := (setRow_other wq58 (g53) (gc1) (kb S) (by omega)).trans rc1
    replace rg54 := (setRow_other wq58 (g53) (g54) (kb S) (by omega)).trans rg54
    replace hw := below_setRow hw (show w.heap.size ≤ g53 by omega) (kb S)
    replace f4 := hS.below hw
    replace hB := hB0.keep hw
    generalize (wq58.setRow (g53) (kb S)) = wq59 at *
    clear rg53
    have rg53 := hN_
    clear hN_
    refine hK_ _ _ (⟨rp0, rp1⟩) ?_
    simp only [Act.put]
    clear hK_
    refine wpAnyH_done (by kernel_rfl) ?_ _
    refine NoPanic.normal ?_
    go_wp2_with (fail)
    go_meet
    case rel => exact ⟨g53, rfl, by omega, by omega, by omega, by omega, by omega, by omega, rp0, rp1, rp2, rp3, rc1, rg53, f4, hB, hw⟩
  case rest =>
   obtain ⟨gc21, rfl, ltc21_0, ltc21_1, ltc21_2, ltc21_3, ltc21_4, szc21, rp0, rp1, rp2, rp3, rc1, rc21, f4, hB, hw⟩ := hcut
   go_wp2_with (first | (refine wpList_load_want rfl 54 _ rfl (w.heap.size) rfl 54 xa (0, 0) _ rp0 Tryd.underlying54 rfl oa.infoS ?_) | (refine wpList_load_want rfl 54 _ rfl (w.heap.size + 1) rfl 54 xr (0, 0) _ rp1 Tryd.underlying54 rfl or.infoS ?_) | (refine wpList_load_want rfl 25 _ rfl (w.heap.size + 1 + 1) rfl 25 (kb A) (0, 0) _ rp2 Tryd.underlying25 rfl (kb_info _) ?_) | (refine wpList_load_want rfl 30 _ rfl (w.heap.size + 1 + 1 + 1) rfl 30 (Wi.irow .u8 (Wi.zr 64)) (0, 0) _ rp3 Tryd.underlying30 rfl (z64_infoG) ?_) | (refine wpList_load_want rfl 25 _ rfl (gc1) rfl 25 (kb R) (0, 0) _ rc1 Tryd.underlying25 rfl (kb_info _) ?_) | (refine wpList_load_want rfl 25 _ rfl (gc21) rfl 25 (kb S) (0, 0) _ rc21 Tryd.underlying25 rfl (kb_info _) ?_) | fail)
   refine (cJ.at _).mono ?_
   rintro e_ w9 ⟨rfl, hb⟩
   replace rp0 := keep hb rp0
   replace rp1 := keep hb rp1
   replace rp2 := keep hb rp2
   replace rp3 := keep hb rp3
   replace rc1 := keep hb rc1
   replace rc21 := keep hb rc21
   replace f4 := f4.below hb
   replace hB := hB.keep hb
   replace hw := Below.after hw hb
   clear hb
   go_wp2_with (first | (refine wpList_load_want rfl 54 _ rfl (w.heap.size) rfl 54 xa (0, 0) _ rp0 Tryd.underlying54 rfl oa.infoS ?_) | (refine wpList_load_want rfl 54 _ rfl (w.heap.size + 1) rfl 54 xr (0, 0) _ rp1 Tryd.underlying54 rfl or.infoS ?_) | (refine wpList_load_want rfl 25 _ rfl (w.heap.size + 1 + 1) rfl 25 (kb A) (0, 0) _ rp2 Tryd.underlying25 rfl (kb_info _) ?_) | (refine wpList_load_want rfl 30 _ rfl (w.heap.size + 1 + 1 + 1) rfl 30 (Wi.irow .u8 (Wi.zr 64)) (0, 0) _ rp3 Tryd.underlying30 rfl (z64_infoG) ?_) | (refine wpList_load_want rfl 25 _ rfl (gc1) rfl 25 (kb R) (0, 0) _ rc1 Tryd.underlying25 rfl (kb_info _) ?_) | (refine wpList_load_want rfl 25 _ rfl (gc21) rfl 25 (kb S) (0, 0) _ rc21 Tryd.underlying25 rfl (kb_info _) ?_) | (refine wpList_store_row rfl 30 _ _ rfl (w.heap.size + 1 + 1 + 1) (sg R S) rfl rfl 30 _ rp3 (sg_infoG _ _) ((z64_size).trans (sg_size _ _).symm) (sg_one _ _) ?_) | fail)
   exact bodyPost_ret (v := .agg (sg R S)) (results_cell_row Tryd.results61 _ _ (w.heap.size + 1 + 1 + 1) _ (sg R S) _ _ rfl (setRow_heap _ _ _ _ _ _ rp3) Tryd.underlying30 rfl (sg_infoG _ _)) rfl ⟨rfl, below_setRow hw (by omega) _⟩
theorem a_signed {a r A : Int} {b : List Int} (ha : 0 ≤ a ∧ a < L19) (hr : 0 ≤ r ∧ r < L19) (w : World) (v : Value) (hS : Sgn w) (hB : BysK w v b) : Calls Tryd.prog 61 #[.agg (wd a), .agg (wd r), .agg (kb A), v] w fun e w' => e = .returned (.agg (sg (sgR r) (sgS a r A b))) ∧ Below w.heap.size w w' := by
 obtain ⟨xb, hb, cB⟩ := a_Base
 obtain ⟨x1, h1, cT⟩ := a_Times hb hr
 have hc := nbr_bd (b32 (sgR r) ++ (b32 A ++ b))
 obtain ⟨ao, cap, rfl, _⟩ := hB.slc
 have e : (r + chl (sgR r) A b * a % L19) % L19 = sgS a r A b := by
  unfold sgS
  generalize chl (sgR r) A b * a = q
  unfold L19
  omega
 rw [← e]
 exact signed_walk (wdo a) (wdo r) cB cT (a_Bytes h1) (a_smul hc ha) (a_sadd hr (mod_L _)) (a_sBytes _) w hS hB
end Go.Proofs.YtajaiiidafkijaaDoor

