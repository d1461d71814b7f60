import Derived.Test.YtamieopjigjfiaaDoorProg
import Derived.WalkKit
import Derived.WalkSpells
import Derived.WalkLawsBesides
import Derived.Lib.QuietBelow
import Derived.BigQuiet
import Derived.OrdersHeld
import Derived.OwnWalk
import Derived.Lib.SlBytesConst
import Derived.Deep.RegionHeld3
import Derived.Test.YtamieopjigjfiaaDoorKa
import Derived.Test.YtamieopjigjfiaaDoorSe
namespace Go.Proofs.YtamieopjigjfiaaDoor
set_option maxRecDepth 100000
open Go Go.RowKit Go.Sort
attribute [local go_sem] setCell_drewN alloc_drewN


set_option maxRecDepth 100000 in
set_option maxHeartbeats 4000000 in
theorem q_keys (key : List B) (hk : key.length = 32) (w : World) : Calls Tryd.prog 10 #[.agg (irow .u8 (bl key))] w fun e w' => e = .returned (.tuple #[.agg (irow .u8 (bl (ck key))), .agg (irow .u8 (bl (tk key)))]) ∧ Below w.heap.size w w' := by
  have hkl : (bl key).length = 32 := by rw [bl_len, hk]
  have hcl : (bl (ck key)).length = 32 := by rw [bl_len, ck_len]
  have hdl : (bl (tk key)).length = 32 := by rw [bl_len, tk_len]
  have hzl := zr_len 32
  have R0 := hp3_0 w (.cells (irow .u8 (bl key)) 23) (.cells (irow .u8 (zr 32)) 23) (.cells (irow .u8 (zr 32)) 23)
  have R1 := hp3_1 w (.cells (irow .u8 (bl key)) 23) (.cells (irow .u8 (zr 32)) 23) (.cells (irow .u8 (zr 32)) 23)
  have R2 := hp3_2 w (.cells (irow .u8 (bl key)) 23) (.cells (irow .u8 (zr 32)) 23) (.cells (irow .u8 (zr 32)) 23)
  have hw : Below w.heap.size w (((w.alloc (.cells (irow .u8 (bl key)) 23)).alloc (.cells (irow .u8 (zr 32)) 23)).alloc (.cells (irow .u8 (zr 32)) 23)) := ((((Below.refl _ _).alloc (Nat.le_refl _) _).alloc (by simp) _).alloc (by simp; omega) _)
  have hz0 : (((w.alloc (.cells (irow .u8 (bl key)) 23)).alloc (.cells (irow .u8 (zr 32)) 23)).alloc (.cells (irow .u8 (zr 32)) 23)).heap.size = w.heap.size + 1 + 1 + 1 := by rw [size_alloc1, size_alloc1, size_alloc1]
  have cvs : (convert 29 29 (.slice (some ⟨w.heap.size + 1 + 1 + 1, 0, none⟩) 9 9)).run Tryd.prog ((((w.alloc (.cells (irow .u8 (bl key)) 23)).alloc (.cells (irow .u8 (zr 32)) 23)).alloc (.cells (irow .u8 (zr 32)) 23)).alloc (.cells #[.int .u8 112, .int .u8 97, .int .u8 119, .int .u8 108, .int .u8 32, .int .u8 115, .int .u8 101, .int .u8 97, .int .u8 108] 5)) = .ok (.slice (some ⟨w.heap.size + 1 + 1 + 1, 0, none⟩) 9 9) ((((w.alloc (.cells (irow .u8 (bl key)) 23)).alloc (.cells (irow .u8 (zr 32)) 23)).alloc (.cells (irow .u8 (zr 32)) 23)).alloc (.cells #[.int .u8 112, .int .u8 97, .int .u8 119, .int .u8 108, .int .u8 32, .int .u8 115, .int .u8 101, .int .u8 97, .int .u8 108] 5 (9, 10))) := by
    have h := Go.Lib.run_convert_bytes_const (P := Tryd.prog) (((w.alloc (.cells (irow .u8 (bl key)) 23)).alloc (.cells (irow .u8 (zr 32)) 23)).alloc (.cells (irow .u8 (zr 32)) 23)) 29 5 #[.int .u8 112, .int .u8 97, .int .u8 119, .int .u8 108, .int .u8 32, .int .u8 115, .int .u8 101, .int .u8 97, .int .u8 108] 9 9 Tryd.underlying29 Tryd.underlying5
    rw [hz0] at h
    exact h
  go_enter Tryd.func10, Tryd.ntmps10
  go_wp2_with (first | (refine wpList_box rfl 23 _ rfl _ rfl (bK _) ?_) | (refine wpList_alloc rfl 23 rfl (irow .u8 (zr 32)) zkey ?_) | (refine wpList_load_want rfl 23 _ rfl (w.heap.size) rfl 23 (irow .u8 (bl key)) (0, 0) _ R0 Tryd.underlying23 rfl (infok8 _ hkl) ?_) | fail)
  try simp only [size_alloc1, Act.put, List.setIfInBounds_toArray, List.set_cons_succ, List.set_cons_zero]
  clear cvs
  generalize (((w.alloc (.cells (irow .u8 (bl key)) 23)).alloc (.cells (irow .u8 (zr 32)) 23)).alloc (.cells (irow .u8 (zr 32)) 23)) = w0 at *
  have hba : Below w0.heap.size w0 (w0.alloc (.cells #[.int .u8 112, .int .u8 97, .int .u8 119, .int .u8 108, .int .u8 32, .int .u8 115, .int .u8 101, .int .u8 97, .int .u8 108] 5 (9, 10))) := (Below.refl _ _).alloc (Nat.le_refl _) _
  have hI := ps9_bys w0
  rw [hz0] at hI
  replace R1 := keep hba R1
  replace R2 := keep hba R2
  replace hw := Below.after hw hba
  generalize w0.alloc (.cells #[.int .u8 112, .int .u8 97, .int .u8 119, .int .u8 108, .int .u8 32, .int .u8 115, .int .u8 101, .int .u8 97, .int .u8 108] 5 (9, 10)) = w1 at *
  have cX := r_expand4 (bl key) ps9 64 w1 _ hkl (bl_bnd _) ⟨hI, by decide, fun a l c h h2 => by cases h; cases h2⟩ (by decide) (by decide)
  clear hba hI R0 hz0
  refine cX.mono ?_
  rintro e_ w2 ⟨v, rfl, hx, hb⟩
  have l1w := lt_of_row R1
  have l2w := lt_of_row R2
  have hbs := hb.size
  replace R1 := keep hb R1
  replace R2 := keep hb R2
  replace hw := Below.after hw hb
  clear hb cX
  have hxl := xpd_len (bl key) ps9 64
  have ext : ∀ i, i < 32 → (xpd (bl key) ps9 64).getD i 0 = (bl (ck key)).getD i 0 ∧ (xpd (bl key) ps9 64).getD (32 + i) 0 = (bl (tk key)).getD i 0 := fun i hi => by
    rw [bl_ck, bl_tk, List.getD_eq_getElem?_getD, List.getD_eq_getElem?_getD, List.getD_eq_getElem?_getD, List.getD_eq_getElem?_getD, List.getElem?_take_of_lt hi, List.getElem?_drop]
    exact ⟨rfl, rfl⟩
  obtain ⟨⟨ao, cap, rfl, _, hc, _⟩, _⟩ := hx
  rw [hxl] at hc ⊢
  replace hc : ∀ i, i < 32 → ∃ b off, ao = some ⟨b, off, none⟩ ∧ b < w2.heap.size ∧ w2.cell? ⟨b, off + i, none⟩ = some (.int .u8 ((bl (ck key)).getD i 0)) ∧ w2.cell? ⟨b, off + (32 + i), none⟩ = some (.int .u8 ((bl (tk key)).getD i 0)) := fun i hi => by
    obtain ⟨b, off, rfl, hb, h1⟩ := hc i (by omega)
    obtain ⟨b2, off2, e2, _, h2⟩ := hc (32 + i) (by omega)
    cases e2
    exact ⟨b, off, rfl, hb, by rw [h1, (ext i hi).1], by rw [h2, (ext i hi).2]⟩
  obtain ⟨b, off, rfl, hbl, _⟩ := hc 0 (by decide)
  replace hc : ∀ i, i < 32 → w2.cell? ⟨b, off + i, none⟩ = some (.int .u8 ((bl (ck key)).getD i 0)) ∧ w2.cell? ⟨b, off + (32 + i), none⟩ = some (.int .u8 ((bl (tk key)).getD i 0)) := fun i hi => by
    obtain ⟨b', off', e, _, h1, h2⟩ := hc i hi
    cases e
    exact ⟨h1, h2⟩
  clear ext hxl
  generalize eCK : bl (ck key) = CK at *
  generalize eTG : bl (tk key) = TG at *
  replace eCK := hide eCK
  replace eTG := hide eTG
  have zc := mix_zero CK (zr 32)
  have zt := mix_zero TG (zr 32)
  have hw2 : Below w.heap.size w ((w2.alloc (.cells (irow .u8 (zr 32)) 23)).alloc (.cells (irow .u8 (zr 32)) 23)) := (hw.alloc hw.size _).alloc (by rw [size_alloc1]; have := hw.size; omega) _
  have hcw : Below w2.heap.size w2 ((w2.alloc (.cells (irow .u8 (zr 32)) 23)).alloc (.cells (irow .u8 (zr 32)) 23)) := ((Below.refl _ _).alloc (Nat.le_refl _) _).alloc (by simp) _
  have R3 := hp2_0 w2 (.cells (irow .u8 (zr 32)) 23) (.cells (irow .u8 (zr 32)) 23)
  have R4 := hp2_1 w2 (.cells (irow .u8 (zr 32)) 23) (.cells (irow .u8 (zr 32)) 23)
  replace R1 := keep hcw R1
  replace R2 := keep hcw R2
  have hs2 := hw.size
  go_wp2_with (first | (refine wpList_alloc rfl 23 rfl (irow .u8 (zr 32)) zkey ?_) | fail)
  clear hw
  generalize (w2.alloc (.cells (irow .u8 (zr 32)) 23)).alloc (.cells (irow .u8 (zr 32)) 23) = w3 at *
  rw [← zc] at R3
  rw [← zt] at R4
  go_wp2_with (fail)
  go_loopw [8] (fun i wr => ∃ k : Nat, k ≤ 32 ∧ i = .int .i64 k ∧ wr.heap[w2.heap.size]? = some (.cells (irow .u8 (mix CK (zr 32) k)) 23 (0, 0)) ∧ wr.heap[w2.heap.size + 1]? = some (.cells (irow .u8 (mix TG (zr 32) k)) 23 (0, 0)) ∧ wr.heap[w.heap.size + 1]? = some (.cells (irow .u8 (zr 32)) 23 (0, 0)) ∧ wr.heap[w.heap.size + 1 + 1]? = some (.cells (irow .u8 (zr 32)) 23 (0, 0)) ∧ Below w2.heap.size w2 wr ∧ Below w.heap.size w wr) (fun i _ => 32 - (intOf i).toNat)
  case atStart => exact ⟨0, by omega, rfl, R3, R4, R1, R2, hcw, hw2⟩
  case round =>
    clear R1 R2 R3 R4 hw2 hcw zc zt
    obtain ⟨k, hk2, rfl, R3, R4, R1, R2, hcw, hw⟩ := hrel
    by_cases hlt : k < 32
    · have hd : decide ((k : Int) < 32) = true := by simp; omega
      obtain ⟨h1, h2⟩ := hc k hlt
      have m1 := mix_set CK (zr 32) k (by omega) (by omega)
      have m2 := mix_set TG (zr 32) k (by omega) (by omega)
      have n1 := mix_length CK (zr 32) k (by omega) (by omega)
      have n2 := mix_length TG (zr 32) k (by omega) (by omega)
      generalize CK.getD k 0 = x at *
      generalize TG.getD k 0 = y at *
      have c1 := (hcw.cell (p := ⟨b, off + k, none⟩) hbl).trans h1
      have f3 := row_frozen R3 k
      have d3 := irow_cell R3 (j := k) (by omega)
      have R3' := irow_set R3 k x
      rw [m1] at R3'
      have R4a : (wr.setCell ⟨w2.heap.size, k, none⟩ (.int .u8 x)).heap[w2.heap.size + 1]? = _ := heap_other R4 (by omega)
      have R1a : (wr.setCell ⟨w2.heap.size, k, none⟩ (.int .u8 x)).heap[w.heap.size + 1]? = _ := heap_other R1 (by omega)
      have R2a : (wr.setCell ⟨w2.heap.size, k, none⟩ (.int .u8 x)).heap[w.heap.size + 1 + 1]? = _ := heap_other R2 (by omega)
      have hcwa := hcw.setCell (show w2.heap.size ≤ (⟨w2.heap.size, k, none⟩ : Addr).block from Nat.le_refl _) (.int .u8 x)
      have hwa := hw.setCell (show w.heap.size ≤ (⟨w2.heap.size, k, none⟩ : Addr).block from hs2) (.int .u8 x)
      have c2 := (hcwa.cell (p := ⟨b, off + (32 + k), none⟩) hbl).trans h2
      have f4 := row_frozen R4a k
      have d4 := irow_cell R4a (j := k) (by omega)
      clear h1 h2 m1 R3 R4 R1 R2 hcw hw hc n1 n2
      generalize (mix CK (zr 32) k).getD k 0 = x0 at *
      generalize (mix TG (zr 32) k).getD k 0 = y0 at *
      go_wp2_with (fail)
      have R4' := irow_set R4a k y
      rw [m2] at R4'
      refine ⟨⟨k + 1, by omega, by go_num, heap_other R3' (by omega), R4', heap_other R1a (by omega), heap_other R2a (by omega), hcwa.setCell (show w2.heap.size ≤ (⟨w2.heap.size + 1, k, none⟩ : Addr).block from Nat.le_succ _) (.int .u8 y), hwa.setCell (show w.heap.size ≤ (⟨w2.heap.size + 1, k, none⟩ : Addr).block from Nat.le_succ_of_le hs2) (.int .u8 y)⟩, ?_⟩
      simp [intOf]; omega
    · obtain rfl : k = 32 := by omega
      have hd : decide ((32 : Int) < 32) = false := by decide
      have ac := mix_all CK (zr 32) (by omega)
      have at_ := mix_all TG (zr 32) (by omega)
      rw [hzl] at ac at_
      rw [ac] at R3
      rw [at_] at R4
      clear ac at_ hc
      go_wp2_with (fail)
      have hbd : Below wr.heap.size wr wr.drew := below_drN (Below.refl _ _) 1
      replace R1 := keep hbd R1
      replace R2 := keep hbd R2
      replace R3 := keep hbd R3
      replace R4 := keep hbd R4
      replace hw := Below.after hw hbd
      clear hbd
      refine wp_region_noPanic ?_
      refine wp_region_held (S := fun W => W.heap[w2.heap.size]? = some (.cells (irow .u8 CK) 23 (0, 0)) ∧ W.heap[w2.heap.size + 1]? = some (.cells (irow .u8 TG) 23 (0, 0))) (by kernel_rfl) ?_
      change wpAnyH _ _ _ _ _ _ _ _ (World.drew _)
      generalize wr.drew = wz at *
      refine wpAnyH_take (i := 0) (v := .agg (irow .u8 CK)) rfl (by kernel_rfl) (by kernel_rfl) (by kernel_rfl) (fun _ _ _ h => h) (Or.inl ⟨by rfl, ?y1⟩) (⟨R3, R4⟩) ?r1
      case y1 =>
        intro w_ hS_
        simp only [List.getElem_toArray, List.getElem_cons_zero]
        exact run_load_part 23 _ (by rfl) (w2.heap.size) 0 (by rfl) 23 (irow .u8 CK) (0, 0) (irow .u8 CK) _ (hS_.1) (all_row _) Tryd.underlying23 rfl (infok8 _ hcl)
      simp only [Act.put, List.getElem_toArray, List.getElem_cons_zero, List.setIfInBounds_toArray, List.set_cons_succ, List.set_cons_zero]
      refine wpAnyH_take (i := 1) (v := .agg (irow .u8 TG)) rfl (by kernel_rfl) (by kernel_rfl) (by kernel_rfl) (fun _ _ _ h => h) (Or.inl ⟨by rfl, ?y2⟩) (⟨R3, R4⟩) ?r2
      case y2 =>
        intro w_ hS_
        simp only [List.getElem_toArray, List.getElem_cons_succ, List.getElem_cons_zero]
        exact run_load_part 23 _ (by rfl) (w2.heap.size + 1) 0 (by rfl) 23 (irow .u8 TG) (0, 0) (irow .u8 TG) _ (hS_.2) (all_row _) Tryd.underlying23 rfl (infok8 _ hdl)
      simp only [Act.put, List.getElem_toArray, List.getElem_cons_succ, List.getElem_cons_zero, List.setIfInBounds_toArray, List.set_cons_succ, List.set_cons_zero]
      refine wpAnyH_one (k := 2) (fuel := 1) (by kernel_rfl) rfl (by kernel_rfl) (fun K_ hK_ => ?_)
      refine wp_store_row 23 _ _ rfl (w.heap.size + 1) (irow .u8 CK) rfl rfl 23 _ R1 (infok8 _ hcl) (fit32 _ _ (zr_len 32) hcl) (irow_one _ _) ?_
      replace R2 := (setRow_other wz (w.heap.size + 1) (w.heap.size + 1 + 1) (irow .u8 CK) (by omega)).trans R2
      replace R3 := (setRow_other wz (w.heap.size + 1) (w2.heap.size) (irow .u8 CK) (by omega)).trans R3
      replace R4 := (setRow_other wz (w.heap.size + 1) (w2.heap.size + 1) (irow .u8 CK) (by omega)).trans R4
      replace R1 := setRow_heap wz (w.heap.size + 1) _ (irow .u8 CK) _ _ R1
      replace hw := below_setRow hw (show w.heap.size ≤ w.heap.size + 1 by omega) (irow .u8 CK)
      refine hK_ _ _ (⟨R3, R4⟩) ?_
      simp only [Act.put]
      clear hK_
      generalize wz.setRow (w.heap.size + 1) (irow .u8 CK) = q1 at *
      refine wpAnyH_one (k := 3) (fuel := 0) (by kernel_rfl) rfl (by kernel_rfl) (fun K_ hK_ => ?_)
      refine wp_store_row 23 _ _ rfl (w.heap.size + 1 + 1) (irow .u8 TG) rfl rfl 23 _ R2 (infok8 _ hdl) (fit32 _ _ (zr_len 32) hdl) (irow_one _ _) ?_
      replace R1 := (setRow_other q1 (w.heap.size + 1 + 1) (w.heap.size + 1) (irow .u8 TG) (by omega)).trans R1
      replace R3 := (setRow_other q1 (w.heap.size + 1 + 1) (w2.heap.size) (irow .u8 TG) (by omega)).trans R3
      replace R4 := (setRow_other q1 (w.heap.size + 1 + 1) (w2.heap.size + 1) (irow .u8 TG) (by omega)).trans R4
      replace R2 := setRow_heap q1 (w.heap.size + 1 + 1) _ (irow .u8 TG) _ _ R2
      replace hw := below_setRow hw (show w.heap.size ≤ w.heap.size + 1 + 1 by omega) (irow .u8 TG)
      refine hK_ _ _ (⟨R3, R4⟩) ?_
      simp only [Act.put]
      clear hK_
      generalize q1.setRow (w.heap.size + 1 + 1) (irow .u8 TG) = q2 at *
      refine wpAnyH_done (by kernel_rfl) ?_ _
      refine NoPanic.normal ?_
      go_wp2
      exact bodyPost_ret (results_cell2_row Tryd.results10 _ _ (w.heap.size + 1) (w.heap.size + 1 + 1) _ _ _ _ _ _ _ rfl rfl R1 R2 Tryd.underlying23 rfl (infok8 _ hcl) (infok8 _ hdl)) rfl ⟨by rw [eCK.out, eTG.out], hw⟩

end Go.Proofs.YtamieopjigjfiaaDoor
