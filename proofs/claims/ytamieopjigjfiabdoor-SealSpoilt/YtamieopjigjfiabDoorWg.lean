import Derived.Test.YtamieopjigjfiabDoorProg
import Derived.WalkKit
import Derived.WalkSpells
import Derived.WalkLawsBesides
import Derived.Lib.QuietBelow
import Derived.BigQuiet
import Derived.Test.YtamieopjigjfiabDoorKa
import Derived.Test.YtamieopjigjfiabDoorWf
namespace Go.Proofs.YtamieopjigjfiabDoor
set_option maxRecDepth 100000
open Go Go.RowKit Go.Sort
attribute [local go_sem] setCell_drewN alloc_drewN


set_option maxRecDepth 100000 in
set_option maxHeartbeats 4000000 in
theorem a_subbed (l : List B) (K : List B) (g : Nat) (r : Int) (w : World) (hC : Cph w g K) : Calls Tryd.prog 33 #[.agg (srow (wos l 4) g r)] w fun e w' => e = .returned (.agg (srow (wos (subL l) 4) g r)) ∧ Below w.heap.size w w' := by
  have R0 := hp2_0 w (.cells (srow (wos l 4) g r) 85) (.cells zst 85)
  have R1 := hp2_1 w (.cells (srow (wos l 4) g r) 85) (.cells zst 85)
  have HW : Below w.heap.size w ((w.alloc (.cells (srow (wos l 4) g r) 85)).alloc (.cells zst 85)) := (((Below.refl _ _).alloc (Nat.le_refl _) _).alloc (by simp) _)

  have hgl : g < w.heap.size := lt_of_row hC
  replace hC := hC.keep HW
  have hi0 := info_wl infoC (wos l 4) (wos_len _ _)
  go_enter Tryd.func33, Tryd.ntmps33
  go_wp2_with (first | (refine wpList_box rfl 85 _ rfl _ rfl (bSt _) ?_) | (refine wpList_alloc rfl 85 rfl zst zSt ?_) | (refine wpList_load_part rfl 72 _ rfl (w.heap.size) 0 rfl 85 (srow (wos l 4) g r) (0, 0) (irow .u32 (wl (wos l 4))) _ R0 (srow_cols _ _ _) Tryd.underlying72 rfl hi0 ?_) | fail)
  try simp only [size_alloc1, Act.put, List.setIfInBounds_toArray, List.set_cons_succ, List.set_cons_zero]
  generalize ((w.alloc (.cells (srow (wos l 4) g r) 85)).alloc (.cells zst 85)) = w0 at *
  go_loopw [7] (fun i wr => ∃ k : Nat, k ≤ 4 ∧ i = .int .i64 k ∧ wr.heap[w.heap.size]? = some (.cells (srow (up (wo (subL l)) l k) g r) 85 (0, 0)) ∧ wr.heap[w.heap.size + 1]? = some (.cells zst 85 (0, 0)) ∧ Cph wr g K ∧ Below w.heap.size w wr) (fun i _ => 4 - (intOf i).toNat)
  case atStart => exact ⟨0, by omega, rfl, by rw [up_zero]; exact R0, R1, hC, HW⟩
  case round =>
    clear R0 R1 hC HW
    obtain ⟨k, hk, rfl, r0, r1, hC, hw⟩ := hrel
    by_cases hlt : k < 4
    · have hd : decide ((k : Int) < 4) = true := by simp; omega
      have hix := indexC (wos l 4) (wos_len _ _) k hlt wr
      rw [wos_get l 4 k hlt] at hix
      have cp := srow_ptr r0 (up_len _ _ _)
      have ct := a_through sb g 60 (l.getD (4 * k) 0#8) (l.getD (4 * k + 1) 0#8) (l.getD (4 * k + 2) 0#8) (l.getD (4 * k + 3) 0#8) wr hC.sub
      have hset := hide (up_set (wo (subL l)) l k hlt)
      rw [wo_sub l k hlt] at hset
      rw [wo] at hix
      generalize l.getD (4 * k) 0#8 = b0 at *
      generalize l.getD (4 * k + 1) 0#8 = b1 at *
      generalize l.getD (4 * k + 2) 0#8 = b2 at *
      generalize l.getD (4 * k + 3) 0#8 = b3 at *
      go_wp2_with (fail)
      refine (ct).mono ?_
      rintro e_ w1 ⟨rfl, hb⟩
      replace r0 := keep hb r0
      replace r1 := keep hb r1
      replace hC := hC.keep hb
      replace hw := Below.after hw hb
      clear hb hix cp
      have c0 := srow_cell r0 (j := k) (by rw [up_len]; exact hlt)
      have hf := row_frozen r0 k
      go_wp2
      refine ⟨⟨k + 1, by omega, by go_num, by rw [← hset.out]; exact srow_set r0 k _ (by rw [up_len]; exact hlt), heap_other r1 (by omega), heap_other hC (Nat.ne_of_lt hgl), hw.setCell (Nat.le_refl _) _⟩, by simp [intOf]; omega⟩
    · obtain rfl : k = 4 := by omega
      have hd : decide ((4 : Int) < 4) = false := by decide
      rw [up_full l (subL l)] at r0
      have hi9 := info_sr (wos (subL l) 4) g r (wos_len _ _)
      have hfi : zst.size = (srow (wos (subL l) 4) g r).size := by rw [srow_size, wos_len]; rfl
      clear hk hlt
      go_wp2_with (first | (refine wpList_load_want rfl 85 _ rfl (w.heap.size) rfl 85 (srow (wos (subL l) 4) g r) (0, 0) _ r0 Tryd.underlying85 rfl hi9 ?_) | (refine wpList_store_row rfl 85 _ _ rfl (w.heap.size + 1) (srow (wos (subL l) 4) g r) rfl rfl 85 _ r1 hi9 hfi (srow_one _ _ _) ?_) | fail)
      replace r1 := setRow_heap wr (w.heap.size + 1) _ (srow (wos (subL l) 4) g r) _ _ r1
      replace hw := below_setRow hw (show w.heap.size ≤ w.heap.size + 1 by omega) (srow (wos (subL l) 4) g r)
      generalize wr.setRow (w.heap.size + 1) (srow (wos (subL l) 4) g r) = w9 at *
      exact bodyPost_ret (v := .agg (srow (wos (subL l) 4) g r)) (results_cell_row Tryd.results33 _ _ (w.heap.size + 1) _ _ _ _ rfl r1 Tryd.underlying85 rfl hi9) rfl ⟨rfl, hw⟩


set_option maxRecDepth 100000 in
set_option maxHeartbeats 4000000 in
theorem a_keyed (l : List B) (K : List B) (g : Nat) (r : Nat) (hr : r < 15) (w : World) (hC : Cph w g K) : Calls Tryd.prog 36 #[.agg (srow (wos l 4) g (r : Int))] w fun e w' => e = .returned (.agg (srow (wos (xorL l (kr K r)) 4) g (r : Int))) ∧ Below w.heap.size w w' := by
  have R0 := hp2_0 w (.cells (srow (wos l 4) g (r : Int)) 85) (.cells zst 85)
  have R1 := hp2_1 w (.cells (srow (wos l 4) g (r : Int)) 85) (.cells zst 85)
  have HW : Below w.heap.size w ((w.alloc (.cells (srow (wos l 4) g (r : Int)) 85)).alloc (.cells zst 85)) := (((Below.refl _ _).alloc (Nat.le_refl _) _).alloc (by simp) _)

  have hgl : g < w.heap.size := lt_of_row hC
  replace hC := hC.keep HW
  have hi0 := info_wl infoC (kws K r) (kws_len _ _)
  go_enter Tryd.func36, Tryd.ntmps36
  go_wp2_with (first | (refine wpList_box rfl 85 _ rfl _ rfl (bSt _) ?_) | (refine wpList_alloc rfl 85 rfl zst zSt ?_) | fail)
  try simp only [size_alloc1, Act.put, List.setIfInBounds_toArray, List.set_cons_succ, List.set_cons_zero]
  generalize ((w.alloc (.cells (srow (wos l 4) g (r : Int)) 85)).alloc (.cells zst 85)) = w0 at *
  have c4 := srow_ptr R0 (wos_len _ _)
  have c5 := srow_rnd R0 (wos_len _ _)
  have k4 : ∀ p : Regrown, (grow (redrawn w0 p.d) p.os).cell? ⟨w.heap.size, 4, none⟩ = some (.pointer (some ⟨g, 0, none⟩)) := fun p => cell_regrown c4 p.d p.os
  have k5 : ∀ p : Regrown, (grow (redrawn w0 p.d) p.os).cell? ⟨w.heap.size, 5, none⟩ = some (.int .i64 (r : Int)) := fun p => cell_regrown c5 p.d p.os
  have HC := keepr hC
  have hcx := cph_key K r hr
  refine wp_region_quiet_below (by kernel_rfl) (by kernel_rfl) ?_
  go_big_quiet_step (fail)
  go_big_quiet_step (fail)
  go_big_quiet_step (fail)
  go_big_quiet_step (fail)
  go_big_quiet_step (fail)
  go_big_quiet_step (fail)
  go_big_quiet_step (fail)
  refine wpQuiet_load_part rfl 72 _ rfl g (r * 4) rfl 76 (cph K) (0, 0) (irow .u32 (wl (kws K r))) _ HC.out (by rw [Nat.mul_comm r 4]; exact hcx) Tryd.underlying72 rfl hi0 ?_
  simp only [Act.put, List.setIfInBounds_toArray, List.set_cons_succ, List.set_cons_zero]
  go_big_quiet_step (fail)
  refine wpQuiet_nil ?_
  rintro _ ⟨p, rfl⟩
  have hb := below_regrown w0 p.d p.os
  generalize grow (redrawn w0 p.d) p.os = w1 at *
  clear k4 k5 HC c4 c5 hcx
  replace R0 := keep hb R0
  replace R1 := keep hb R1
  replace hC := hC.keep hb
  replace HW := Below.after HW hb
  clear hb
  go_wp2_with (fail)
  go_loopw [13] (fun i wr => ∃ k : Nat, k ≤ 4 ∧ i = .int .i64 k ∧ wr.heap[w.heap.size]? = some (.cells (srow (up (wo (xorL l (kr K r))) l k) g (r : Int)) 85 (0, 0)) ∧ wr.heap[w.heap.size + 1]? = some (.cells zst 85 (0, 0)) ∧ Cph wr g K ∧ Below w.heap.size w wr) (fun i _ => 4 - (intOf i).toNat)
  case atStart => exact ⟨0, by omega, rfl, by rw [up_zero]; exact R0, R1, hC, HW⟩
  case round =>
    clear R0 R1 hC HW
    obtain ⟨k, hk, rfl, r0, r1, hC, hw⟩ := hrel
    by_cases hlt : k < 4
    · have hd : decide ((k : Int) < 4) = true := by simp; omega
      have hix := indexC (kws K r) (kws_len _ _) k hlt wr
      rw [kws_get K r k hlt] at hix
      have c0 := srow_cell r0 (j := k) (by rw [up_len]; exact hlt)
      rw [up_get _ _ _ hlt] at c0
      have hf := row_frozen r0 k
      have hx := xor32 (wo l k) (wo K (4 * r + k))
      have hset := hide (up_set (wo (xorL l (kr K r))) l k hlt)
      rw [wo_xor _ _ _ hlt, wo_kr _ _ _ hlt] at hset
      generalize wo l k = x0 at *
      generalize wo K (4 * r + k) = x1 at *
      go_wp2
      refine ⟨⟨k + 1, by omega, by go_num, by rw [← hset.out]; exact srow_set r0 k _ (by rw [up_len]; exact hlt), heap_other r1 (by omega), heap_other hC (Nat.ne_of_lt hgl), hw.setCell (Nat.le_refl _) _⟩, by simp [intOf]; omega⟩
    · obtain rfl : k = 4 := by omega
      have hd : decide ((4 : Int) < 4) = false := by decide
      rw [up_full l (xorL l (kr K r))] at r0
      have hi9 := info_sr (wos (xorL l (kr K r)) 4) g r (wos_len _ _)
      have hfi : zst.size = (srow (wos (xorL l (kr K r)) 4) g (r : Int)).size := by rw [srow_size, wos_len]; rfl
      clear hk hlt
      go_wp2_with (first | (refine wpList_load_want rfl 85 _ rfl (w.heap.size) rfl 85 (srow (wos (xorL l (kr K r)) 4) g (r : Int)) (0, 0) _ r0 Tryd.underlying85 rfl hi9 ?_) | (refine wpList_store_row rfl 85 _ _ rfl (w.heap.size + 1) (srow (wos (xorL l (kr K r)) 4) g (r : Int)) rfl rfl 85 _ r1 hi9 hfi (srow_one _ _ _) ?_) | fail)
      replace r1 := setRow_heap wr (w.heap.size + 1) _ (srow (wos (xorL l (kr K r)) 4) g (r : Int)) _ _ r1
      replace hw := below_setRow hw (show w.heap.size ≤ w.heap.size + 1 by omega) (srow (wos (xorL l (kr K r)) 4) g (r : Int))
      generalize wr.setRow (w.heap.size + 1) (srow (wos (xorL l (kr K r)) 4) g (r : Int)) = w9 at *
      exact bodyPost_ret (v := .agg (srow (wos (xorL l (kr K r)) 4) g (r : Int))) (results_cell_row Tryd.results36 _ _ (w.heap.size + 1) _ _ _ _ rfl r1 Tryd.underlying85 rfl hi9) rfl ⟨rfl, hw⟩


set_option maxRecDepth 100000 in
set_option maxHeartbeats 4000000 in
theorem a_mixed5 (l : List B) (g : Nat) (r : Int) (w : World) : Calls Tryd.prog 35 #[.agg (srow (wos l 4) g r)] w fun e w' => e = .returned (.agg (srow (wos (mixL l) 4) g r)) ∧ Below w.heap.size w w' := by
  have R0 := hp2_0 w (.cells (srow (wos l 4) g r) 85) (.cells zst 85)
  have R1 := hp2_1 w (.cells (srow (wos l 4) g r) 85) (.cells zst 85)
  have HW : Below w.heap.size w ((w.alloc (.cells (srow (wos l 4) g r) 85)).alloc (.cells zst 85)) := (((Below.refl _ _).alloc (Nat.le_refl _) _).alloc (by simp) _)

  have hi0 := info_wl infoC (wos l 4) (wos_len _ _)
  go_enter Tryd.func35, Tryd.ntmps35
  go_wp2_with (first | (refine wpList_box rfl 85 _ rfl _ rfl (bSt _) ?_) | (refine wpList_alloc rfl 85 rfl zst zSt ?_) | (refine wpList_load_part rfl 72 _ rfl (w.heap.size) 0 rfl 85 (srow (wos l 4) g r) (0, 0) (irow .u32 (wl (wos l 4))) _ R0 (srow_cols _ _ _) Tryd.underlying72 rfl hi0 ?_) | fail)
  try simp only [size_alloc1, Act.put, List.setIfInBounds_toArray, List.set_cons_succ, List.set_cons_zero]
  generalize ((w.alloc (.cells (srow (wos l 4) g r) 85)).alloc (.cells zst 85)) = w0 at *
  go_loopw [7] (fun i wr => ∃ k : Nat, k ≤ 4 ∧ i = .int .i64 k ∧ wr.heap[w.heap.size]? = some (.cells (srow (up (wo (mixL l)) l k) g r) 85 (0, 0)) ∧ wr.heap[w.heap.size + 1]? = some (.cells zst 85 (0, 0)) ∧ Below w.heap.size w wr) (fun i _ => 4 - (intOf i).toNat)
  case atStart => exact ⟨0, by omega, rfl, by rw [up_zero]; exact R0, R1, HW⟩
  case round =>
    clear R0 R1 HW
    obtain ⟨k, hk, rfl, r0, r1, hw⟩ := hrel
    by_cases hlt : k < 4
    · have hd : decide ((k : Int) < 4) = true := by simp; omega
      have hix := indexC (wos l 4) (wos_len _ _) k hlt wr
      rw [wos_get l 4 k hlt] at hix
      have hset := hide (up_set (wo (mixL l)) l k hlt)
      rw [wo_mix l k hlt _ _ _ _ rfl rfl rfl rfl] at hset
      rw [wo] at hix
      generalize l.getD (4 * k) 0#8 = b0 at *
      generalize l.getD (4 * k + 1) 0#8 = b1 at *
      generalize l.getD (4 * k + 2) 0#8 = b2 at *
      generalize l.getD (4 * k + 3) 0#8 = b3 at *
      have l1 := a_left1 b0 b1 b2 b3
      have l2 := a_left2 b0 b1 b2 b3
      have l3 := a_left3 b0 b1 b2 b3
      have tw := a_wtwice (b0 ^^^ b1) (b1 ^^^ b2) (b2 ^^^ b3) (b3 ^^^ b0)
      have x0 := xor32 (wd b0 b1 b2 b3) (wd b1 b2 b3 b0)
      rw [wd_xor] at x0
      have x1 := xor32 (wd (dbl (b0 ^^^ b1)) (dbl (b1 ^^^ b2)) (dbl (b2 ^^^ b3)) (dbl (b3 ^^^ b0))) (wd b1 b2 b3 b0)
      have x2 := xor32 (wd (dbl (b0 ^^^ b1)) (dbl (b1 ^^^ b2)) (dbl (b2 ^^^ b3)) (dbl (b3 ^^^ b0)) ^^^ wd b1 b2 b3 b0) (wd b2 b3 b0 b1)
      have x3 := xor32 (wd (dbl (b0 ^^^ b1)) (dbl (b1 ^^^ b2)) (dbl (b2 ^^^ b3)) (dbl (b3 ^^^ b0)) ^^^ wd b1 b2 b3 b0 ^^^ wd b2 b3 b0 b1) (wd b3 b0 b1 b2)
      generalize wd (dbl (b0 ^^^ b1)) (dbl (b1 ^^^ b2)) (dbl (b2 ^^^ b3)) (dbl (b3 ^^^ b0)) = v0 at *
      generalize wd (b0 ^^^ b1) (b1 ^^^ b2) (b2 ^^^ b3) (b3 ^^^ b0) = v9 at *
      generalize wd b1 b2 b3 b0 = v1 at *
      generalize wd b2 b3 b0 b1 = v2 at *
      generalize wd b3 b0 b1 b2 = v3 at *
      generalize v0 ^^^ v1 ^^^ v2 ^^^ v3 = u3 at *
      generalize v0 ^^^ v1 ^^^ v2 = u2 at *
      generalize v0 ^^^ v1 = u1 at *
      go_wp2_with (fail)
      refine (l1.at _).mono ?_
      rintro e_ w1 ⟨rfl, hb⟩
      replace r0 := keep hb r0
      replace r1 := keep hb r1
      replace hw := Below.after hw hb
      clear hb
      go_wp2_with (fail)
      refine (tw.at _).mono ?_
      rintro e_ w2 ⟨rfl, hb⟩
      replace r0 := keep hb r0
      replace r1 := keep hb r1
      replace hw := Below.after hw hb
      clear hb
      go_wp2_with (fail)
      refine (l1.at _).mono ?_
      rintro e_ w3 ⟨rfl, hb⟩
      replace r0 := keep hb r0
      replace r1 := keep hb r1
      replace hw := Below.after hw hb
      clear hb
      go_wp2_with (fail)
      refine (l2.at _).mono ?_
      rintro e_ w4 ⟨rfl, hb⟩
      replace r0 := keep hb r0
      replace r1 := keep hb r1
      replace hw := Below.after hw hb
      clear hb
      go_wp2_with (fail)
      refine (l3.at _).mono ?_
      rintro e_ w5 ⟨rfl, hb⟩
      replace r0 := keep hb r0
      replace r1 := keep hb r1
      replace hw := Below.after hw hb
      clear hb

      have c0 := srow_cell r0 (j := k) (by rw [up_len]; exact hlt)
      have hf := row_frozen r0 k
      go_wp2
      refine ⟨⟨k + 1, by omega, by go_num, by rw [← hset.out]; exact srow_set r0 k _ (by rw [up_len]; exact hlt), heap_other r1 (by omega), hw.setCell (Nat.le_refl _) _⟩, by simp [intOf]; omega⟩
    · obtain rfl : k = 4 := by omega
      have hd : decide ((4 : Int) < 4) = false := by decide
      rw [up_full l (mixL l)] at r0
      have hi9 := info_sr (wos (mixL l) 4) g r (wos_len _ _)
      have hfi : zst.size = (srow (wos (mixL l) 4) g r).size := by rw [srow_size, wos_len]; rfl
      clear hk hlt
      go_wp2_with (first | (refine wpList_load_want rfl 85 _ rfl (w.heap.size) rfl 85 (srow (wos (mixL l) 4) g r) (0, 0) _ r0 Tryd.underlying85 rfl hi9 ?_) | (refine wpList_store_row rfl 85 _ _ rfl (w.heap.size + 1) (srow (wos (mixL l) 4) g r) rfl rfl 85 _ r1 hi9 hfi (srow_one _ _ _) ?_) | fail)
      replace r1 := setRow_heap wr (w.heap.size + 1) _ (srow (wos (mixL l) 4) g r) _ _ r1
      replace hw := below_setRow hw (show w.heap.size ≤ w.heap.size + 1 by omega) (srow (wos (mixL l) 4) g r)
      generalize wr.setRow (w.heap.size + 1) (srow (wos (mixL l) 4) g r) = w9 at *
      exact bodyPost_ret (v := .agg (srow (wos (mixL l) 4) g r)) (results_cell_row Tryd.results35 _ _ (w.heap.size + 1) _ _ _ _ rfl r1 Tryd.underlying85 rfl hi9) rfl ⟨rfl, hw⟩


end Go.Proofs.YtamieopjigjfiabDoor


namespace Go.Proofs.YtamieopjigjfiabDoor
set_option maxRecDepth 100000
open Go Go.RowKit Go.Sort
attribute [local go_sem] setCell_drewN alloc_drewN


/-- Four words turned by k places. -/
def trn (l : List B) (k : Nat) : List Wd := (List.range 4).map fun i => wo l ((i + k) % 4)
theorem trn_len (l : List B) (k : Nat) : (trn l k).length = 4 := by simp [trn]
theorem trn_get (l : List B) (k j : Nat) (h : j < 4) : (trn l k).getD j 0#32 = wo l ((j + k) % 4) := by
  simp [trn, List.getD_eq_getElem?_getD, h]
theorem a_turnedw (l : List B) (k : Nat) (hk : k < 4) : Gives 51 #[.agg (irow .u32 (wl (wos l 4))), .int .i64 (k : Int)] (.agg (irow .u32 (wl (trn l k)))) := by
  have h := a_turned (wv (wo l 0)) (wv (wo l 1)) (wv (wo l 2)) (wv (wo l 3)) k hk
  rcases (show k = 0 ∨ k = 1 ∨ k = 2 ∨ k = 3 by omega) with rfl | rfl | rfl | rfl <;> exact h
theorem a_pickedw (l : List B) (k : Nat) (hk : k < 4) : Gives 50 #[.agg (irow .u32 (wl (trn l k)))] (.int .u32 (wv (wo (shiftL l) k))) := by
  have h := a_picked (l.getD (4 * ((0 + k) % 4)) 0#8) (l.getD (4 * ((0 + k) % 4) + 1) 0#8) (l.getD (4 * ((0 + k) % 4) + 2) 0#8) (l.getD (4 * ((0 + k) % 4) + 3) 0#8) (l.getD (4 * ((1 + k) % 4)) 0#8) (l.getD (4 * ((1 + k) % 4) + 1) 0#8) (l.getD (4 * ((1 + k) % 4) + 2) 0#8) (l.getD (4 * ((1 + k) % 4) + 3) 0#8) (l.getD (4 * ((2 + k) % 4)) 0#8) (l.getD (4 * ((2 + k) % 4) + 1) 0#8) (l.getD (4 * ((2 + k) % 4) + 2) 0#8) (l.getD (4 * ((2 + k) % 4) + 3) 0#8) (l.getD (4 * ((3 + k) % 4)) 0#8) (l.getD (4 * ((3 + k) % 4) + 1) 0#8) (l.getD (4 * ((3 + k) % 4) + 2) 0#8) (l.getD (4 * ((3 + k) % 4) + 3) 0#8)
  rw [wo_shift l k hk]
  rcases (show k = 0 ∨ k = 1 ∨ k = 2 ∨ k = 3 by omega) with rfl | rfl | rfl | rfl <;> exact h
theorem a_pickedu (l : List B) (k : Nat) (hk : k < 4) : Gives 50 #[.agg #[.int .u32 (wv (wo l ((0 + k) % 4))), .int .u32 (wv (wo l ((3 + k) % 4))), .int .u32 (wv (wo l ((2 + k) % 4))), .int .u32 (wv (wo l ((1 + k) % 4)))]] (.int .u32 (wv (wo (unshiftL l) k))) := by
  have h := a_picked (l.getD (4 * ((0 + k) % 4)) 0#8) (l.getD (4 * ((0 + k) % 4) + 1) 0#8) (l.getD (4 * ((0 + k) % 4) + 2) 0#8) (l.getD (4 * ((0 + k) % 4) + 3) 0#8) (l.getD (4 * ((3 + k) % 4)) 0#8) (l.getD (4 * ((3 + k) % 4) + 1) 0#8) (l.getD (4 * ((3 + k) % 4) + 2) 0#8) (l.getD (4 * ((3 + k) % 4) + 3) 0#8) (l.getD (4 * ((2 + k) % 4)) 0#8) (l.getD (4 * ((2 + k) % 4) + 1) 0#8) (l.getD (4 * ((2 + k) % 4) + 2) 0#8) (l.getD (4 * ((2 + k) % 4) + 3) 0#8) (l.getD (4 * ((1 + k) % 4)) 0#8) (l.getD (4 * ((1 + k) % 4) + 1) 0#8) (l.getD (4 * ((1 + k) % 4) + 2) 0#8) (l.getD (4 * ((1 + k) % 4) + 3) 0#8)
  rw [wo_unshift l k hk]
  rcases (show k = 0 ∨ k = 1 ∨ k = 2 ∨ k = 3 by omega) with rfl | rfl | rfl | rfl <;> exact h
theorem z61 (W : World) : (Instr.alloc 71 true (.tuple #[])).run Tryd.prog W = .ok (.pointer (some ⟨W.heap.size, 0, none⟩)) (W.alloc (.cells (irow .u32 (zr 4)) 71)) := by kernel_rfl
theorem info61 : (Tryd.prog.info? 71).map (·.size) = some 4 := by kernel_rfl

set_option maxRecDepth 100000 in
set_option maxHeartbeats 4000000 in
theorem a_shifted (l : List B) (g : Nat) (r : Int) (w : World) : Calls Tryd.prog 34 #[.agg (srow (wos l 4) g r)] w fun e w' => e = .returned (.agg (srow (wos (shiftL l) 4) g r)) ∧ Below w.heap.size w w' := by
  have R0 := hp3_0 w (.cells (srow (wos l 4) g r) 85) (.cells zst 85) (.cells (irow .u32 (zr 4)) 72)
  have R1 := hp3_1 w (.cells (srow (wos l 4) g r) 85) (.cells zst 85) (.cells (irow .u32 (zr 4)) 72)
  have R2 := hp3_2 w (.cells (srow (wos l 4) g r) 85) (.cells zst 85) (.cells (irow .u32 (zr 4)) 72)
  have HW : Below w.heap.size w (((w.alloc (.cells (srow (wos l 4) g r) 85)).alloc (.cells zst 85)).alloc (.cells (irow .u32 (zr 4)) 72)) := ((((Below.refl _ _).alloc (Nat.le_refl _) _).alloc (by simp) _).alloc (by simp; omega) _)

  have hi0 := info_wl infoC (wos l 4) (wos_len _ _)
  have hf0 : (irow .u32 (zr 4)).size = (irow .u32 (wl (wos l 4))).size := by rw [irow_size, irow_size, zr_len, wl_len, wos_len]
  have Q0 := hp2_0 w (.cells (srow (wos l 4) g r) 85) (.cells zst 85)
  go_enter Tryd.func34, Tryd.ntmps34
  go_wp2_with (first | (refine wpList_box rfl 85 _ rfl _ rfl (bSt _) ?_) | (refine wpList_alloc rfl 85 rfl zst zSt ?_) | (refine wpList_alloc rfl 72 rfl (irow .u32 (zr 4)) zCo ?_) | (refine wpList_load_part rfl 72 _ rfl (w.heap.size) 0 rfl 85 (srow (wos l 4) g r) (0, 0) (irow .u32 (wl (wos l 4))) _ Q0 (srow_cols _ _ _) Tryd.underlying72 rfl hi0 ?_) | ((try simp only [size_alloc1]); refine wpList_store_row rfl 72 _ _ rfl (w.heap.size + 1 + 1) (irow .u32 (wl (wos l 4))) rfl rfl 72 _ R2 hi0 hf0 (irow_one _ _) ?_) | fail)
  try simp only [size_alloc1, Act.put, List.setIfInBounds_toArray, List.set_cons_succ, List.set_cons_zero]
  replace R0 := (setRow_other _ (w.heap.size + 1 + 1) (w.heap.size) (irow .u32 (wl (wos l 4))) (by omega)).trans R0
  replace R1 := (setRow_other _ (w.heap.size + 1 + 1) (w.heap.size + 1) (irow .u32 (wl (wos l 4))) (by omega)).trans R1
  replace R2 := setRow_heap _ (w.heap.size + 1 + 1) _ (irow .u32 (wl (wos l 4))) _ _ R2
  replace HW := below_setRow HW (show w.heap.size ≤ w.heap.size + 1 + 1 by omega) (irow .u32 (wl (wos l 4)))
  generalize World.setRow _ (w.heap.size + 1 + 1) (irow .u32 (wl (wos l 4))) = w0 at *
  clear Q0
  go_loopw [7] (fun i wr => ∃ k : Nat, k ≤ 4 ∧ i = .int .i64 k ∧ wr.heap[w.heap.size]? = some (.cells (srow (up (wo (shiftL l)) l k) g r) 85 (0, 0)) ∧ wr.heap[w.heap.size + 1]? = some (.cells zst 85 (0, 0)) ∧ wr.heap[w.heap.size + 1 + 1]? = some (.cells (irow .u32 (wl (wos l 4))) 72 (0, 0)) ∧ Below w.heap.size w wr) (fun i _ => 4 - (intOf i).toNat)
  case atStart => exact ⟨0, by omega, rfl, by rw [up_zero]; exact R0, R1, R2, HW⟩
  case round =>
    clear R0 R1 R2 HW
    obtain ⟨k, hk, rfl, r0, r1, r2, hw⟩ := hrel
    by_cases hlt : k < 4
    · have hd : decide ((k : Int) < 4) = true := by simp; omega
      have ct := a_turnedw l k hlt
      have cs := a_pickedw l k hlt
      have hset := hide (up_set (wo (shiftL l)) l k hlt)
      generalize wo (shiftL l) k = z at *
      go_wp2_with (first | (refine wpList_load_want rfl 72 _ rfl (w.heap.size + 1 + 1) rfl 72 (irow .u32 (wl (wos l 4))) (0, 0) _ r2 Tryd.underlying72 rfl hi0 ?_) | fail)
      refine (ct.at _).mono ?_
      rintro e_ w1 ⟨rfl, hb⟩
      replace r0 := keep hb r0
      replace r1 := keep hb r1
      replace r2 := keep hb r2
      replace hw := Below.after hw hb
      clear hb
      go_wp2_with (fail)
      refine (cs.at _).mono ?_
      rintro e_ w2 ⟨rfl, hb⟩
      replace r0 := keep hb r0
      replace r1 := keep hb r1
      replace r2 := keep hb r2
      replace hw := Below.after hw hb
      clear hb
      have c0 := srow_cell r0 (j := k) (by rw [up_len]; exact hlt)
      have hf := row_frozen r0 k
      go_wp2
      refine ⟨⟨k + 1, by omega, by go_num, by rw [← hset.out]; exact srow_set r0 k _ (by rw [up_len]; exact hlt), heap_other r1 (by omega), heap_other r2 (by omega), hw.setCell (Nat.le_refl _) _⟩, by simp [intOf]; omega⟩
    · obtain rfl : k = 4 := by omega
      have hd : decide ((4 : Int) < 4) = false := by decide
      rw [up_full l (shiftL l)] at r0
      have hi9 := info_sr (wos (shiftL l) 4) g r (wos_len _ _)
      have hfi : zst.size = (srow (wos (shiftL l) 4) g r).size := by rw [srow_size, wos_len]; rfl
      clear hk hlt
      go_wp2_with (first | (refine wpList_load_want rfl 85 _ rfl (w.heap.size) rfl 85 (srow (wos (shiftL l) 4) g r) (0, 0) _ r0 Tryd.underlying85 rfl hi9 ?_) | (refine wpList_store_row rfl 85 _ _ rfl (w.heap.size + 1) (srow (wos (shiftL l) 4) g r) rfl rfl 85 _ r1 hi9 hfi (srow_one _ _ _) ?_) | fail)
      replace r1 := setRow_heap wr (w.heap.size + 1) _ (srow (wos (shiftL l) 4) g r) _ _ r1
      replace hw := below_setRow hw (show w.heap.size ≤ w.heap.size + 1 by omega) (srow (wos (shiftL l) 4) g r)
      generalize wr.setRow (w.heap.size + 1) (srow (wos (shiftL l) 4) g r) = w9 at *
      exact bodyPost_ret (v := .agg (srow (wos (shiftL l) 4) g r)) (results_cell_row Tryd.results34 _ _ (w.heap.size + 1) _ _ _ _ rfl r1 Tryd.underlying85 rfl hi9) rfl ⟨rfl, hw⟩


end Go.Proofs.YtamieopjigjfiabDoor

