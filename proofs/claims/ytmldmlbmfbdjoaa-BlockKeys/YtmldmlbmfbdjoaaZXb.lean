import Derived.Test.YtmldmlbmfbdjoaaProg
import Derived.WalkKit
import Derived.WalkSpells
import Derived.WalkLawsBesides
import Derived.Lib.QuietBelow
import Derived.BigQuiet
import Derived.Test.YtmldmlbmfbdjoaaS0
import Derived.Test.YtmldmlbmfbdjoaaS3
namespace Go.Proofs.Ytmldmlbmfbdjoaa
open Go Go.RowKit Go.Sort
attribute [local go_sem] setCell_drewN alloc_drewN


theorem kws_wos (K : List B) (r : Nat) : kws K r = wos (kr K r) 4 := by
  apply List.map_congr_left
  intro j hj
  rw [List.mem_range] at hj
  exact (wo_kr K r j hj).symm
theorem ext_kws (K : List B) (r : Nat) (hr : r < 15) : (irow .u32 (wl (wos K 60))).extract (r * 4) (r * 4 + 4) = (irow .u32 (wl (kws K r))) := by
  apply Array.ext_getElem?
  intro j
  rw [Array.getElem?_extract]
  by_cases hj : j < 4
  · rw [if_pos (by rw [irow_size, wl_len, wos_len]; omega), irow_get _ _ _ (by rw [wl_len, wos_len]; omega), irow_get _ _ _ (by rw [wl_len, kws_len]; exact hj), wl_get, wl_get, wos_get _ _ _ (by omega), kws_get _ _ _ hj, Nat.mul_comm r 4]
  · rw [if_neg (by omega), Array.getElem?_eq_none (by rw [irow_size, wl_len, kws_len]; omega)]
theorem index15 (K : List B) (r : Nat) (hr : r < 15) (W : World) : (Instr.index 63 (.agg (irow .u32 (wl (wos K 60)))) (.int .i64 (r : Int))).run Try.prog W = .ok (.agg (irow .u32 (wl (wos (kr K r) 4)))) W := by
  have hs : (sizeOf 62).run Try.prog W = .ok 4 W := by kernel_rfl
  have ha : (isAgg 62).run Try.prog W = .ok true W := by kernel_rfl
  have h2 : (0 : Int) ≤ (r : Int) ∧ (r : Int) < ((15 : Nat) : Int) := by omega
  unfold Instr.index part
  simp only [asIntOf, Sem.run_bind, Sem.run_pure, Result.andThen_ok, run_underlying Try.underlying63 W, if_pos h2, hs, ha, if_true, Int.toNat_natCast]
  rw [ext_kws K r hr, kws_wos]
theorem z29 (W : World) : (Instr.alloc 29 true (.tuple #[])).run Try.prog W = .ok (.pointer (some ⟨W.heap.size, 0, none⟩)) (W.alloc (.cells (irow .u8 (zr 240)) 29)) := by kernel_rfl
theorem info29 : (Try.prog.info? 29).map (·.size) = some 240 := by kernel_rfl
/-- The first blocks of a list written down. -/
theorem ovw_pt (K : List B) (_hK : K.length = 240) (r : Nat) (hr : r < 15) : ovw (irow .u8 (bl (pt (gb K) 240 (16 * r)))) (r * 16) (irow .u8 (bl (kr K r))).toList = (irow .u8 (bl (pt (gb K) 240 (16 * (r + 1))))) := by
  have hsz : (r * 16) + ((irow .u8 (bl (kr K r))).toList).length ≤ (irow .u8 (bl (pt (gb K) 240 (16 * r)))).size := by
    rw [irow_size, bl_len, pt_len, Array.length_toList, irow_size, bl_len, kr_len]; omega
  have hll : ((irow .u8 (bl (kr K r))).toList).length = 16 := by rw [Array.length_toList, irow_size, bl_len, kr_len]
  have hl1 : (((irow .u8 (bl (pt (gb K) 240 (16 * r)))).toList).take (r * 16)).length = r * 16 := by
    rw [List.length_take, Array.length_toList, irow_size, bl_len, pt_len]; omega
  apply Array.ext'
  rw [ovw_all _ _ _ hsz]
  have cell : ∀ (l : List B) (j : Nat), j < l.length → ((irow .u8 (bl (l))).toList)[j]? = some (.int .u8 (bv (l.getD j 0#8))) := fun l j h => by
    rw [Array.getElem?_toList]; exact brow_at l j h
  apply List.ext_getElem?
  intro j
  by_cases h240 : j < 240
  · rw [cell _ j (by rw [pt_len]; exact h240)]
    by_cases h1 : j < r * 16
    · rw [List.append_assoc, List.getElem?_append_left (by rw [hl1]; exact h1), List.getElem?_take_of_lt h1, cell _ j (by rw [pt_len]; exact h240), pt_get _ _ _ (by omega) h240, pt_get _ _ _ (by omega) h240]
    · by_cases h2 : j < r * 16 + 16
      · rw [List.append_assoc, List.getElem?_append_right (by rw [hl1]; omega), hl1, List.getElem?_append_left (by rw [hll]; omega), cell _ _ (by rw [kr_len]; omega), pt_get _ _ _ (by omega) h240, kr, mk16_get _ (by omega), gb, show 16 * r + (j - r * 16) = j by omega]
      · rw [List.getElem?_append_right (by rw [List.length_append, hl1, hll]; omega), List.length_append, hl1, hll, List.getElem?_drop, show r * 16 + 16 + (j - (r * 16 + 16)) = j by omega, cell _ j (by rw [pt_len]; exact h240)]
        have e : ∀ t, t ≤ j → (pt (gb K) 240 t).getD j 0#8 = 0#8 := fun t ht => by
          simp [pt, List.getD_eq_getElem?_getD, h240, Nat.not_lt.2 ht]
        rw [e _ (by omega), e _ (by omega)]
  · rw [List.getElem?_eq_none, List.getElem?_eq_none]
    · rw [Array.length_toList, irow_size, bl_len, pt_len]; omega
    · rw [List.length_append, List.length_append, hl1, hll, List.length_drop, Array.length_toList, irow_size, bl_len, pt_len]; omega

set_option maxRecDepth 100000 in
set_option maxHeartbeats 4000000 in
theorem a_keys (key : List B) (hl : key.length = 32) : Gives 15 #[.agg (irow .u8 (bl (key)))] (.agg (irow .u8 (bl (ks key 60)))) := by
  intro w
  have cn := a_new key hl
  obtain ⟨K, hK⟩ : ∃ K, K = ks key 60 := ⟨_, rfl⟩
  have hKl : K.length = 240 := by rw [hK, ks_len]
  rw [← hK] at cn ⊢
  clear hK
  have R0 := hp3_0 w (.cells (irow .u8 (bl (key))) 26) (.cells (irow .u8 (zr 240)) 29) (.cells (irow .u8 (bl (pt (gb K) 240 (16 * 0)))) 29)
  have R1 := hp3_1 w (.cells (irow .u8 (bl (key))) 26) (.cells (irow .u8 (zr 240)) 29) (.cells (irow .u8 (bl (pt (gb K) 240 (16 * 0)))) 29)
  have R2 := hp3_2 w (.cells (irow .u8 (bl (key))) 26) (.cells (irow .u8 (zr 240)) 29) (.cells (irow .u8 (bl (pt (gb K) 240 (16 * 0)))) 29)
  have hw : Below w.heap.size w (((w.alloc (.cells (irow .u8 (bl (key))) 26)).alloc (.cells (irow .u8 (zr 240)) 29)).alloc (.cells (irow .u8 (bl (pt (gb K) 240 (16 * 0)))) 29)) := ((((Below.refl _ _).alloc (Nat.le_refl _) _).alloc (by simp) _).alloc (by simp; omega) _)

  have hz : ∀ W : World, (Instr.alloc 29 true (.tuple #[])).run Try.prog W = .ok (.pointer (some ⟨W.heap.size, 0, none⟩)) (W.alloc (.cells (irow .u8 (bl (pt (gb K) 240 (16 * 0)))) 29)) := by rw [← zr_pt]; exact z29
  rw [show (irow .u8 (zr 240)) = (irow .u8 (bl (pt (gb K) 240 (16 * 0)))) by rw [← zr_pt]] at *
  have hi0 := info_bl infoKy key hl
  have hi1 := info_wl info15 (wos K 60) (wos_len _ _)
  have hpa : (cph K).extract 0 (0 + (irow .u32 (wl (wos K 60))).size) = (irow .u32 (wl (wos K 60))) := by rw [cph, Nat.zero_add]; simp
  go_enter Try.func15, Try.ntmps15
  go_wp2_with (first | (refine wpList_box rfl 26 _ rfl _ rfl (bKey _) ?_) | (refine wpList_alloc rfl 29 rfl (irow .u8 (bl (pt (gb K) 240 (16 * 0)))) hz ?_) | (refine wpList_load_want rfl 26 _ rfl (w.heap.size) rfl 26 (irow .u8 (bl (key))) (0, 0) _ R0 Try.underlying26 rfl hi0 ?_) | fail)
  try simp only [size_alloc1, Act.put, List.setIfInBounds_toArray, List.set_cons_succ, List.set_cons_zero]
  generalize World.alloc _ _ = w0 at *
  refine (cn _).mono ?_
  rintro _ w1 ⟨_, rfl, g, rfl, hg, hC, hb⟩
  replace R1 := keep hb R1
  replace R2 := keep hb R2
  replace hw := Below.after hw hb
  clear hb hg cn R0 hz
  go_wp2_with (first | (refine wpList_load_part rfl 63 _ rfl g 0 rfl 65 (cph K) (0, 0) (irow .u32 (wl (wos K 60))) _ hC hpa Try.underlying63 rfl hi1 ?_) | fail)
  go_loopw [11] (fun i wr => ∃ k : Nat, k ≤ 15 ∧ i = .int .i64 k ∧ wr.heap[w.heap.size + 1]? = some (.cells (irow .u8 (bl (pt (gb K) 240 (16 * 0)))) 29 (0, 0)) ∧ wr.heap[w.heap.size + 1 + 1]? = some (.cells (irow .u8 (bl (pt (gb K) 240 (16 * k)))) 29 (0, 0)) ∧ Below w.heap.size w wr) (fun i _ => 15 - (intOf i).toNat)
  case atStart => exact ⟨0, by omega, rfl, R1, R2, hw⟩
  case round =>
    clear R1 R2 hw hC
    obtain ⟨k, hk, rfl, r1, r2, hw⟩ := hrel
    by_cases hlt : k < 15
    · have hd : decide ((k : Int) < 15) = true := by simp; omega
      have hix := index15 K k hlt wr
      have hiC := info_wl infoC (wos (kr K k) 4) (wos_len _ _)
      have hfC : (irow .u32 (zr 4)).size = (irow .u32 (wl (wos (kr K k) 4))).size := by rw [irow_size, irow_size, zr_len, wl_len, wos_len]
      have rX := hp1_0 wr (.cells (irow .u32 (zr 4)) 62)
      have HB : Below wr.heap.size wr (wr.alloc (.cells (irow .u32 (zr 4)) 62)) := (Below.refl _ _).alloc (Nat.le_refl _) _
      have l2 := lt_of_row r2
      go_wp2_with (first | (refine wpList_alloc rfl 62 rfl (irow .u32 (zr 4)) zCo ?_) | (refine wpList_store_row rfl 62 _ _ rfl (wr.heap.size) (irow .u32 (wl (wos (kr K k) 4))) rfl rfl 62 _ rX hiC hfC (irow_one _ _) ?_; refine wpList_stay ?_) | fail)
      unfold WpStay
      have hsz := hw.size
      replace r1 := (setRow_other _ (wr.heap.size) (w.heap.size + 1) (irow .u32 (wl (wos (kr K k) 4))) (by omega)).trans (keep HB r1)
      replace r2 := (setRow_other _ (wr.heap.size) (w.heap.size + 1 + 1) (irow .u32 (wl (wos (kr K k) 4))) (by omega)).trans (keep HB r2)
      replace rX := setRow_heap _ (wr.heap.size) _ (irow .u32 (wl (wos (kr K k) 4))) _ _ rX
      replace hw := below_setRow (Below.after hw HB) hsz (irow .u32 (wl (wos (kr K k) 4)))
      clear HB hfC hix
      generalize World.setRow _ (wr.heap.size) (irow .u32 (wl (wos (kr K k) 4))) = w2 at *
      generalize wr.heap.size = gX at *
      have cj := a_joined (kr K k) (kr_len _ _)
      have hib := info_bl infoB (kr K k) (kr_len _ _)
      have hov := ovw_pt K hKl k hlt
      go_wp2_with (first | (refine wpList_load_want rfl 62 _ rfl (gX) rfl 62 (irow .u32 (wl (wos (kr K k) 4))) (0, 0) _ rX Try.underlying62 rfl hiC ?_) | fail)
      refine (cj.at _).mono ?_
      rintro e_ w3 ⟨rfl, hb⟩
      replace r1 := keep hb r1
      replace r2 := keep hb r2
      replace hw := Below.after hw hb
      clear hb rX cj
      go_wp2_with (first | (refine wpList_store_part rfl 28 _ _ rfl (w.heap.size + 1 + 1) (k * 16) (irow .u8 (bl (kr K k))) rfl rfl 29 (irow .u8 (bl (pt (gb K) 240 (16 * k)))) (irow .u8 (bl (pt (gb K) 240 (16 * (k + 1))))) r2 (by rw [irow_size, irow_size, bl_len, bl_len, pt_len, kr_len]; omega) hov hib (irow_one _ _) ?_; refine wpList_stay ?_) | fail)
      unfold WpStay
      replace r1 := (setRow_other w3 (w.heap.size + 1 + 1) (w.heap.size + 1) (irow .u8 (bl (pt (gb K) 240 (16 * (k + 1))))) (by omega)).trans r1
      replace r2 := setRow_heap w3 (w.heap.size + 1 + 1) _ (irow .u8 (bl (pt (gb K) 240 (16 * (k + 1))))) _ _ r2
      replace hw := below_setRow hw (show w.heap.size ≤ w.heap.size + 1 + 1 by omega) (irow .u8 (bl (pt (gb K) 240 (16 * (k + 1)))))
      generalize w3.setRow (w.heap.size + 1 + 1) (irow .u8 (bl (pt (gb K) 240 (16 * (k + 1))))) = w4 at *
      go_wp2
      refine ⟨⟨k + 1, by omega, by go_num, r1, r2, hw⟩, by simp [intOf]; omega⟩
    · obtain rfl : k = 15 := by omega
      have hd : decide ((15 : Int) < 15) = false := by decide
      rw [show pt (gb K) 240 (16 * 15) = K from pt_selfn K 240 hKl] at r2
      have hi9 := info_bl info29 K hKl
      have hfi : (irow .u8 (bl (pt (gb K) 240 (16 * 0)))).size = (irow .u8 (bl (K))).size := by rw [irow_size, irow_size, bl_len, bl_len, pt_len, hKl]
      clear hk hlt
      go_wp2_with (first | (refine wpList_load_want rfl 29 _ rfl (w.heap.size + 1 + 1) rfl 29 (irow .u8 (bl (K))) (0, 0) _ r2 Try.underlying29 rfl hi9 ?_) | (refine wpList_store_row rfl 29 _ _ rfl (w.heap.size + 1) (irow .u8 (bl (K))) rfl rfl 29 _ r1 hi9 hfi (irow_one _ _) ?_) | fail)
      replace r1 := setRow_heap wr (w.heap.size + 1) _ (irow .u8 (bl (K))) _ _ r1
      replace hw := below_setRow hw (show w.heap.size ≤ w.heap.size + 1 by omega) (irow .u8 (bl (K)))
      generalize wr.setRow (w.heap.size + 1) (irow .u8 (bl (K))) = w9 at *
      exact bodyPost_ret (v := .agg (irow .u8 (bl (K)))) (results_cell_row Try.results15 _ _ (w.heap.size + 1) _ _ _ _ rfl r1 Try.underlying29 rfl hi9) rfl ⟨rfl, hw⟩

set_option maxRecDepth 100000 in
set_option maxHeartbeats 4000000 in
theorem keys_any (key : List B) (hl : key.length = 32) : Gives 4 #[.agg (irow .u8 (bl (key)))] (.bool true) := by
  intro w
  have R0 := hp1_0 w (.cells (irow .u8 (bl (key))) 26)
  have hw : Below w.heap.size w (w.alloc (.cells (irow .u8 (bl (key))) 26)) := ((Below.refl _ _).alloc (Nat.le_refl _) _)

  have ca := a_keys key hl
  have cr := r_keys key hl
  obtain ⟨K, hK⟩ : ∃ K, K = ks key 60 := ⟨_, rfl⟩
  have hKl : K.length = 240 := by rw [hK, ks_len]
  rw [← hK] at ca cr
  clear hK
  have hi0 := info_bl infoKy key hl
  have hi1 := info_bl info29 K hKl
  have hi2 := info_bl info32 K hKl
  have hfi : (irow .u8 (zr 240)).size = (irow .u8 (bl (K))).size := by rw [irow_size, irow_size, zr_len, bl_len, hKl]
  go_enter Try.func4, Try.ntmps4
  go_wp2_with (first | (refine wpList_box rfl 26 _ rfl _ rfl (bKey _) ?_) | fail)
  try simp only [size_alloc1, Act.put, List.setIfInBounds_toArray, List.set_cons_succ, List.set_cons_zero]
  generalize World.alloc _ _ = w0 at *
  refine wp_region_alloc_ex 4 6 [3, 4] (fun s => if s = 3 then .cells (irow .u8 (zr 240)) 29 (0, 0) else .cells (irow .u8 (zr 240)) 32 (0, 0)) (by kernel_rfl) (by decide) (by decide) (by kernel_rfl) (by kernel_rfl) (by kernel_rfl) (by kernel_rfl) (by kernel_rfl) (by kernel_rfl) (by kernel_rfl) (by kernel_rfl) (by decide) (by decide) ?_ ?_
  · intro s l u
    rcases (show s = 4 ∨ s = 5 by omega) with rfl | rfl
    · exact ⟨_, _, rfl, rfl, rfl, rfl, fun a w => by kernel_rfl⟩
    · exact ⟨_, _, rfl, rfl, rfl, rfl, fun a w => by kernel_rfl⟩
  apply Exists.intro
  constructor
  · intro v_ hb
    have HR0 := keepr (keep hb R0)
    clear hb; dsimp only [List.take]
    refine wpQuiet_load_row rfl 26 _ rfl (w.heap.size) rfl 26 (irow .u8 (bl (key))) (0, 0) _ HR0.out Try.underlying26 rfl hi0 ?_
    simp only [Act.put, List.setIfInBounds_toArray, List.set_cons_succ, List.set_cons_zero]
    go_big_quiet_step (exact ca.re)
    refine wpQuiet_load_row rfl 26 _ rfl (w.heap.size) rfl 26 (irow .u8 (bl (key))) (0, 0) _ HR0.out Try.underlying26 rfl hi0 ?_
    simp only [Act.put, List.setIfInBounds_toArray, List.set_cons_succ, List.set_cons_zero]
    go_big_quiet_step (exact cr.re)
    refine wpQuiet_nil ?_
    rfl
  intro w1 g_ hb hg hd_
  obtain ⟨la, ra⟩ := hg 3 (by simp)
  obtain ⟨lb, rb⟩ := hg 4 (by simp)
  have hab := hd_ 3 (by simp) 4 (by simp) (by decide)
  replace ra : w1.heap[g_ 3]? = some (.cells (irow .u8 (zr 240)) 29 (0, 0)) := ra
  replace rb : w1.heap[g_ 4]? = some (.cells (irow .u8 (zr 240)) 32 (0, 0)) := rb
  simp only [List.drop, puts, ptrs, List.map, List.foldl, Act.put, List.setIfInBounds_toArray, List.set_cons_succ, List.set_cons_zero]
  clear hg hd_
  generalize g_ 3 = ga at *
  generalize g_ 4 = gb_ at *
  have hs := hw.size
  replace hw := Below.after hw hb
  clear hb R0
  refine wpList_store_row rfl 29 _ _ rfl (ga) (irow .u8 (bl (K))) rfl rfl 29 _ ra hi1 hfi (irow_one _ _) ?_
  simp only [Act.put]
  replace rb := (setRow_other w1 ga gb_ (irow .u8 (bl (K))) (Ne.symm hab)).trans rb
  replace ra := setRow_heap w1 ga _ (irow .u8 (bl (K))) _ _ ra
  replace hw := below_setRow hw (show w.heap.size ≤ ga by omega) (irow .u8 (bl (K)))
  generalize w1.setRow ga (irow .u8 (bl (K))) = w2 at *
  refine wpList_store_row rfl 32 _ _ rfl (gb_) (irow .u8 (bl (K))) rfl rfl 32 _ rb hi2 hfi (irow_one _ _) ?_
  simp only [Act.put]
  replace ra := (setRow_other w2 gb_ ga (irow .u8 (bl (K))) hab).trans ra
  replace rb := setRow_heap w2 gb_ _ (irow .u8 (bl (K))) _ _ rb
  replace hw := below_setRow hw (show w.heap.size ≤ gb_ by omega) (irow .u8 (bl (K)))
  generalize w2.setRow gb_ (irow .u8 (bl (K))) = w3 at *
  go_wp2_with (fail)
  go_loopw [5] (fun i wr => ∃ k : Nat, k ≤ 15 ∧ i = .int .i64 k ∧ wr.heap[ga]? = some (.cells (irow .u8 (bl (K))) 29 (0, 0)) ∧ wr.heap[gb_]? = some (.cells (irow .u8 (bl (K))) 32 (0, 0)) ∧ Below w.heap.size w wr) (fun i _ => 15 - (intOf i).toNat)
  case atStart => exact ⟨0, by omega, rfl, ra, rb, hw⟩
  case round =>
    clear ra rb hw
    obtain ⟨k, hk, rfl, ra, rb, hw⟩ := hrel
    by_cases hlt : k < 15
    · have hd : decide ((k : Int) < 15) = true := by simp; omega
      have hpk := bl_kr K hKl k hlt
      have hib := info_bl infoB (kr K k) (kr_len _ _)
      have hir := info_bl infoR (kr K k) (kr_len _ _)
      have q1 := fun W => eqB (kr K k) (kr K k) (kr_len _ _) (kr_len _ _) W
      simp only [decide_true] at q1
      go_wp2_with (fail)
      have HRa := keepr ra
      have HRb := keepr rb
      refine wp_region_quiet_below (by kernel_rfl) (by kernel_rfl) ?_
      go_big_quiet_step (fail)
      go_big_quiet_step (fail)
      refine wpQuiet_load_part rfl 28 _ rfl (ga) (k * 16) rfl 29 (irow .u8 (bl (K))) (0, 0) (irow .u8 (bl (kr K k))) _ HRa.out hpk Try.underlying28 rfl hib ?_
      simp only [Act.put, List.setIfInBounds_toArray, List.set_cons_succ, List.set_cons_zero]
      go_big_quiet_step (fail)
      go_big_quiet_step (fail)
      refine wpQuiet_load_part rfl 31 _ rfl (gb_) (k * 16) rfl 32 (irow .u8 (bl (K))) (0, 0) (irow .u8 (bl (kr K k))) _ HRb.out hpk Try.underlying31 rfl hir ?_
      simp only [Act.put, List.setIfInBounds_toArray, List.set_cons_succ, List.set_cons_zero]
      go_big_quiet_step (fail)
      refine wpQuiet_nil ?_
      rintro _ ⟨p, rfl⟩
      have hb := below_regrown wr p.d p.os
      generalize grow (redrawn wr p.d) p.os = w4 at *
      clear HRa HRb
      replace ra := keep hb ra
      replace rb := keep hb rb
      replace hw := Below.after hw hb
      clear hb
      go_wp2
      refine ⟨⟨k + 1, by omega, by go_num, ra, rb, hw⟩, by simp [intOf]; omega⟩
    · obtain rfl : k = 15 := by omega
      have hd : decide ((15 : Int) < 15) = false := by decide
      go_wp2
      go_ret
      exact ⟨rfl, hw⟩

end Go.Proofs.Ytmldmlbmfbdjoaa

