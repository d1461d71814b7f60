import Derived.Test.YtamieopjigjfiaaDoorProg
import Derived.WalkKit
import Derived.WalkSpells
import Derived.WalkLawsBesides
import Derived.Lib.QuietBelow
import Derived.BigQuiet
import Derived.Test.YtamieopjigjfiaaDoorKa
import Derived.Test.YtamieopjigjfiaaDoorYb
namespace Go.Proofs.YtamieopjigjfiaaDoor
set_option maxRecDepth 100000
open Go Go.RowKit Go.Sort
attribute [local go_sem] setCell_drewN alloc_drewN


theorem b32 (cs : Array Value) (W : World) : (Instr.box 64 (.agg cs)).run Tryd.prog W = .ok (.pointer (some ⟨W.heap.size, 0, none⟩)) (W.alloc (.cells cs 64)) := by kernel_rfl
theorem kr_len (K : List B) (r : Nat) : (kr K r).length = 16 := mk16_len _
theorem bl_kr (K : List B) (hK : K.length = 240) (r : Nat) (h : r < 15) : (irow .u8 (bl (K))).extract (r * 16) (r * 16 + (irow .u8 (bl (kr K r))).size) = (irow .u8 (bl (kr K r))) := by
  apply Array.ext_getElem?
  intro j
  rw [irow_size, bl_len, kr_len, Array.getElem?_extract]
  by_cases hj : j < 16
  · rw [if_pos (by rw [irow_size, bl_len, hK]; omega), irow_get _ _ _ (by rw [bl_len, hK]; omega), irow_get _ _ _ (by rw [bl_len, kr_len]; exact hj), bl_get, bl_get, kr, mk16_get _ hj, Nat.mul_comm r 16]
  · rw [if_neg (by omega), Array.getElem?_eq_none (by rw [irow_size, bl_len, kr_len]; omega)]

set_option maxRecDepth 100000 in
set_option maxHeartbeats 4000000 in
theorem r_encryptBy (K l : List B) (hK : K.length = 240) (hl : l.length = 16) : Gives 47 #[.agg (irow .u8 (bl (sbl))), .agg (irow .u8 (bl (K))), .agg (irow .u8 (bl (l)))] (.agg (irow .u8 (bl (enc K l)))) := by
  intro w
  have R0 := hp4_0 w (.cells (irow .u8 (bl (sbl))) 61) (.cells (irow .u8 (bl (K))) 64) (.cells (irow .u8 (bl (l))) 63) (.cells (irow .u8 (zr 16)) 63)
  have R1 := hp4_1 w (.cells (irow .u8 (bl (sbl))) 61) (.cells (irow .u8 (bl (K))) 64) (.cells (irow .u8 (bl (l))) 63) (.cells (irow .u8 (zr 16)) 63)
  have R2 := hp4_2 w (.cells (irow .u8 (bl (sbl))) 61) (.cells (irow .u8 (bl (K))) 64) (.cells (irow .u8 (bl (l))) 63) (.cells (irow .u8 (zr 16)) 63)
  have R3 := hp4_3 w (.cells (irow .u8 (bl (sbl))) 61) (.cells (irow .u8 (bl (K))) 64) (.cells (irow .u8 (bl (l))) 63) (.cells (irow .u8 (zr 16)) 63)
  have hw : Below w.heap.size w ((((w.alloc (.cells (irow .u8 (bl (sbl))) 61)).alloc (.cells (irow .u8 (bl (K))) 64)).alloc (.cells (irow .u8 (bl (l))) 63)).alloc (.cells (irow .u8 (zr 16)) 63)) := (((((Below.refl _ _).alloc (Nat.le_refl _) _).alloc (by simp) _).alloc (by simp; omega) _).alloc (by simp; omega) _)

  have hiT := info256 sbl sbl_len
  have hi0 := info_bl infoR l hl
  have hik0 := info_bl infoR (kr K 0) (kr_len _ _)
  have cx := r_xor l (kr K 0) hl (kr_len _ _)
  go_enter Tryd.func47, Tryd.ntmps47
  go_wp2_with (first | (refine wpList_box rfl 61 _ rfl _ rfl (b256 _) ?_) | (refine wpList_box rfl 64 _ rfl _ rfl (b32 _) ?_) | (refine wpList_box rfl 63 _ rfl _ rfl (bR _) ?_) | (refine wpList_alloc rfl 63 rfl (irow .u8 (zr 16)) zR ?_) | ((try simp only [size_alloc1]); refine wpList_load_want rfl 63 _ rfl (w.heap.size + 1 + 1) rfl 63 (irow .u8 (bl (l))) (0, 0) _ R2 Tryd.underlying63 rfl hi0 ?_) | (refine wpList_load_part rfl 63 _ rfl (w.heap.size + 1) 0 rfl 64 (irow .u8 (bl (K))) (0, 0) (irow .u8 (bl (kr K 0))) _ R1 (bl_kr K hK 0 (by omega)) Tryd.underlying63 rfl hik0 ?_) | fail)
  try simp only [size_alloc1, Act.put, List.setIfInBounds_toArray, List.set_cons_succ, List.set_cons_zero]
  generalize World.alloc _ _ = w0 at *
  refine (cx.at _).mono ?_
  rintro e_ w1 ⟨rfl, hb⟩
  replace R0 := keep hb R0
  replace R1 := keep hb R1
  replace R2 := keep hb R2
  replace R3 := keep hb R3
  replace hw := Below.after hw hb
  clear hb cx
  go_wp2_with (first | (refine wpList_store_row rfl 63 _ _ rfl (w.heap.size + 1 + 1) (irow .u8 (bl (rnd5 K l 0))) rfl rfl 63 _ R2 (info_bl infoR _ (rnd_len _ _ _)) (by rw [irow_size, irow_size, bl_len, bl_len, rnd_len, hl]) (irow_one _ _) ?_; refine wpList_stay ?_) | fail)
  unfold WpStay
  replace R0 := (setRow_other w1 (w.heap.size + 1 + 1) (w.heap.size) (irow .u8 (bl (rnd5 K l 0))) (by omega)).trans R0
  replace R1 := (setRow_other w1 (w.heap.size + 1 + 1) (w.heap.size + 1) (irow .u8 (bl (rnd5 K l 0))) (by omega)).trans R1
  replace R3 := (setRow_other w1 (w.heap.size + 1 + 1) (w.heap.size + 1 + 1 + 1) (irow .u8 (bl (rnd5 K l 0))) (by omega)).trans R3
  replace R2 := setRow_heap w1 (w.heap.size + 1 + 1) _ (irow .u8 (bl (rnd5 K l 0))) _ _ R2
  replace hw := below_setRow hw (show w.heap.size ≤ w.heap.size + 1 + 1 by omega) (irow .u8 (bl (rnd5 K l 0)))
  generalize w1.setRow (w.heap.size + 1 + 1) (irow .u8 (bl (rnd5 K l 0))) = w2 at *
  go_wp2_with (fail)
  go_loopw [7] (fun i wr => ∃ n : Nat, n ≤ 13 ∧ i = .int .i64 ((n : Int) + 1) ∧ wr.heap[w.heap.size]? = some (.cells (irow .u8 (bl (sbl))) 61 (0, 0)) ∧ wr.heap[w.heap.size + 1]? = some (.cells (irow .u8 (bl (K))) 64 (0, 0)) ∧ wr.heap[w.heap.size + 1 + 1]? = some (.cells (irow .u8 (bl (rnd5 K l n))) 63 (0, 0)) ∧ wr.heap[w.heap.size + 1 + 1 + 1]? = some (.cells (irow .u8 (zr 16)) 63 (0, 0)) ∧ Below w.heap.size w wr) (fun i _ => 14 - (intOf i).toNat)
  case atStart => exact ⟨0, by omega, rfl, R0, R1, R2, R3, hw⟩
  case round =>
    clear R0 R1 R2 R3 hw
    obtain ⟨n, hn, rfl, r0, r1, r2, r3, hw⟩ := hrel
    by_cases hlt : n < 13
    · have hd : decide ((n : Int) + 1 < 14) = true := by simp; omega
      have hiB := info_bl infoR (rnd5 K l n) (rnd_len _ _ _)
      have hik := info_bl infoR (kr K (n + 1)) (kr_len _ _)
      have hpk := bl_kr K hK (n + 1) (by omega)
      have cs1 := r_subShift (rnd5 K l n) (rnd_len _ _ _)
      have cs2 := r_mix (shiftL (subL (rnd5 K l n))) (shiftL_len _)
      have cs3 := r_xor (mixL (shiftL (subL (rnd5 K l n)))) (kr K (n + 1)) (mix_len _) (kr_len _ _)
      go_wp2_with (fail)
      have HR0 := keepr r0
      have HR1 := keepr r1
      have HR2 := keepr r2
      refine wp_region_tail (C := fun w' => ∃ p : Regrown, w' = grow (redrawn wr p.d) p.os) 8 _ rfl rfl rfl (by kernel_rfl) (by kernel_rfl) (by kernel_rfl) (by kernel_rfl) ⟨⟨wr.drawn + 1, #[]⟩, by rw [grow_empty]; rfl⟩ ?_
      dsimp only [List.set, idle]
      refine wpQuiet_load_row rfl 61 _ rfl (w.heap.size) rfl 61 (irow .u8 (bl (sbl))) (0, 0) _ HR0.out Tryd.underlying61 rfl hiT ?_
      simp only [Act.put, List.setIfInBounds_toArray, List.set_cons_succ, List.set_cons_zero]
      refine wpQuiet_load_row rfl 63 _ rfl (w.heap.size + 1 + 1) rfl 63 (irow .u8 (bl (rnd5 K l n))) (0, 0) _ HR2.out Tryd.underlying63 rfl hiB ?_
      simp only [Act.put, List.setIfInBounds_toArray, List.set_cons_succ, List.set_cons_zero]
      go_big_quiet_step (exact cs1.re)
      go_big_quiet_step (exact cs2.re)
      go_big_quiet_step (fail)
      go_big_quiet_step (fail)
      refine wpQuiet_load_part rfl 63 _ rfl (w.heap.size + 1) ((n + 1) * 16) rfl 64 (irow .u8 (bl (K))) (0, 0) (irow .u8 (bl (kr K (n + 1)))) _ HR1.out hpk Tryd.underlying63 rfl hik ?_
      simp only [Act.put, List.setIfInBounds_toArray, List.set_cons_succ, List.set_cons_zero]
      go_big_quiet_step (exact cs3.re)
      refine wpQuiet_idle rfl rfl rfl ?_
      rintro _ ⟨p, rfl⟩
      have hb := below_regrown wr p.d p.os
      generalize grow (redrawn wr p.d) p.os = w3 at *
      replace r0 := keep hb r0
      replace r1 := keep hb r1
      replace r2 := keep hb r2
      replace r3 := keep hb r3
      replace hw := Below.after hw hb
      clear hb

      refine wpList_store_row rfl 63 _ _ rfl (w.heap.size + 1 + 1) (irow .u8 (bl (rnd5 K l (n + 1)))) rfl rfl 63 _ r2 (info_bl infoR _ (rnd_len _ _ _)) (by rw [irow_size, irow_size, bl_len, bl_len, rnd_len, rnd_len]) (irow_one _ _) ?_
      simp only [Act.put]
      replace r0 := (setRow_other w3 (w.heap.size + 1 + 1) (w.heap.size) (irow .u8 (bl (rnd5 K l (n + 1)))) (by omega)).trans r0
      replace r1 := (setRow_other w3 (w.heap.size + 1 + 1) (w.heap.size + 1) (irow .u8 (bl (rnd5 K l (n + 1)))) (by omega)).trans r1
      replace r3 := (setRow_other w3 (w.heap.size + 1 + 1) (w.heap.size + 1 + 1 + 1) (irow .u8 (bl (rnd5 K l (n + 1)))) (by omega)).trans r3
      replace r2 := setRow_heap w3 (w.heap.size + 1 + 1) _ (irow .u8 (bl (rnd5 K l (n + 1)))) _ _ r2
      replace hw := below_setRow hw (show w.heap.size ≤ w.heap.size + 1 + 1 by omega) (irow .u8 (bl (rnd5 K l (n + 1))))
      generalize w3.setRow (w.heap.size + 1 + 1) (irow .u8 (bl (rnd5 K l (n + 1)))) = w4 at *

      clear HR0 HR1 HR2 cs1 cs2 cs3 hpk
      go_wp2
      refine ⟨⟨n + 1, by omega, by go_num, r0, r1, r2, r3, hw⟩, by simp [intOf]; omega⟩
    · obtain rfl : n = 13 := by omega
      have hd : decide (((13 : Nat) : Int) + 1 < 14) = false := by decide
      have hiB := info_bl infoR (rnd5 K l 13) (rnd_len _ _ _)
      have hik := info_bl infoR (kr K 14) (kr_len _ _)
      have hpk := bl_kr K hK 14 (by omega)
      have cs1 := r_subShift (rnd5 K l 13) (rnd_len _ _ _)
      have cs3 := r_xor (shiftL (subL (rnd5 K l 13))) (kr K 14) (shiftL_len _) (kr_len _ _)
      have hi9 := info_bl infoR (enc K l) (enc_len _ _)
      clear hn hlt
      go_wp2_with (fail)
      have HR0 := keepr r0
      have HR1 := keepr r1
      have HR2 := keepr r2
      refine wp_region_tail (C := fun w' => ∃ p : Regrown, w' = grow (redrawn wr p.d) p.os) 6 _ rfl rfl rfl (by kernel_rfl) (by kernel_rfl) (by kernel_rfl) (by kernel_rfl) ⟨⟨wr.drawn + 1, #[]⟩, by rw [grow_empty]; rfl⟩ ?_
      dsimp only [List.set, idle]
      refine wpQuiet_load_row rfl 61 _ rfl (w.heap.size) rfl 61 (irow .u8 (bl (sbl))) (0, 0) _ HR0.out Tryd.underlying61 rfl hiT ?_
      simp only [Act.put, List.setIfInBounds_toArray, List.set_cons_succ, List.set_cons_zero]
      refine wpQuiet_load_row rfl 63 _ rfl (w.heap.size + 1 + 1) rfl 63 (irow .u8 (bl (rnd5 K l 13))) (0, 0) _ HR2.out Tryd.underlying63 rfl hiB ?_
      simp only [Act.put, List.setIfInBounds_toArray, List.set_cons_succ, List.set_cons_zero]
      go_big_quiet_step (exact cs1.re)
      go_big_quiet_step (fail)
      refine wpQuiet_load_part rfl 63 _ rfl (w.heap.size + 1) (14 * 16) rfl 64 (irow .u8 (bl (K))) (0, 0) (irow .u8 (bl (kr K 14))) _ HR1.out hpk Tryd.underlying63 rfl hik ?_
      simp only [Act.put, List.setIfInBounds_toArray, List.set_cons_succ, List.set_cons_zero]
      go_big_quiet_step (exact cs3.re)
      refine wpQuiet_idle rfl rfl rfl ?_
      rintro _ ⟨p, rfl⟩
      have hb := below_regrown wr p.d p.os
      generalize grow (redrawn wr p.d) p.os = w3 at *
      replace r0 := keep hb r0
      replace r1 := keep hb r1
      replace r2 := keep hb r2
      replace r3 := keep hb r3
      replace hw := Below.after hw hb
      clear hb

      refine wpList_store_row rfl 63 _ _ rfl (w.heap.size + 1 + 1 + 1) (irow .u8 (bl (enc K l))) rfl rfl 63 _ r3 hi9 (by rw [irow_size, irow_size, zr_len, bl_len, enc_len]) (irow_one _ _) ?_
      simp only [Act.put]
      replace r3 := setRow_heap w3 (w.heap.size + 1 + 1 + 1) _ (irow .u8 (bl (enc K l))) _ _ r3
      replace hw := below_setRow hw (show w.heap.size ≤ w.heap.size + 1 + 1 + 1 by omega) (irow .u8 (bl (enc K l)))
      generalize w3.setRow (w.heap.size + 1 + 1 + 1) (irow .u8 (bl (enc K l))) = w4 at *

      go_wp2_with (fail)
      exact bodyPost_ret (v := .agg (irow .u8 (bl (enc K l)))) (results_cell_row Tryd.results47 _ _ (w.heap.size + 1 + 1 + 1) _ _ _ _ rfl r3 Tryd.underlying63 rfl hi9) rfl ⟨rfl, hw⟩

end Go.Proofs.YtamieopjigjfiaaDoor

