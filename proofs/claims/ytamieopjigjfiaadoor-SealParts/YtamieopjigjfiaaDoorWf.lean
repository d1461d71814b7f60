import Derived.Test.YtamieopjigjfiaaDoorProg
import Derived.WalkKit
import Derived.WalkSpells
import Derived.WalkLawsBesides
import Derived.Lib.QuietBelow
import Derived.BigQuiet
import Derived.Test.YtamieopjigjfiaaDoorKa
import Derived.Test.YtamieopjigjfiaaDoorWd
import Derived.Test.YtamieopjigjfiaaDoorWe
namespace Go.Proofs.YtamieopjigjfiaaDoor
set_option maxRecDepth 100000
open Go Go.RowKit Go.Sort
attribute [local go_sem] setCell_drewN alloc_drewN


/-! Lists turned place by place. -/
def pm (f g : Nat → B) (n k : Nat) : List B := (List.range n).map fun j => if j < k then f j else g j
theorem pm_len (f g : Nat → B) (n k : Nat) : (pm f g n k).length = n := by simp [pm]
theorem pm_get (f g : Nat → B) (n k : Nat) (h : k < n) : (pm f g n k).getD k 0#8 = g k := by
  simp [pm, List.getD_eq_getElem?_getD, h]
theorem pm_set (f g : Nat → B) (n k : Nat) (h : k < n) : (pm f g n k).set k (f k) = pm f g n (k + 1) := by
  apply List.ext_getElem?
  intro j
  rw [List.getElem?_set]
  by_cases e : k = j
  · subst e
    rw [if_pos rfl, if_pos (by rw [pm_len]; exact h)]
    simp [pm, h]
  · rw [if_neg e]
    simp only [pm, List.getElem?_map]
    by_cases hj : j < n
    · simp only [List.getElem?_range hj, Option.map_some]
      by_cases h1 : j < k
      · rw [if_pos h1, if_pos (by omega)]
      · rw [if_neg h1, if_neg (by omega)]
    · rw [List.getElem?_eq_none (by simp; omega)]; rfl
theorem pm_zero (f : Nat → B) (l : List B) (hl : l.length = 16) : pm f (gb l) 16 0 = l := by
  apply ext16 (pm_len _ _ _ _) hl
  intro i hi
  simp [pm, List.getD_eq_getElem?_getD, hi, gb]
theorem pm_full (m : List B) (g : Nat → B) (hm : m.length = 16) : pm (gb m) g 16 16 = m := by
  apply ext16 (pm_len _ _ _ _) hm
  intro i hi
  simp [pm, List.getD_eq_getElem?_getD, hi, gb]
theorem bR (cs : Array Value) (W : World) : (Instr.box 63 (.agg cs)).run Tryd.prog W = .ok (.pointer (some ⟨W.heap.size, 0, none⟩)) (W.alloc (.cells cs 63)) := by kernel_rfl
theorem zR (W : World) : (Instr.alloc 63 true (.tuple #[])).run Tryd.prog W = .ok (.pointer (some ⟨W.heap.size, 0, none⟩)) (W.alloc (.cells (irow .u8 (zr 16)) 63)) := by kernel_rfl
theorem b256 (cs : Array Value) (W : World) : (Instr.box 61 (.agg cs)).run Tryd.prog W = .ok (.pointer (some ⟨W.heap.size, 0, none⟩)) (W.alloc (.cells cs 61)) := by kernel_rfl
theorem infoR : (Tryd.prog.info? 63).map (·.size) = some 16 := by kernel_rfl

set_option maxRecDepth 100000 in
set_option maxHeartbeats 4000000 in
theorem r_xor (a b : List B) (ha : a.length = 16) (hb : b.length = 16) : Gives 67 #[.agg (irow .u8 (bl (a))), .agg (irow .u8 (bl (b)))] (.agg (irow .u8 (bl (xorL a b)))) := by
  intro w
  have R0 := hp3_0 w (.cells (irow .u8 (bl (pm (gb (xorL a b)) (gb a) 16 0))) 63) (.cells (irow .u8 (bl (b))) 63) (.cells (irow .u8 (zr 16)) 63)
  have R1 := hp3_1 w (.cells (irow .u8 (bl (pm (gb (xorL a b)) (gb a) 16 0))) 63) (.cells (irow .u8 (bl (b))) 63) (.cells (irow .u8 (zr 16)) 63)
  have R2 := hp3_2 w (.cells (irow .u8 (bl (pm (gb (xorL a b)) (gb a) 16 0))) 63) (.cells (irow .u8 (bl (b))) 63) (.cells (irow .u8 (zr 16)) 63)
  have hw : Below w.heap.size w (((w.alloc (.cells (irow .u8 (bl (pm (gb (xorL a b)) (gb a) 16 0))) 63)).alloc (.cells (irow .u8 (bl (b))) 63)).alloc (.cells (irow .u8 (zr 16)) 63)) := ((((Below.refl _ _).alloc (Nat.le_refl _) _).alloc (by simp) _).alloc (by simp; omega) _)

  rw [← pm_zero (gb (xorL a b)) a ha]
  go_enter Tryd.func67, Tryd.ntmps67
  go_wp2_with (first | (refine wpList_box rfl 63 _ rfl _ rfl (bR _) ?_) | (refine wpList_alloc rfl 63 rfl (irow .u8 (zr 16)) zR ?_) | fail)
  try simp only [size_alloc1, Act.put, List.setIfInBounds_toArray, List.set_cons_succ, List.set_cons_zero]
  generalize World.alloc _ _ = w0 at *
  rw [pm_zero (gb (xorL a b)) a ha]
  go_loopw [5] (fun i wr => ∃ k : Nat, k ≤ 16 ∧ i = .int .i64 k ∧ wr.heap[w.heap.size]? = some (.cells (irow .u8 (bl (pm (gb (xorL a b)) (gb a) 16 k))) 63 (0, 0)) ∧ wr.heap[w.heap.size + 1]? = some (.cells (irow .u8 (bl (b))) 63 (0, 0)) ∧ wr.heap[w.heap.size + 1 + 1]? = some (.cells (irow .u8 (zr 16)) 63 (0, 0)) ∧ Below w.heap.size w wr) (fun i _ => 16 - (intOf i).toNat)
  case atStart => exact ⟨0, by omega, rfl, R0, R1, R2, hw⟩
  case round =>
    clear R0 R1 R2 hw
    obtain ⟨k, hk, rfl, r0, r1, r2, hw⟩ := hrel
    by_cases hlt : k < 16
    · have hd : decide ((k : Int) < 16) = true := by simp; omega
      have c0 := brow_cell r0 (j := k) (by rw [pm_len]; omega)
      rw [pm_get _ _ _ _ hlt] at c0
      have c1 := brow_cell r1 (j := k) (by omega)
      rw [show b.getD k 0#8 = gb b k from rfl] at c1
      have hx := xor8 (gb a k) (gb b k)
      have hset := hide (pm_set (gb (xorL a b)) (gb a) 16 k hlt)
      rw [show gb (xorL a b) k = gb a k ^^^ gb b k from xorL_get a b hlt] at hset
      generalize gb a k = x0 at *
      generalize gb b k = x1 at *
      go_wp2_with (fail)
      have k0 : ∀ p : Regrown, (grow (redrawn wr p.d) p.os).cell? ⟨w.heap.size, k, none⟩ = some (.int .u8 (bv x0)) := fun p => cell_regrown (c0) p.d p.os
      have k1 : ∀ p : Regrown, (grow (redrawn wr p.d) p.os).cell? ⟨w.heap.size + 1, k, none⟩ = some (.int .u8 (bv x1)) := fun p => cell_regrown (c1) p.d p.os
      refine wp_region_tail (C := fun w' => ∃ p : Regrown, w' = grow (redrawn wr p.d) p.os) 9 _ rfl rfl rfl (by kernel_rfl) (by kernel_rfl) (by kernel_rfl) (by kernel_rfl) ⟨⟨wr.drawn + 1, #[]⟩, by rw [grow_empty]; rfl⟩ ?_
      dsimp only [List.set, idle]
      go_big_quiet_step (fail)
      go_big_quiet_step (fail)
      go_big_quiet_step (fail)
      go_big_quiet_step (fail)
      go_big_quiet_step (fail)
      go_big_quiet_step (fail)
      go_big_quiet_step (fail)
      go_big_quiet_step (fail)
      go_big_quiet_step (fail)
      refine wpQuiet_idle rfl rfl rfl ?_
      rintro _ ⟨p, rfl⟩
      have hb := below_regrown wr p.d p.os
      generalize grow (redrawn wr p.d) p.os = w1 at *
      clear k0 k1
      replace r0 := keep hb r0
      replace r1 := keep hb r1
      replace r2 := keep hb r2
      replace hw := Below.after hw hb
      clear hb

      have cw := brow_cell r0 (j := k) (by rw [pm_len]; omega)
      have hf := row_frozen r0 k
      clear c0 c1
      go_wp2
      refine ⟨⟨k + 1, by omega, by go_num, by rw [← hset.out]; exact brow_set r0 k _, heap_other r1 (by omega), heap_other r2 (by omega), hw.setCell (Nat.le_refl _) _⟩, by simp [intOf]; omega⟩
    · obtain rfl : k = 16 := by omega
      have hd : decide ((16 : Int) < 16) = false := by decide
      rw [pm_full _ _ (xorL_len _ _)] at r0
      clear hk hlt
      have hi9 := info_bl infoR (xorL a b) (xorL_len _ _)
      have hfi : (irow .u8 (zr 16)).size = (irow .u8 (bl (xorL a b))).size := by rw [irow_size, irow_size, bl_len, xorL_len, zr_len]
      go_wp2_with (first | (refine wpList_load_want rfl 63 _ rfl (w.heap.size) rfl 63 (irow .u8 (bl (xorL a b))) (0, 0) _ r0 Tryd.underlying63 rfl hi9 ?_) | (refine wpList_store_row rfl 63 _ _ rfl (w.heap.size + 1 + 1) (irow .u8 (bl (xorL a b))) rfl rfl 63 _ r2 hi9 hfi (irow_one _ _) ?_) | fail)
      replace r2 := setRow_heap wr (w.heap.size + 1 + 1) _ (irow .u8 (bl (xorL a b))) _ _ r2
      replace hw := below_setRow hw (show w.heap.size ≤ w.heap.size + 1 + 1 by omega) (irow .u8 (bl (xorL a b)))
      generalize wr.setRow (w.heap.size + 1 + 1) (irow .u8 (bl (xorL a b))) = w9 at *
      exact bodyPost_ret (v := .agg (irow .u8 (bl (xorL a b)))) (results_cell_row Tryd.results67 _ _ (w.heap.size + 1 + 1) _ _ _ _ rfl r2 Tryd.underlying63 rfl hi9) rfl ⟨rfl, hw⟩


set_option maxRecDepth 100000 in
set_option maxHeartbeats 4000000 in
theorem r_subShift (l : List B) (hl : l.length = 16) : Gives 69 #[.agg (irow .u8 (bl (sbl))), .agg (irow .u8 (bl (l)))] (.agg (irow .u8 (bl (shiftL (subL l))))) := by
  intro w
  have hz : ∀ W : World, (Instr.alloc 63 true (.tuple #[])).run Tryd.prog W = .ok (.pointer (some ⟨W.heap.size, 0, none⟩)) (W.alloc (.cells (irow .u8 (bl (pt (gb (shiftL (subL l))) 16 (0)))) 63)) := by rw [← zr_pt]; exact zR
  have R0 := hp4_0 w (.cells (irow .u8 (bl (sbl))) 61) (.cells (irow .u8 (bl (l))) 63) (.cells (irow .u8 (bl (pt (gb (shiftL (subL l))) 16 0))) 63) (.cells (irow .u8 (bl (pt (gb (shiftL (subL l))) 16 0))) 63)
  have R1 := hp4_1 w (.cells (irow .u8 (bl (sbl))) 61) (.cells (irow .u8 (bl (l))) 63) (.cells (irow .u8 (bl (pt (gb (shiftL (subL l))) 16 0))) 63) (.cells (irow .u8 (bl (pt (gb (shiftL (subL l))) 16 0))) 63)
  have R2 := hp4_2 w (.cells (irow .u8 (bl (sbl))) 61) (.cells (irow .u8 (bl (l))) 63) (.cells (irow .u8 (bl (pt (gb (shiftL (subL l))) 16 0))) 63) (.cells (irow .u8 (bl (pt (gb (shiftL (subL l))) 16 0))) 63)
  have R3 := hp4_3 w (.cells (irow .u8 (bl (sbl))) 61) (.cells (irow .u8 (bl (l))) 63) (.cells (irow .u8 (bl (pt (gb (shiftL (subL l))) 16 0))) 63) (.cells (irow .u8 (bl (pt (gb (shiftL (subL l))) 16 0))) 63)
  have hw : Below w.heap.size w ((((w.alloc (.cells (irow .u8 (bl (sbl))) 61)).alloc (.cells (irow .u8 (bl (l))) 63)).alloc (.cells (irow .u8 (bl (pt (gb (shiftL (subL l))) 16 0))) 63)).alloc (.cells (irow .u8 (bl (pt (gb (shiftL (subL l))) 16 0))) 63)) := (((((Below.refl _ _).alloc (Nat.le_refl _) _).alloc (by simp) _).alloc (by simp; omega) _).alloc (by simp; omega) _)

  go_enter Tryd.func69, Tryd.ntmps69
  go_wp2_with (first | (refine wpList_box rfl 61 _ rfl _ rfl (b256 _) ?_) | (refine wpList_box rfl 63 _ rfl _ rfl (bR _) ?_) | (refine wpList_alloc rfl 63 rfl (irow .u8 (bl (pt (gb (shiftL (subL l))) 16 (0)))) hz ?_) | fail)
  try simp only [size_alloc1, Act.put, List.setIfInBounds_toArray, List.set_cons_succ, List.set_cons_zero]
  clear hz
  generalize World.alloc _ _ = w0 at *
  go_loopw [6] (fun i wr => ∃ c : Nat, c ≤ 4 ∧ i = .int .i64 c ∧ wr.heap[w.heap.size]? = some (.cells (irow .u8 (bl (sbl))) 61 (0, 0)) ∧ wr.heap[w.heap.size + 1]? = some (.cells (irow .u8 (bl (l))) 63 (0, 0)) ∧ wr.heap[w.heap.size + 1 + 1]? = some (.cells (irow .u8 (bl (pt (gb (shiftL (subL l))) 16 (0)))) 63 (0, 0)) ∧ wr.heap[w.heap.size + 1 + 1 + 1]? = some (.cells (irow .u8 (bl (pt (gb (shiftL (subL l))) 16 (4 * c)))) 63 (0, 0)) ∧ Below w.heap.size w wr) (fun i _ => 4 - (intOf i).toNat)
  case atStart => exact ⟨0, by omega, rfl, R0, R1, R2, R3, hw⟩
  case round =>
    clear R0 R1 R2 R3 hw
    obtain ⟨c, hc, rfl, r0, r1, r2, r3, hw⟩ := hrel
    by_cases hlc : c < 4
    · have hd : decide ((c : Int) < 4) = true := by simp; omega
      go_wp2_with (fail)
      go_loopw [7] (fun i wr => ∃ k : Nat, k ≤ 4 ∧ i = .int .i64 k ∧ wr.heap[w.heap.size]? = some (.cells (irow .u8 (bl (sbl))) 61 (0, 0)) ∧ wr.heap[w.heap.size + 1]? = some (.cells (irow .u8 (bl (l))) 63 (0, 0)) ∧ wr.heap[w.heap.size + 1 + 1]? = some (.cells (irow .u8 (bl (pt (gb (shiftL (subL l))) 16 (0)))) 63 (0, 0)) ∧ wr.heap[w.heap.size + 1 + 1 + 1]? = some (.cells (irow .u8 (bl (pt (gb (shiftL (subL l))) 16 (4 * c + k)))) 63 (0, 0)) ∧ Below w.heap.size w wr) (fun i _ => 4 - (intOf i).toNat)
      case atStart => exact ⟨0, by omega, rfl, r0, r1, r2, r3, hw⟩
      case round =>
        clear r0 r1 r2 r3 hw
        obtain ⟨k, hk, rfl, r0, r1, r2, r3, hw⟩ := hrel
        by_cases hlt : k < 4
        · have hd : decide ((k : Int) < 4) = true := by simp; omega
          have hr : ((c : Int) + (k : Int)).tmod 4 = (((c + k) % 4 : Nat) : Int) := by rw [Int.tmod_eq_emod_of_nonneg (by omega)]; rfl
          have c1 := brow_cell r1 (j := k + 4 * ((c + k) % 4)) (by omega)
          have hfv : gb (shiftL (subL l)) (4 * c + k) = sb (l.getD (k + 4 * ((c + k) % 4)) 0#8) := by
            rw [gb, shiftL_get _ (by omega), subL_get _ (by omega), show (4 * c + k) % 4 = k by omega, show (4 * c + k) / 4 = c by omega]
          have c2 := brow_cell r0 (j := (l.getD (k + 4 * ((c + k) % 4)) 0#8).toNat) (by rw [sbl_len]; exact (l.getD (k + 4 * ((c + k) % 4)) 0#8).isLt)
          rw [sbl_get, ← hfv] at c2
          have hset := hide (pt_set (gb (shiftL (subL l))) 16 (4 * c + k) (by omega))
          have n1 := bv_nat (l.getD (k + 4 * ((c + k) % 4)) 0#8)
          have b1 := bnd (l.getD (k + 4 * ((c + k) % 4)) 0#8)
          clear hfv
          generalize l.getD (k + 4 * ((c + k) % 4)) 0#8 = x1 at *
          generalize gb (shiftL (subL l)) (4 * c + k) = x2 at *
          have cw := brow_cell r3 (j := 4 * c + k) (by rw [pt_len]; omega)
          have hf := row_frozen r3 (4 * c + k)
          have hcm : k + 4 * c = 4 * c + k := by omega
          go_wp2
          refine ⟨⟨k + 1, by omega, by go_num, heap_other r0 (by omega), heap_other r1 (by omega), heap_other r2 (by omega), by rw [← Nat.add_assoc, ← hset.out]; exact brow_set r3 (4 * c + k) x2, hw.setCell (show w.heap.size ≤ w.heap.size + 1 + 1 + 1 by omega) _⟩, by simp [intOf]; omega⟩
        · obtain rfl : k = 4 := by omega
          have hd : decide ((4 : Int) < 4) = false := by decide
          go_wp2
          refine ⟨⟨c + 1, by omega, by go_num, r0, r1, r2, r3, hw⟩, by simp [intOf]; omega⟩
    · obtain rfl : c = 4 := by omega
      have hd : decide ((4 : Int) < 4) = false := by decide
      rw [show pt (gb (shiftL (subL l))) 16 (4 * 4) = shiftL (subL l) from pt_self _ (shiftL_len _)] at r3
      clear hc hlc
      have hi9 := info_bl infoR (shiftL (subL l)) (shiftL_len _)
      have hfi : (irow .u8 (bl (pt (gb (shiftL (subL l))) 16 (0)))).size = (irow .u8 (bl (shiftL (subL l)))).size := by rw [irow_size, irow_size, bl_len, bl_len, shiftL_len, pt_len]
      go_wp2_with (first | (refine wpList_load_want rfl 63 _ rfl (w.heap.size + 1 + 1 + 1) rfl 63 (irow .u8 (bl (shiftL (subL l)))) (0, 0) _ r3 Tryd.underlying63 rfl hi9 ?_) | (refine wpList_store_row rfl 63 _ _ rfl (w.heap.size + 1 + 1) (irow .u8 (bl (shiftL (subL l)))) rfl rfl 63 _ r2 hi9 hfi (irow_one _ _) ?_) | fail)
      replace r2 := setRow_heap wr (w.heap.size + 1 + 1) _ (irow .u8 (bl (shiftL (subL l)))) _ _ r2
      replace hw := below_setRow hw (show w.heap.size ≤ w.heap.size + 1 + 1 by omega) (irow .u8 (bl (shiftL (subL l))))
      generalize wr.setRow (w.heap.size + 1 + 1) (irow .u8 (bl (shiftL (subL l)))) = w9 at *
      exact bodyPost_ret (v := .agg (irow .u8 (bl (shiftL (subL l))))) (results_cell_row Tryd.results69 _ _ (w.heap.size + 1 + 1) _ _ _ _ rfl r2 Tryd.underlying63 rfl hi9) rfl ⟨rfl, hw⟩


set_option maxRecDepth 100000 in
set_option maxHeartbeats 4000000 in
theorem r_mix (l : List B) (hl : l.length = 16) : Gives 68 #[.agg (irow .u8 (bl (l)))] (.agg (irow .u8 (bl (mixL l)))) := by
  intro w
  have hz : ∀ W : World, (Instr.alloc 63 true (.tuple #[])).run Tryd.prog W = .ok (.pointer (some ⟨W.heap.size, 0, none⟩)) (W.alloc (.cells (irow .u8 (bl (pt (gb (mixL l)) 16 (0)))) 63)) := by rw [← zr_pt]; exact zR
  have R0 := hp3_0 w (.cells (irow .u8 (bl (l))) 63) (.cells (irow .u8 (bl (pt (gb (mixL l)) 16 (0)))) 63) (.cells (irow .u8 (bl (pt (gb (mixL l)) 16 (0)))) 63)
  have R1 := hp3_1 w (.cells (irow .u8 (bl (l))) 63) (.cells (irow .u8 (bl (pt (gb (mixL l)) 16 (0)))) 63) (.cells (irow .u8 (bl (pt (gb (mixL l)) 16 (0)))) 63)
  have R2 := hp3_2 w (.cells (irow .u8 (bl (l))) 63) (.cells (irow .u8 (bl (pt (gb (mixL l)) 16 (0)))) 63) (.cells (irow .u8 (bl (pt (gb (mixL l)) 16 (0)))) 63)
  have hw : Below w.heap.size w (((w.alloc (.cells (irow .u8 (bl (l))) 63)).alloc (.cells (irow .u8 (bl (pt (gb (mixL l)) 16 (0)))) 63)).alloc (.cells (irow .u8 (bl (pt (gb (mixL l)) 16 (0)))) 63)) := ((((Below.refl _ _).alloc (Nat.le_refl _) _).alloc (by simp) _).alloc (by simp; omega) _)

  go_enter Tryd.func68, Tryd.ntmps68
  go_wp2_with (first | (refine wpList_box rfl 63 _ rfl _ rfl (bR _) ?_) | (refine wpList_alloc rfl 63 rfl (irow .u8 (bl (pt (gb (mixL l)) 16 (0)))) hz ?_) | fail)
  try simp only [size_alloc1, Act.put, List.setIfInBounds_toArray, List.set_cons_succ, List.set_cons_zero]
  clear hz
  generalize World.alloc _ _ = w0 at *
  go_loopw [4] (fun i wr => ∃ c : Nat, c ≤ 4 ∧ i = .int .i64 c ∧ wr.heap[w.heap.size]? = some (.cells (irow .u8 (bl (l))) 63 (0, 0)) ∧ wr.heap[w.heap.size + 1]? = some (.cells (irow .u8 (bl (pt (gb (mixL l)) 16 (0)))) 63 (0, 0)) ∧ wr.heap[w.heap.size + 1 + 1]? = some (.cells (irow .u8 (bl (pt (gb (mixL l)) 16 (4 * c)))) 63 (0, 0)) ∧ Below w.heap.size w wr) (fun i _ => 4 - (intOf i).toNat)
  case atStart => exact ⟨0, by omega, rfl, R0, R1, R2, hw⟩
  case round =>
    clear R0 R1 R2 hw
    obtain ⟨c, hc, rfl, r0, r1, r2, hw⟩ := hrel
    by_cases hlc : c < 4
    · have hd : decide ((c : Int) < 4) = true := by simp; omega
      go_wp2_with (fail)
      go_loopw [5] (fun i wr => ∃ k : Nat, k ≤ 4 ∧ i = .int .i64 k ∧ wr.heap[w.heap.size]? = some (.cells (irow .u8 (bl (l))) 63 (0, 0)) ∧ wr.heap[w.heap.size + 1]? = some (.cells (irow .u8 (bl (pt (gb (mixL l)) 16 (0)))) 63 (0, 0)) ∧ wr.heap[w.heap.size + 1 + 1]? = some (.cells (irow .u8 (bl (pt (gb (mixL l)) 16 (4 * c + k)))) 63 (0, 0)) ∧ Below w.heap.size w wr) (fun i _ => 4 - (intOf i).toNat)
      case atStart => exact ⟨0, by omega, rfl, r0, r1, r2, hw⟩
      case round =>
        clear r0 r1 r2 hw
        obtain ⟨k, hk, rfl, r0, r1, r2, hw⟩ := hrel
        by_cases hlt : k < 4
        · have hd : decide ((k : Int) < 4) = true := by simp; omega
          have hr1 : ((k : Int) + 1).tmod 4 = (((k + 1) % 4 : Nat) : Int) := by rw [Int.tmod_eq_emod_of_nonneg (by omega)]; rfl
          have hr2 : ((k : Int) + 2).tmod 4 = (((k + 2) % 4 : Nat) : Int) := by rw [Int.tmod_eq_emod_of_nonneg (by omega)]; rfl
          have hr3 : ((k : Int) + 3).tmod 4 = (((k + 3) % 4 : Nat) : Int) := by rw [Int.tmod_eq_emod_of_nonneg (by omega)]; rfl
          have hfv : gb (mixL l) (4 * c + k) = dbl (l.getD (4 * c + k) 0#8) ^^^ dbl (l.getD (4 * c + (k + 1) % 4) 0#8) ^^^ l.getD (4 * c + (k + 1) % 4) 0#8 ^^^ l.getD (4 * c + (k + 2) % 4) 0#8 ^^^ l.getD (4 * c + (k + 3) % 4) 0#8 := by
            have h1 : gb (mixL l) (4 * c + k) = mg (mixL l) c k := by unfold gb mg; rw [Nat.mod_eq_of_lt hlt]
            rw [h1, mg_mix _ _ _ hlc]
            unfold mg
            rw [Nat.mod_eq_of_lt hlt]
          have q0 := brow_cell r0 (j := 4 * c + k) (by omega)
          have q1 := brow_cell r0 (j := 4 * c + (k + 1) % 4) (by omega)
          have q2 := brow_cell r0 (j := 4 * c + (k + 2) % 4) (by omega)
          have q3 := brow_cell r0 (j := 4 * c + (k + 3) % 4) (by omega)
          have hset := hide (pt_set (gb (mixL l)) 16 (4 * c + k) (by omega))
          rw [hfv] at hset
          clear hfv
          have hq2 : Hid (∀ W : World, W.heap[w.heap.size]? = some (.cells (irow .u8 (bl (l))) 63 (0, 0)) → W.cell? ⟨w.heap.size, 4 * c + (k + 2) % 4, none⟩ = some (.int .u8 (bv (l.getD (4 * c + (k + 2) % 4) 0#8)))) := hide (fun W h => brow_cell h (by omega))
          have hq3 : Hid (∀ W : World, W.heap[w.heap.size]? = some (.cells (irow .u8 (bl (l))) 63 (0, 0)) → W.cell? ⟨w.heap.size, 4 * c + (k + 3) % 4, none⟩ = some (.int .u8 (bv (l.getD (4 * c + (k + 3) % 4) 0#8)))) := hide (fun W h => brow_cell h (by omega))
          generalize l.getD (4 * c + k) 0#8 = x0 at *
          generalize l.getD (4 * c + (k + 1) % 4) 0#8 = x1 at *
          generalize l.getD (4 * c + (k + 2) % 4) 0#8 = x2 at *
          generalize l.getD (4 * c + (k + 3) % 4) 0#8 = x3 at *
          have d0 := r_double x0
          have d1 := r_double x1
          have e1 := xor8 (dbl x0) (dbl x1)
          have e2 := xor8 (dbl x0 ^^^ dbl x1) x1
          have e3 := xor8 (dbl x0 ^^^ dbl x1 ^^^ x1) x2
          have e4 := xor8 (dbl x0 ^^^ dbl x1 ^^^ x1 ^^^ x2) x3
          generalize dbl x0 ^^^ dbl x1 ^^^ x1 ^^^ x2 ^^^ x3 = y4 at *
          generalize dbl x0 ^^^ dbl x1 ^^^ x1 ^^^ x2 = y3 at *
          generalize dbl x0 ^^^ dbl x1 ^^^ x1 = y2 at *
          generalize dbl x0 ^^^ dbl x1 = y1 at *
          go_wp2_with (fail)
          have k0 : ∀ p : Regrown, (grow (redrawn wr p.d) p.os).cell? ⟨w.heap.size, 4 * c + k, none⟩ = some (.int .u8 (bv x0)) := fun p => cell_regrown (q0) p.d p.os
          have k1 : ∀ p : Regrown, (grow (redrawn wr p.d) p.os).cell? ⟨w.heap.size, 4 * c + (k + 1) % 4, none⟩ = some (.int .u8 (bv x1)) := fun p => cell_regrown (q1) p.d p.os
          refine wp_region_quiet_below (by kernel_rfl) (by kernel_rfl) ?_
          go_big_quiet_step (fail)
          go_big_quiet_step (fail)
          go_big_quiet_step (fail)
          go_big_quiet_step (fail)
          go_big_quiet_step (fail)
          go_big_quiet_step (fail)
          go_big_quiet_step (fail)
          go_big_quiet_step (fail)
          go_big_quiet_step (fail)
          go_big_quiet_step (fail)
          go_big_quiet_step (fail)
          go_big_quiet_step (fail)
          go_big_quiet_step (fail)
          go_big_quiet_step (fail)
          go_big_quiet_step (fail)
          go_big_quiet_step (fail)
          refine wpQuiet_nil ?_
          rintro _ ⟨p, rfl⟩
          have hb := below_regrown wr p.d p.os
          generalize grow (redrawn wr p.d) p.os = w1 at *
          clear k0 k1
          replace r0 := keep hb r0
          replace r1 := keep hb r1
          replace r2 := keep hb r2
          replace hw := Below.after hw hb
          clear hb

          have q4 : w1.cell? ⟨w.heap.size, 4 * c + (k + 2) % 4, none⟩ = some (.int .u8 (bv x2)) := hq2.out w1 r0
          have q5 : w1.cell? ⟨w.heap.size, 4 * c + (k + 3) % 4, none⟩ = some (.int .u8 (bv x3)) := hq3.out w1 r0
          clear q0 q1 q2 q3
          go_wp2_with (fail)
          have k2 : ∀ p : Regrown, (grow (redrawn w1 p.d) p.os).cell? ⟨w.heap.size, 4 * c + (k + 2) % 4, none⟩ = some (.int .u8 (bv x2)) := fun p => cell_regrown (q4) p.d p.os
          have k3 : ∀ p : Regrown, (grow (redrawn w1 p.d) p.os).cell? ⟨w.heap.size, 4 * c + (k + 3) % 4, none⟩ = some (.int .u8 (bv x3)) := fun p => cell_regrown (q5) p.d p.os
          refine wp_region_tail (C := fun w' => ∃ p : Regrown, w' = grow (redrawn w1 p.d) p.os) 30 _ rfl rfl rfl (by kernel_rfl) (by kernel_rfl) (by kernel_rfl) (by kernel_rfl) ⟨⟨w1.drawn + 1, #[]⟩, by rw [grow_empty]; rfl⟩ ?_
          dsimp only [List.set, idle]
          go_big_quiet_step (fail)
          go_big_quiet_step (fail)
          go_big_quiet_step (fail)
          go_big_quiet_step (fail)
          go_big_quiet_step (fail)
          go_big_quiet_step (exact d0.re)
          go_big_quiet_step (fail)
          go_big_quiet_step (exact d1.re)
          go_big_quiet_step (fail)
          go_big_quiet_step (fail)
          go_big_quiet_step (fail)
          go_big_quiet_step (fail)
          go_big_quiet_step (fail)
          go_big_quiet_step (fail)
          go_big_quiet_step (fail)
          go_big_quiet_step (fail)
          go_big_quiet_step (fail)
          go_big_quiet_step (fail)
          go_big_quiet_step (fail)
          go_big_quiet_step (fail)
          go_big_quiet_step (fail)
          go_big_quiet_step (fail)
          go_big_quiet_step (fail)
          go_big_quiet_step (fail)
          go_big_quiet_step (fail)
          go_big_quiet_step (fail)
          go_big_quiet_step (fail)
          go_big_quiet_step (fail)
          go_big_quiet_step (fail)
          go_big_quiet_step (fail)
          refine wpQuiet_idle rfl rfl rfl ?_
          rintro _ ⟨p, rfl⟩
          have hb := below_regrown w1 p.d p.os
          generalize grow (redrawn w1 p.d) p.os = w2 at *
          clear k2 k3
          replace r0 := keep hb r0
          replace r1 := keep hb r1
          replace r2 := keep hb r2
          replace hw := Below.after hw hb
          clear hb

          have cw := brow_cell r2 (j := 4 * c + k) (by rw [pt_len]; omega)
          have hf := row_frozen r2 (4 * c + k)
          clear q4 q5 hq2 hq3
          go_wp2
          refine ⟨⟨k + 1, by omega, by go_num, heap_other r0 (by omega), heap_other r1 (by omega), by rw [← Nat.add_assoc, ← hset.out]; exact brow_set r2 (4 * c + k) _, hw.setCell (show w.heap.size ≤ w.heap.size + 1 + 1 by omega) _⟩, by simp [intOf]; omega⟩
        · obtain rfl : k = 4 := by omega
          have hd : decide ((4 : Int) < 4) = false := by decide
          go_wp2
          refine ⟨⟨c + 1, by omega, by go_num, r0, r1, r2, hw⟩, by simp [intOf]; omega⟩
    · obtain rfl : c = 4 := by omega
      have hd : decide ((4 : Int) < 4) = false := by decide
      rw [show pt (gb (mixL l)) 16 (4 * 4) = mixL l from pt_self _ (mix_len _)] at r2
      clear hc hlc
      have hi9 := info_bl infoR (mixL l) (mix_len _)
      have hfi : (irow .u8 (bl (pt (gb (mixL l)) 16 (0)))).size = (irow .u8 (bl (mixL l))).size := by rw [irow_size, irow_size, bl_len, bl_len, mix_len, pt_len]
      go_wp2_with (first | (refine wpList_load_want rfl 63 _ rfl (w.heap.size + 1 + 1) rfl 63 (irow .u8 (bl (mixL l))) (0, 0) _ r2 Tryd.underlying63 rfl hi9 ?_) | (refine wpList_store_row rfl 63 _ _ rfl (w.heap.size + 1) (irow .u8 (bl (mixL l))) rfl rfl 63 _ r1 hi9 hfi (irow_one _ _) ?_) | fail)
      replace r1 := setRow_heap wr (w.heap.size + 1) _ (irow .u8 (bl (mixL l))) _ _ r1
      replace hw := below_setRow hw (show w.heap.size ≤ w.heap.size + 1 by omega) (irow .u8 (bl (mixL l)))
      generalize wr.setRow (w.heap.size + 1) (irow .u8 (bl (mixL l))) = w9 at *
      exact bodyPost_ret (v := .agg (irow .u8 (bl (mixL l)))) (results_cell_row Tryd.results68 _ _ (w.heap.size + 1) _ _ _ _ rfl r1 Tryd.underlying63 rfl hi9) rfl ⟨rfl, hw⟩


end Go.Proofs.YtamieopjigjfiaaDoor


namespace Go.Proofs.YtamieopjigjfiaaDoor
set_option maxRecDepth 100000
open Go Go.RowKit Go.Sort
attribute [local go_sem] setCell_drewN alloc_drewN


/-- The last k bytes counted on. -/
def cpt (l : List B) (n k : Nat) : List B := mk16 fun i => if 16 ≤ i + k then ctb l n i else gb l i
theorem cpt_len (l : List B) (n k : Nat) : (cpt l n k).length = 16 := mk16_len _
theorem cpt_zero (l : List B) (n : Nat) (hl : l.length = 16) : cpt l n 0 = l := by
  apply ext16 (cpt_len _ _ _) hl
  intro i hi
  rw [cpt, mk16_get _ hi, if_neg (by omega)]; rfl
theorem cpt_full (l : List B) (n : Nat) : cpt l n 16 = ctr l n := by
  apply ext16 (cpt_len _ _ _) (ctr_len _ _)
  intro i hi
  rw [cpt, mk16_get _ hi, if_pos (by omega), ctr, mk16_get _ hi]
theorem cpt_get (l : List B) (n k : Nat) (h : k < 16) : (cpt l n k).getD (15 - k) 0#8 = gb l (15 - k) := by
  rw [cpt, mk16_get _ (by omega), if_neg (by omega)]
theorem cpt_set (l : List B) (n k : Nat) (h : k < 16) : (cpt l n k).set (15 - k) (ctb l n (15 - k)) = cpt l n (k + 1) := by
  apply ext16 (by rw [List.length_set, cpt_len]) (cpt_len _ _ _)
  intro i hi
  rw [List.getD_eq_getElem?_getD, List.getElem?_set]
  by_cases e : 15 - k = i
  · rw [if_pos e, if_pos (by rw [cpt_len]; omega), cpt, mk16_get _ hi, if_pos (by omega), e]; rfl
  · rw [if_neg e, ← List.getD_eq_getElem?_getD, cpt, mk16_get _ hi, cpt, mk16_get _ hi]
    by_cases g : 16 ≤ i + k
    · rw [if_pos g, if_pos (by omega)]
    · rw [if_neg g, if_neg (by omega)]
theorem cr_stay (l : List B) (n k : Nat) (h : cr l n k = 0) : ∀ j, cr l n (k + j) = 0 := by
  intro j
  induction j with
  | zero => exact h
  | succ j ih =>
    rw [← Nat.add_assoc, cr, ih]
    have := (gb l (15 - (k + j))).isLt
    omega
/-- Where nothing is carried any more the other bytes stay. -/
theorem cpt_done (l : List B) (n k : Nat) (h : cr l n k = 0) (_hk : k ≤ 16) : cpt l n k = ctr l n := by
  apply ext16 (cpt_len _ _ _) (ctr_len _ _)
  intro i hi
  rw [cpt, mk16_get _ hi, ctr, mk16_get _ hi]
  by_cases g : 16 ≤ i + k
  · rw [if_pos g]
  · rw [if_neg g, ctb]
    have := cr_stay l n k h (15 - i - k)
    rw [show k + (15 - i - k) = 15 - i by omega] at this
    rw [this, Nat.zero_add, BitVec.ofNat_toNat, BitVec.setWidth_eq]
theorem cr_lt (l : List B) (n : Nat) (hn : n < 1152921504606846976) (k : Nat) : cr l n k < 1152921504606846976 := by
  induction k with
  | zero => exact hn
  | succ k ih =>
    rw [cr]
    have := (gb l (15 - k)).isLt
    omega
theorem bv_ctb (l : List B) (n k : Nat) (_hk : k < 16) : ((cr l n k : Int) + bv (gb l (15 - k))) % 256 = bv (ctb l n (15 - k)) := by
  unfold bv ctb
  rw [BitVec.toNat_ofNat, show 15 - (15 - k) = k by omega]
  omega
theorem bv_crn (l : List B) (n k : Nat) : ((cr l n k : Int) + bv (gb l (15 - k))) / 256 = ((cr l n (k + 1) : Nat) : Int) := by
  unfold bv
  rw [cr]
  omega

set_option maxRecDepth 100000 in
set_option maxHeartbeats 4000000 in
theorem a_further (l : List B) (hl : l.length = 16) (n : Nat) (hn : n < 1152921504606846976) : Gives 34 #[.agg (irow .u8 (bl (l))), .int .u64 (n : Int)] (.agg (irow .u8 (bl (ctr l n)))) := by
  intro w
  have R0 := hp2_0 w (.cells (irow .u8 (bl (l))) 53) (.cells (irow .u8 (zr 16)) 53)
  have R1 := hp2_1 w (.cells (irow .u8 (bl (l))) 53) (.cells (irow .u8 (zr 16)) 53)
  have hw : Below w.heap.size w ((w.alloc (.cells (irow .u8 (bl (l))) 53)).alloc (.cells (irow .u8 (zr 16)) 53)) := (((Below.refl _ _).alloc (Nat.le_refl _) _).alloc (by simp) _)

  go_enter Tryd.func34, Tryd.ntmps34
  go_wp2_with (first | (refine wpList_box rfl 53 _ rfl _ rfl (bBl _) ?_) | (refine wpList_alloc rfl 53 rfl (irow .u8 (zr 16)) zBl ?_) | fail)
  try simp only [size_alloc1, Act.put, List.setIfInBounds_toArray, List.set_cons_succ, List.set_cons_zero]
  generalize World.alloc _ _ = w0 at *
  go_loopw [1, 5] (fun m i wr => ∃ k : Nat, k ≤ 16 ∧ i = .int .i64 (15 - (k : Int)) ∧ m = .int .u64 ((cr l n k : Nat) : Int) ∧ wr.heap[w.heap.size]? = some (.cells (irow .u8 (bl (cpt l n k))) 53 (0, 0)) ∧ wr.heap[w.heap.size + 1]? = some (.cells (irow .u8 (zr 16)) 53 (0, 0)) ∧ Below w.heap.size w wr) (fun _ i _ => (intOf i + 1).toNat)
  case atStart => exact ⟨0, by omega, rfl, rfl, by rw [cpt_zero l n hl]; exact R0, R1, hw⟩
  case round =>
    clear R0 R1 hw
    obtain ⟨k, hk, rfl, rfl, r0, r1, hw⟩ := hrel
    have hcl := cr_lt l n hn k
    by_cases hlt : k < 16
    · have hd : decide (15 - (k : Int) ≥ 0) = true := by simp; omega
      by_cases h0 : cr l n k = 0
      · rw [cpt_done l n k h0 hk] at r0
        have hd2 : decide (((cr l n k : Nat) : Int) > 0) = false := by simp; omega
        rw [h0]
        clear hcl h0 hd2
        have hd2 : decide (((0 : Nat) : Int) > 0) = false := by decide
        have hi9 := info_bl infoB (ctr l n) (ctr_len _ _)
        have hfi : (irow .u8 (zr 16)).size = (irow .u8 (bl (ctr l n))).size := by rw [irow_size, irow_size, zr_len, bl_len, ctr_len]
        go_wp2_with (first | (refine wpList_load_want rfl 53 _ rfl (w.heap.size) rfl 53 (irow .u8 (bl (ctr l n))) (0, 0) _ r0 Tryd.underlying53 rfl hi9 ?_) | (refine wpList_store_row rfl 53 _ _ rfl (w.heap.size + 1) (irow .u8 (bl (ctr l n))) rfl rfl 53 _ r1 hi9 hfi (irow_one _ _) ?_) | fail)
        replace r1 := setRow_heap wr (w.heap.size + 1) _ (irow .u8 (bl (ctr l n))) _ _ r1
        replace hw := below_setRow hw (show w.heap.size ≤ w.heap.size + 1 by omega) (irow .u8 (bl (ctr l n)))
        generalize wr.setRow (w.heap.size + 1) (irow .u8 (bl (ctr l n))) = w9 at *
        exact bodyPost_ret (v := .agg (irow .u8 (bl (ctr l n)))) (results_cell_row Tryd.results34 _ _ (w.heap.size + 1) _ _ _ _ rfl r1 Tryd.underlying53 rfl hi9) rfl ⟨rfl, hw⟩

      · have hd2 : decide (((cr l n k : Nat) : Int) > 0) = true := by simp; omega
        have hto : (15 - (k : Int)).toNat = 15 - k := by omega
        have c0 := brow_cell r0 (j := 15 - k) (by rw [cpt_len]; omega)
        rw [cpt_get l n k hlt] at c0
        have e1 := bv_ctb l n k hlt
        have e2 := bv_crn l n k
        have b0 := bnd (gb l (15 - k))
        have hset := hide (cpt_set l n k hlt)
        have hf := row_frozen r0 (15 - k)
        have hbd : 0 ≤ 15 - (k : Int) ∧ 15 - (k : Int) < 16 := by omega
        generalize hN : cr l n (k + 1) = N1 at *
        replace hN := hide hN
        generalize ctb l n (15 - k) = x1 at *
        generalize gb l (15 - k) = x0 at *
        generalize cr l n k = N0 at *
        go_wp2
        refine ⟨⟨k + 1, by omega, by congr 1; omega, by rw [hN.out], by rw [← hset.out]; exact brow_set r0 (15 - k) x1, heap_other r1 (by omega), hw.setCell (Nat.le_refl _) _⟩, by simp [intOf]; omega⟩
    · obtain rfl : k = 16 := by omega
      have hd : decide (15 - ((16 : Nat) : Int) ≥ 0) = false := by decide
      rw [cpt_full] at r0
      generalize cr l n 16 = N0 at *
      clear hk hlt
      have hi9 := info_bl infoB (ctr l n) (ctr_len _ _)
      have hfi : (irow .u8 (zr 16)).size = (irow .u8 (bl (ctr l n))).size := by rw [irow_size, irow_size, zr_len, bl_len, ctr_len]
      go_wp2_with (first | (refine wpList_load_want rfl 53 _ rfl (w.heap.size) rfl 53 (irow .u8 (bl (ctr l n))) (0, 0) _ r0 Tryd.underlying53 rfl hi9 ?_) | (refine wpList_store_row rfl 53 _ _ rfl (w.heap.size + 1) (irow .u8 (bl (ctr l n))) rfl rfl 53 _ r1 hi9 hfi (irow_one _ _) ?_) | fail)
      replace r1 := setRow_heap wr (w.heap.size + 1) _ (irow .u8 (bl (ctr l n))) _ _ r1
      replace hw := below_setRow hw (show w.heap.size ≤ w.heap.size + 1 by omega) (irow .u8 (bl (ctr l n)))
      generalize wr.setRow (w.heap.size + 1) (irow .u8 (bl (ctr l n))) = w9 at *
      exact bodyPost_ret (v := .agg (irow .u8 (bl (ctr l n)))) (results_cell_row Tryd.results34 _ _ (w.heap.size + 1) _ _ _ _ rfl r1 Tryd.underlying53 rfl hi9) rfl ⟨rfl, hw⟩


def cft (l : List B) (n k : Nat) : List B := mk16 fun i => if 16 ≤ i + k then ctb l n i else 0#8
theorem cft_len (l : List B) (n k : Nat) : (cft l n k).length = 16 := mk16_len _
theorem cft_zero (l : List B) (n : Nat) : bl (cft l n 0) = zr 16 := by
  rw [← bl_zr]
  congr 1
theorem cft_full (l : List B) (n : Nat) : cft l n 16 = ctr l n := by
  apply ext16 (cft_len _ _ _) (ctr_len _ _)
  intro i hi
  rw [cft, mk16_get _ hi, if_pos (by omega), ctr, mk16_get _ hi]
theorem cft_set (l : List B) (n k : Nat) (h : k < 16) : (cft l n k).set (15 - k) (ctb l n (15 - k)) = cft l n (k + 1) := by
  apply ext16 (by rw [List.length_set, cft_len]) (cft_len _ _ _)
  intro i hi
  rw [List.getD_eq_getElem?_getD, List.getElem?_set]
  by_cases e : 15 - k = i
  · rw [if_pos e, if_pos (by rw [cft_len]; omega), cft, mk16_get _ hi, if_pos (by omega), e]; rfl
  · rw [if_neg e, ← List.getD_eq_getElem?_getD, cft, mk16_get _ hi, cft, mk16_get _ hi]
    by_cases g : 16 ≤ i + k
    · rw [if_pos g, if_pos (by omega)]
    · rw [if_neg g, if_neg (by omega)]
theorem bNo (cs : Array Value) (W : World) : (Instr.box 28 (.agg cs)).run Tryd.prog W = .ok (.pointer (some ⟨W.heap.size, 0, none⟩)) (W.alloc (.cells cs 28)) := by kernel_rfl
theorem infoN : (Tryd.prog.info? 28).map (·.size) = some 16 := by kernel_rfl
set_option maxRecDepth 100000 in
set_option maxHeartbeats 4000000 in
theorem r_counter (l : List B) (hl : l.length = 16) (n : Nat) (hn : n < 18446744073709551616) : Gives 46 #[.agg (irow .u8 (bl (l))), .int .u64 (n : Int)] (.agg (irow .u8 (bl (ctr l n)))) := by
  intro w
  have R0 := hp3_0 w (.cells (irow .u8 (bl (l))) 28) (.cells (irow .u8 (zr 16)) 63) (.cells (irow .u8 (zr 16)) 63)
  have R1 := hp3_1 w (.cells (irow .u8 (bl (l))) 28) (.cells (irow .u8 (zr 16)) 63) (.cells (irow .u8 (zr 16)) 63)
  have R2 := hp3_2 w (.cells (irow .u8 (bl (l))) 28) (.cells (irow .u8 (zr 16)) 63) (.cells (irow .u8 (zr 16)) 63)
  have hw : Below w.heap.size w (((w.alloc (.cells (irow .u8 (bl (l))) 28)).alloc (.cells (irow .u8 (zr 16)) 63)).alloc (.cells (irow .u8 (zr 16)) 63)) := ((((Below.refl _ _).alloc (Nat.le_refl _) _).alloc (by simp) _).alloc (by simp; omega) _)

  go_enter Tryd.func46, Tryd.ntmps46
  go_wp2_with (first | (refine wpList_box rfl 28 _ rfl _ rfl (bNo _) ?_) | (refine wpList_alloc rfl 63 rfl (irow .u8 (zr 16)) zR ?_) | fail)
  try simp only [size_alloc1, Act.put, List.setIfInBounds_toArray, List.set_cons_succ, List.set_cons_zero]
  generalize World.alloc _ _ = w0 at *
  go_loopw [1, 6, 7] (fun m c i wr => ∃ k M C : Nat, k ≤ 16 ∧ i = .int .i64 (15 - (k : Int)) ∧ m = .int .u64 (M : Int) ∧ c = .int .u64 (C : Int) ∧ C ≤ 1 ∧ M < 18446744073709551616 ∧ Hid (M + C = cr l n k) ∧ wr.heap[w.heap.size]? = some (.cells (irow .u8 (bl (l))) 28 (0, 0)) ∧ wr.heap[w.heap.size + 1]? = some (.cells (irow .u8 (zr 16)) 63 (0, 0)) ∧ wr.heap[w.heap.size + 1 + 1]? = some (.cells (irow .u8 (bl (cft l n k))) 63 (0, 0)) ∧ Below w.heap.size w wr) (fun _ _ i _ => (intOf i + 1).toNat)
  case atStart => exact ⟨0, n, 0, by omega, rfl, rfl, rfl, by omega, hn, hide rfl, R0, R1, by rw [cft_zero]; exact R2, hw⟩
  case round =>
    clear R0 R1 R2 hw
    obtain ⟨k, M, C, hk, rfl, rfl, rfl, hC, hM, hMC, r0, r1, r2, hw⟩ := hrel
    by_cases hlt : k < 16
    · have hd : decide (15 - (k : Int) ≥ 0) = true := by simp; omega
      have hto : (15 - (k : Int)).toNat = 15 - k := by omega
      have c0 := brow_cell r0 (j := 15 - k) (by omega)
      rw [show l.getD (15 - k) 0#8 = gb l (15 - k) from rfl] at c0
      have hset := hide (cft_set l n k hlt)
      have hbd : 0 ≤ 15 - (k : Int) ∧ 15 - (k : Int) < 16 := by omega
      have hx : Hid ((bv (gb l (15 - k)) + (M : Int) % 256 + (C : Int)) % 256 = bv (ctb l n (15 - k))) := hide (by
        rw [← bv_ctb l n k hlt, ← hMC.out]; have := bnd (gb l (15 - k)); omega)
      have hx2 : Hid (M / 256 + (((gb l (15 - k)).toNat + M % 256 + C) / 256) = cr l n (k + 1)) := hide (by
        rw [cr, ← hMC.out]; have := (gb l (15 - k)).isLt; omega)
      have e3 : bv (gb l (15 - k)) = ((gb l (15 - k)).toNat : Int) := rfl
      have b3 := (gb l (15 - k)).isLt
      have cw := brow_cell r2 (j := 15 - k) (by rw [cft_len]; omega)
      have hf := row_frozen r2 (15 - k)
      rw [e3] at hx c0
      generalize ctb l n (15 - k) = x1 at *
      generalize (gb l (15 - k)).toNat = x0 at *
      clear e3
      go_wp2
      refine ⟨⟨k + 1, M / 256, (x0 + M % 256 + C) / 256, by omega, by congr 1; omega, by congr 1, by congr 1, by omega, by omega, hx2, heap_other r0 (by omega), heap_other r1 (by omega), by rw [hx.out, ← hset.out]; exact brow_set r2 (15 - k) x1, hw.setCell (show w.heap.size ≤ w.heap.size + 1 + 1 by omega) _⟩, by simp [intOf]; omega⟩
    · obtain rfl : k = 16 := by omega
      have hd : decide (15 - ((16 : Nat) : Int) ≥ 0) = false := by decide
      rw [cft_full] at r2
      clear hk hlt
      have hi9 := info_bl infoR (ctr l n) (ctr_len _ _)
      have hfi : (irow .u8 (zr 16)).size = (irow .u8 (bl (ctr l n))).size := by rw [irow_size, irow_size, bl_len, ctr_len, zr_len]
      go_wp2_with (first | (refine wpList_load_want rfl 63 _ rfl (w.heap.size + 1 + 1) rfl 63 (irow .u8 (bl (ctr l n))) (0, 0) _ r2 Tryd.underlying63 rfl hi9 ?_) | (refine wpList_store_row rfl 63 _ _ rfl (w.heap.size + 1) (irow .u8 (bl (ctr l n))) rfl rfl 63 _ r1 hi9 hfi (irow_one _ _) ?_) | fail)
      replace r1 := setRow_heap wr (w.heap.size + 1) _ (irow .u8 (bl (ctr l n))) _ _ r1
      replace hw := below_setRow hw (show w.heap.size ≤ w.heap.size + 1 by omega) (irow .u8 (bl (ctr l n)))
      generalize wr.setRow (w.heap.size + 1) (irow .u8 (bl (ctr l n))) = w9 at *
      exact bodyPost_ret (v := .agg (irow .u8 (bl (ctr l n)))) (results_cell_row Tryd.results46 _ _ (w.heap.size + 1) _ _ _ _ rfl r1 Tryd.underlying63 rfl hi9) rfl ⟨rfl, hw⟩


/-- Bytes of the data, with their bounds. -/
def BysB (W : World) (v : Value) (bs : List B) : Prop := Bys W v (bl bs) ∧ bs.length ≤ 140737488351232 ∧ (∀ a l c, v = .slice a l c → a = none → c = 0)
theorem BysB.keep {W W' : World} {v : Value} {bs : List B} (h : BysB W v bs) (hb : Below W.heap.size W W') : BysB W' v bs := ⟨h.1.keep hb, h.2⟩
/-- A list of its own. -/
def Own (W : World) (b : Nat) (v : Value) (d : List B) : Prop := W.ownsRow b 5 1 v d.length ((bl d).map (Value.int .u8))
set_option maxHeartbeats 2000000 in
theorem a_clone2 (d : List B) (w : World) (v : Value) (hB : BysB w v d) : Calls Tryd.prog 35 #[v] w fun e w' => ∃ u, e = .returned u ∧ (Own w' w.heap.size u d ∧ (∀ ad l c, v = .slice (some ad) l c → u ≠ .slice none 0 0)) ∧ Below w.heap.size w w' := by
  obtain ⟨⟨ao, cap, rfl, hl, hc, hz⟩, hlen, hnil⟩ := hB
  obtain ⟨i0, hi, hz0, hz1, hz2⟩ := info85
  rw [bl_len] at *
  cases ao with
  | none =>
    obtain rfl := hnil none _ _ rfl rfl
    have h0 : d.length = 0 := by
      rcases Nat.eq_zero_or_pos d.length with h | h
      · exact h
      · obtain ⟨b, off, e, _⟩ := hc 0 h
        cases e
    obtain rfl : d = [] := List.length_eq_zero_iff.1 h0
    clear hc
    have heq : ∀ W : World, (binOp .eql 29 (.slice none 0 0) (.slice none 0 0)).run Tryd.prog W = .ok (.bool true) W := fun W => by kernel_rfl
    go_enter Tryd.func35, Tryd.ntmps35
    go_wp2
    go_ret
    exact ⟨_, rfl, ⟨⟨rfl, .inl ⟨rfl, rfl⟩⟩, fun ad l c h => by cases h⟩, Below.refl _ _⟩
  | some ad =>
    have heq : ∀ W : World, (binOp .eql 29 (.slice (some ad) d.length cap) (.slice none 0 0)).run Tryd.prog W = .ok (.bool false) W := fun W => by kernel_rfl
    have hcell : ∀ W : World, Below w.heap.size w W → ∀ j u, ((bl d).map (Value.int .u8))[j]? = some u → W.cell? (ad.add j) = some u := fun W hW j u hu => by
      have hj : j < d.length := by
        have := (List.getElem?_eq_some_iff.1 hu).1
        simpa [bl_len] using this
      obtain ⟨b, off, e', hb, hcl⟩ := hc j hj
      obtain rfl : ad = ⟨b, off, none⟩ := Option.some.inj e'
      have : u = .int .u8 ((bl d).getD j 0) := by
        have hj' : j < (bl d).length := by rw [bl_len]; exact hj
        simp only [List.getElem?_map, List.getElem?_eq_getElem hj', Option.map_some, Option.some.injEq] at hu
        rw [← hu, List.getD_eq_getElem?_getD, List.getElem?_eq_getElem hj']; rfl
      rw [this, addr_add]
      exact (hW.cell hb).trans hcl
    replace hcell := hide hcell
    clear hc
    go_enter Tryd.func35, Tryd.ntmps35
    have hb0 : Below w.heap.size w (w.alloc (.cells #[] 5)) := (Below.refl _ _).alloc (Nat.le_refl _) _
    have hown0 : (w.alloc (.cells #[] 5)).ownsRow w.heap.size 5 1 (.slice (some ⟨w.heap.size, 0, none⟩) 0 0) 0 [] := ⟨rfl, .inr ⟨w.heap.size, 0, #[], rfl, Nat.le_refl _, hp1_0 w _, Nat.le_refl _, by decide, rfl, rfl⟩⟩
    go_wp2_with (at_builtin; refine wpList_append_own _ rfl (.tmp 5) (.tmp 6) 29 rfl w.heap.size 5 i0 (.int .u8 0) 1 1 Tryd.underlying29 hi hz0 hz1 hz2 rfl (by decide) (.slice (some ⟨w.heap.size, 0, none⟩) 0 0) 0 [] rfl hown0 ad d.length cap ((bl d).map (Value.int .u8)) rfl (by simp [bl_len]) (hcell.out _ hb0) (ints_one .u8 _) (by unfold maxLen; omega) (by omega) hb0.size ?_)
    intro v' w1 hown2 hgrow hnn
    have hn2 : Hid (v' ≠ .slice none 0 0) := hide hnn
    clear hnn
    have hw := hb0.grown hgrow hb0.size (fun k h => (hown0.lt k h).1)
    clear hgrow
    obtain ⟨ao', cap', rfl⟩ := slen_own5 hown2
    go_wp2
    go_ret
    refine ⟨_, rfl, ⟨?_, fun _ _ _ _ => hn2.out⟩, hw⟩
    unfold Own
    simpa using hown2
theorem a_clone5 (d : List B) (w : World) (v : Value) (hB : BysB w v d) : Calls Tryd.prog 35 #[v] w fun e w' => ∃ u, e = .returned u ∧ Own w' w.heap.size u d ∧ Below w.heap.size w w' := (a_clone2 d w v hB).mono fun _ _ ⟨u, h1, h2, h3⟩ => ⟨u, h1, h2.1, h3⟩

end Go.Proofs.YtamieopjigjfiaaDoor


namespace Go.Proofs.YtamieopjigjfiaaDoor
set_option maxRecDepth 100000
open Go Go.RowKit Go.Sort
attribute [local go_sem] setCell_drewN alloc_drewN


/-! A state's cells; a cipher's cells. -/
def srow (ws : List Wd) (g : Nat) (r : Int) : Array Value := irow .u32 (wl ws) ++ #[.pointer (some ⟨g, 0, none⟩), .int .i64 r]
theorem srow_size (ws : List Wd) (g : Nat) (r : Int) : (srow ws g r).size = ws.length + 2 := by simp [srow, irow_size, wl_len]
theorem srow_one (ws : List Wd) (g : Nat) (r : Int) : (srow ws g r).all (·.oneCell') = true := by
  rw [srow, Array.all_append, irow_one]; simp [Value.oneCell']
theorem srow_cell {W : World} {b g : Nat} {ws : List Wd} {r : Int} {t : TypeId} (hg : W.heap[b]? = some (.cells (srow ws g r) t (0, 0))) {j : Nat} (hj : j < ws.length) : W.cell? ⟨b, j, none⟩ = some (.int .u32 (wv (ws.getD j 0#32))) := by
  rw [cell_of_row W b j _ t (0, 0) hg, srow, Array.getElem?_append_left (by rw [irow_size, wl_len]; exact hj), irow_get _ _ _ (by rw [wl_len]; exact hj), wl_get]
theorem srow_ptr {W : World} {b g : Nat} {ws : List Wd} {r : Int} {t : TypeId} (hg : W.heap[b]? = some (.cells (srow ws g r) t (0, 0))) (hl : ws.length = 4) : W.cell? ⟨b, 4, none⟩ = some (.pointer (some ⟨g, 0, none⟩)) := by
  rw [cell_of_row W b 4 _ t (0, 0) hg, srow, Array.getElem?_append_right (by rw [irow_size, wl_len, hl]; omega), irow_size, wl_len, hl]; rfl
theorem srow_rnd {W : World} {b g : Nat} {ws : List Wd} {r : Int} {t : TypeId} (hg : W.heap[b]? = some (.cells (srow ws g r) t (0, 0))) (hl : ws.length = 4) : W.cell? ⟨b, 5, none⟩ = some (.int .i64 r) := by
  rw [cell_of_row W b 5 _ t (0, 0) hg, srow, Array.getElem?_append_right (by rw [irow_size, wl_len, hl]; omega), irow_size, wl_len, hl]; rfl
theorem srow_put (ws : List Wd) (g : Nat) (r : Int) (j : Nat) (z : Wd) (hj : j < ws.length) : (srow ws g r).setIfInBounds j (.int .u32 (wv z)) = srow (ws.set j z) g r := by
  rw [srow, Array.setIfInBounds_append_left (by rw [irow_size, wl_len]; exact hj), srow, ← wl_set]
  congr 1
  simp [irow, List.map_set]
theorem srow_set {W : World} {b g : Nat} {ws : List Wd} {r : Int} {t : TypeId} (hg : W.heap[b]? = some (.cells (srow ws g r) t (0, 0))) (j : Nat) (z : Wd) (hj : j < ws.length) : (W.setCell ⟨b, j, none⟩ (.int .u32 (wv z))).heap[b]? = some (.cells (srow (ws.set j z) g r) t (0, 0)) := by
  rw [heap_setCell_same W b j _ t _ hg, srow_put _ _ _ _ _ hj]
theorem srow_setr {W : World} {b g : Nat} {ws : List Wd} {r : Int} {t : TypeId} (hg : W.heap[b]? = some (.cells (srow ws g r) t (0, 0))) (hl : ws.length = 4) (z : Int) : (W.setCell ⟨b, 5, none⟩ (.int .i64 z)).heap[b]? = some (.cells (srow ws g z) t (0, 0)) := by
  rw [heap_setCell_same W b 5 _ t _ hg, srow, Array.setIfInBounds_append_right (by rw [irow_size, wl_len, hl]; omega), irow_size, wl_len, hl]; rfl
theorem infoS5 : (Tryd.prog.info? 93).map (·.size) = some 6 := by kernel_rfl
theorem info_sr (ws : List Wd) (g : Nat) (r : Int) (hl : ws.length = 4) : (Tryd.prog.info? 93).map (·.size) = some (srow ws g r).size := by
  rw [srow_size, hl]; exact infoS5
/-- A state of nothing. -/
def zst : Array Value := #[.int .u32 0, .int .u32 0, .int .u32 0, .int .u32 0, .pointer none, .int .i64 0]
theorem zSt (W : World) : (Instr.alloc 93 true (.tuple #[])).run Tryd.prog W = .ok (.pointer (some ⟨W.heap.size, 0, none⟩)) (W.alloc (.cells zst 93)) := by kernel_rfl
theorem bSt (cs : Array Value) (W : World) : (Instr.box 93 (.agg cs)).run Tryd.prog W = .ok (.pointer (some ⟨W.heap.size, 0, none⟩)) (W.alloc (.cells cs 93)) := by kernel_rfl
theorem srow_cols (ws : List Wd) (g : Nat) (r : Int) : (srow ws g r).extract 0 (0 + (irow .u32 (wl ws)).size) = irow .u32 (wl ws) := by
  rw [srow, Nat.zero_add]; simp
/-- A cipher's cells: the keys of its rounds, Sub and Back. -/
def cph (K : List B) : Array Value := irow .u32 (wl (wos K 60)) ++ (irow .u8 (bl sbl) ++ irow .u8 (bl bkl))
def Cph (W : World) (g : Nat) (K : List B) : Prop := W.heap[g]? = some (.cells (cph K) 84 (0, 0))
theorem Cph.keep {w W : World} {g : Nat} {K : List B} (h : Cph w g K) (hb : Below w.heap.size w W) : Cph W g K := Go.Proofs.YtamieopjigjfiaaDoor.keep hb h
theorem Cph.sub {W : World} {g : Nat} {K : List B} (h : Cph W g K) (x : B) : W.cell? ⟨g, 60 + x.toNat, none⟩ = some (.int .u8 (bv (sb x))) := by
  have hx := x.isLt
  rw [cell_of_row W g _ _ _ (0, 0) h, cph, Array.getElem?_append_right (by rw [irow_size, wl_len, wos_len]; omega), Array.getElem?_append_left (by rw [irow_size, irow_size, wl_len, wos_len, bl_len, sbl_len]; omega), irow_size, wl_len, wos_len, show 60 + x.toNat - 60 = x.toNat by omega, irow_get _ _ _ (by rw [bl_len, sbl_len]; exact hx), bl_get, sbl_get]
theorem Cph.back {W : World} {g : Nat} {K : List B} (h : Cph W g K) (x : B) : W.cell? ⟨g, 316 + x.toNat, none⟩ = some (.int .u8 (bv (bk x))) := by
  have hx := x.isLt
  rw [cell_of_row W g _ _ _ (0, 0) h, cph, Array.getElem?_append_right (by rw [irow_size, wl_len, wos_len]; omega), Array.getElem?_append_right (by rw [irow_size, irow_size, wl_len, wos_len, bl_len, sbl_len]; omega), irow_size, wl_len, wos_len, irow_size, bl_len, sbl_len, show 316 + x.toNat - 60 - 256 = x.toNat by omega, irow_get _ _ _ (by rw [bl_len, bkl_len]; exact hx), bl_get, bkl_get]
/-- The words of the key of a round. -/
def kws (K : List B) (r : Nat) : List Wd := (List.range 4).map fun j => wo K (4 * r + j)
theorem kws_len (K : List B) (r : Nat) : (kws K r).length = 4 := by simp [kws]
theorem kws_get (K : List B) (r j : Nat) (h : j < 4) : (kws K r).getD j 0#32 = wo K (4 * r + j) := by
  simp [kws, List.getD_eq_getElem?_getD, h]
theorem cph_size (K : List B) : (cph K).size = 572 := by
  rw [cph, Array.size_append, Array.size_append, irow_size, irow_size, irow_size, wl_len, wos_len, bl_len, bl_len, sbl_len, bkl_len]
theorem cph_key (K : List B) (r : Nat) (hr : r < 15) : (cph K).extract (4 * r) (4 * r + (irow .u32 (wl (kws K r))).size) = irow .u32 (wl (kws K r)) := by
  apply Array.ext_getElem?
  intro j
  rw [irow_size, wl_len, kws_len]
  by_cases hj : j < 4
  · have hs := cph_size K
    have hlt : j < min (4 * r + 4) (cph K).size - 4 * r := by rw [hs]; omega
    rw [Array.getElem?_extract, if_pos hlt]
    clear hlt hs
    rw [cph, Array.getElem?_append_left (by rw [irow_size, wl_len, wos_len]; omega), irow_get _ _ _ (by rw [wl_len, wos_len]; omega), wl_get, wos_get _ _ _ (by omega), irow_get _ _ _ (by rw [wl_len, kws_len]; exact hj), wl_get, kws_get _ _ _ hj]
  · rw [Array.getElem?_eq_none (by rw [Array.size_extract]; omega), Array.getElem?_eq_none (by rw [irow_size, wl_len, kws_len]; omega)]
/-- Four words, the first k turned by f. -/
def up (f : Nat → Wd) (l : List B) (k : Nat) : List Wd := (List.range 4).map fun j => if j < k then f j else wo l j
theorem up_len (f : Nat → Wd) (l : List B) (k : Nat) : (up f l k).length = 4 := by simp [up]
theorem up_zero (f : Nat → Wd) (l : List B) : up f l 0 = wos l 4 := by
  apply List.map_congr_left
  intro j _
  rw [if_neg (by omega)]
theorem up_full (l m : List B) : up (wo m) l 4 = wos m 4 := by
  apply List.map_congr_left
  intro j hj
  rw [List.mem_range] at hj
  rw [if_pos hj]
theorem up_get (f : Nat → Wd) (l : List B) (k : Nat) (h : k < 4) : (up f l k).getD k 0#32 = wo l k := by
  simp [up, List.getD_eq_getElem?_getD, h]
theorem up_set (f : Nat → Wd) (l : List B) (k : Nat) (h : k < 4) : (up f l k).set k (f k) = up f l (k + 1) := by
  apply List.ext_getElem?
  intro j
  rw [List.getElem?_set]
  by_cases e : k = j
  · subst e
    rw [if_pos rfl, if_pos (by rw [up_len]; exact h)]
    simp [up, h]
  · rw [if_neg e]
    simp only [up, List.getElem?_map]
    by_cases hj : j < 4
    · simp only [List.getElem?_range hj, Option.map_some]
      by_cases h1 : j < k
      · rw [if_pos h1, if_pos (by omega)]
      · rw [if_neg h1, if_neg (by omega)]
    · rw [List.getElem?_eq_none (by simp; omega)]; rfl
theorem indexC (ws : List Wd) (hl : ws.length = 4) (j : Nat) (hj : j < 4) (W : World) : (Instr.index 81 (.agg (irow .u32 (wl ws))) (.int .i64 (j : Int))).run Tryd.prog W = .ok (.int .u32 (wv (ws.getD j 0#32))) W := by
  obtain ⟨i0, hi⟩ : ∃ i, Tryd.prog.info? 79 = some i := ⟨_, rfl⟩
  rw [← wl_get]
  exact index_row Tryd.underlying81 Tryd.underlying79 hi (fun W => by kernel_rfl) (wl ws) (by rw [wl_len, hl]) j hj W
/-! The steps, word by word. -/
theorem wo_xor (l m : List B) (k : Nat) (h : k < 4) : wo (xorL l m) k = wo l k ^^^ wo m k := by
  rw [wo, wo, wo, wd_xor, xorL_get _ _ (by omega), xorL_get _ _ (by omega), xorL_get _ _ (by omega), xorL_get _ _ (by omega)]
theorem wo_kr (K : List B) (r k : Nat) (h : k < 4) : wo (kr K r) k = wo K (4 * r + k) := by
  rw [wo, wo, kr, mk16_get _ (by omega), mk16_get _ (by omega), mk16_get _ (by omega), mk16_get _ (by omega), show 16 * r + 4 * k = 4 * (4 * r + k) by omega, show 16 * r + (4 * k + 1) = 4 * (4 * r + k) + 1 by omega, show 16 * r + (4 * k + 2) = 4 * (4 * r + k) + 2 by omega, show 16 * r + (4 * k + 3) = 4 * (4 * r + k) + 3 by omega]
theorem wo_sub (l : List B) (k : Nat) (h : k < 4) : wo (subL l) k = wd (sb (l.getD (4 * k) 0#8)) (sb (l.getD (4 * k + 1) 0#8)) (sb (l.getD (4 * k + 2) 0#8)) (sb (l.getD (4 * k + 3) 0#8)) := by
  rw [wo, subL_get _ (by omega), subL_get _ (by omega), subL_get _ (by omega), subL_get _ (by omega)]
theorem wo_unsub (l : List B) (k : Nat) (h : k < 4) : wo (unsubL l) k = wd (bk (l.getD (4 * k) 0#8)) (bk (l.getD (4 * k + 1) 0#8)) (bk (l.getD (4 * k + 2) 0#8)) (bk (l.getD (4 * k + 3) 0#8)) := by
  rw [wo, unsubL_get _ (by omega), unsubL_get _ (by omega), unsubL_get _ (by omega), unsubL_get _ (by omega)]
theorem wo_shift (l : List B) (k : Nat) (h : k < 4) : wo (shiftL l) k = wd (l.getD (4 * k) 0#8) (l.getD (4 * ((k + 1) % 4) + 1) 0#8) (l.getD (4 * ((k + 2) % 4) + 2) 0#8) (l.getD (4 * ((k + 3) % 4) + 3) 0#8) := by
  rw [wo, shiftL_get _ (by omega), shiftL_get _ (by omega), shiftL_get _ (by omega), shiftL_get _ (by omega)]
  congr 2 <;> omega
theorem wo_unshift (l : List B) (k : Nat) (h : k < 4) : wo (unshiftL l) k = wd (l.getD (4 * k) 0#8) (l.getD (4 * ((k + 3) % 4) + 1) 0#8) (l.getD (4 * ((k + 2) % 4) + 2) 0#8) (l.getD (4 * ((k + 1) % 4) + 3) 0#8) := by
  rw [wo, unshiftL_get _ (by omega), unshiftL_get _ (by omega), unshiftL_get _ (by omega), unshiftL_get _ (by omega)]
  congr 2 <;> omega
theorem wo_mix (l : List B) (k : Nat) (h : k < 4) (a b c d : B) (ha : a = l.getD (4 * k) 0#8) (hb : b = l.getD (4 * k + 1) 0#8) (hc : c = l.getD (4 * k + 2) 0#8) (hd : d = l.getD (4 * k + 3) 0#8) :
    wo (mixL l) k = wd (dbl (a ^^^ b)) (dbl (b ^^^ c)) (dbl (c ^^^ d)) (dbl (d ^^^ a)) ^^^ wd b c d a ^^^ wd c d a b ^^^ wd d a b c := by
  have q : ∀ r < 4, (mixL l).getD (4 * k + r) 0#8 = mg (mixL l) k r := fun r hr => by unfold mg; rw [Nat.mod_eq_of_lt hr]
  have m0 : ∀ r, mg l k (r + 4) = mg l k r := mg_add4 l k
  have e0 : mg l k 0 = a := by rw [ha]; rfl
  have e1 : mg l k 1 = b := by rw [hb]; rfl
  have e2 : mg l k 2 = c := by rw [hc]; rfl
  have e3 : mg l k 3 = d := by rw [hd]; rfl
  have e4 : mg l k 4 = a := (m0 0).trans e0
  have e5 : mg l k 5 = b := (m0 1).trans e1
  have e6 : mg l k 6 = c := (m0 2).trans e2
  rw [wo, show (mixL l).getD (4 * k) 0#8 = mg (mixL l) k 0 from q 0 (by omega), q 1 (by omega), q 2 (by omega), q 3 (by omega), mg_mix _ _ _ h, mg_mix _ _ _ h, mg_mix _ _ _ h, mg_mix _ _ _ h]
  simp only [Nat.zero_add, Nat.reduceAdd, e0, e1, e2, e3, e4, e5, e6, wd_xor, dbl_add _ _]

end Go.Proofs.YtamieopjigjfiaaDoor

