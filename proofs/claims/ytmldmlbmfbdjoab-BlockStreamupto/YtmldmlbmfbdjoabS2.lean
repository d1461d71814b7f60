import Derived.Test.YtmldmlbmfbdjoabProg
import Derived.WalkKit
import Derived.WalkSpells
import Derived.WalkLawsBesides
import Derived.Lib.QuietBelow
import Derived.BigQuiet
import Derived.Test.YtmldmlbmfbdjoabS0
import Derived.Test.YtmldmlbmfbdjoabS1
namespace Go.Proofs.Ytmldmlbmfbdjoab
open Go Go.RowKit Go.Sort
attribute [local go_sem] setCell_drewN alloc_drewN


/-! Lists turned place by place. -/
def pm (f g : Nat → B) (n k : Nat) : List B := (List.range n).map fun j => if j < k then f j else g j
theorem pm_len (f g : Nat → B) (n k : Nat) : (pm f g n k).length = n := by simp [pm]
theorem pm_get (f g : Nat → B) (n k : Nat) (h : k < n) : (pm f g n k).getD k 0#8 = g k := by
  simp [pm, List.getD_eq_getElem?_getD, h]
theorem pm_set (f g : Nat → B) (n k : Nat) (h : k < n) : (pm f g n k).set k (f k) = pm f g n (k + 1) := by
  apply List.ext_getElem?
  intro j
  rw [List.getElem?_set]
  by_cases e : k = j
  · subst e
    rw [if_pos rfl, if_pos (by rw [pm_len]; exact h)]
    simp [pm, h]
  · rw [if_neg e]
    simp only [pm, List.getElem?_map]
    by_cases hj : j < n
    · simp only [List.getElem?_range hj, Option.map_some]
      by_cases h1 : j < k
      · rw [if_pos h1, if_pos (by omega)]
      · rw [if_neg h1, if_neg (by omega)]
    · rw [List.getElem?_eq_none (by simp; omega)]; rfl
theorem pm_zero (f : Nat → B) (l : List B) (hl : l.length = 16) : pm f (gb l) 16 0 = l := by
  apply ext16 (pm_len _ _ _ _) hl
  intro i hi
  simp [pm, List.getD_eq_getElem?_getD, hi, gb]
theorem pm_full (m : List B) (g : Nat → B) (hm : m.length = 16) : pm (gb m) g 16 16 = m := by
  apply ext16 (pm_len _ _ _ _) hm
  intro i hi
  simp [pm, List.getD_eq_getElem?_getD, hi, gb]
theorem bR (cs : Array Value) (W : World) : (Instr.box 33 (.agg cs)).run Try.prog W = .ok (.pointer (some ⟨W.heap.size, 0, none⟩)) (W.alloc (.cells cs 33)) := by kernel_rfl
theorem zR (W : World) : (Instr.alloc 33 true (.tuple #[])).run Try.prog W = .ok (.pointer (some ⟨W.heap.size, 0, none⟩)) (W.alloc (.cells (irow .u8 (zr 16)) 33)) := by kernel_rfl
theorem b256 (cs : Array Value) (W : World) : (Instr.box 42 (.agg cs)).run Try.prog W = .ok (.pointer (some ⟨W.heap.size, 0, none⟩)) (W.alloc (.cells cs 42)) := by kernel_rfl
theorem infoR : (Try.prog.info? 33).map (·.size) = some 16 := by kernel_rfl

set_option maxRecDepth 100000 in
set_option maxHeartbeats 4000000 in
theorem r_xor (a b : List B) (ha : a.length = 16) (hb : b.length = 16) : Gives 27 #[.agg (irow .u8 (bl (a))), .agg (irow .u8 (bl (b)))] (.agg (irow .u8 (bl (xorL a b)))) := by
  intro w
  have R0 := hp3_0 w (.cells (irow .u8 (bl (pm (gb (xorL a b)) (gb a) 16 0))) 33) (.cells (irow .u8 (bl (b))) 33) (.cells (irow .u8 (zr 16)) 33)
  have R1 := hp3_1 w (.cells (irow .u8 (bl (pm (gb (xorL a b)) (gb a) 16 0))) 33) (.cells (irow .u8 (bl (b))) 33) (.cells (irow .u8 (zr 16)) 33)
  have R2 := hp3_2 w (.cells (irow .u8 (bl (pm (gb (xorL a b)) (gb a) 16 0))) 33) (.cells (irow .u8 (bl (b))) 33) (.cells (irow .u8 (zr 16)) 33)
  have hw : Below w.heap.size w (((w.alloc (.cells (irow .u8 (bl (pm (gb (xorL a b)) (gb a) 16 0))) 33)).alloc (.cells (irow .u8 (bl (b))) 33)).alloc (.cells (irow .u8 (zr 16)) 33)) := ((((Below.refl _ _).alloc (Nat.le_refl _) _).alloc (by simp) _).alloc (by simp; omega) _)

  rw [← pm_zero (gb (xorL a b)) a ha]
  go_enter Try.func27, Try.ntmps27
  go_wp2_with (first | (refine wpList_box rfl 33 _ rfl _ rfl (bR _) ?_) | (refine wpList_alloc rfl 33 rfl (irow .u8 (zr 16)) zR ?_) | fail)
  try simp only [size_alloc1, Act.put, List.setIfInBounds_toArray, List.set_cons_succ, List.set_cons_zero]
  generalize World.alloc _ _ = w0 at *
  rw [pm_zero (gb (xorL a b)) a ha]
  go_loopw [5] (fun i wr => ∃ k : Nat, k ≤ 16 ∧ i = .int .i64 k ∧ wr.heap[w.heap.size]? = some (.cells (irow .u8 (bl (pm (gb (xorL a b)) (gb a) 16 k))) 33 (0, 0)) ∧ wr.heap[w.heap.size + 1]? = some (.cells (irow .u8 (bl (b))) 33 (0, 0)) ∧ wr.heap[w.heap.size + 1 + 1]? = some (.cells (irow .u8 (zr 16)) 33 (0, 0)) ∧ Below w.heap.size w wr) (fun i _ => 16 - (intOf i).toNat)
  case atStart => exact ⟨0, by omega, rfl, R0, R1, R2, hw⟩
  case round =>
    clear R0 R1 R2 hw
    obtain ⟨k, hk, rfl, r0, r1, r2, hw⟩ := hrel
    by_cases hlt : k < 16
    · have hd : decide ((k : Int) < 16) = true := by simp; omega
      have c0 := brow_cell r0 (j := k) (by rw [pm_len]; omega)
      rw [pm_get _ _ _ _ hlt] at c0
      have c1 := brow_cell r1 (j := k) (by omega)
      rw [show b.getD k 0#8 = gb b k from rfl] at c1
      have hx := xor8 (gb a k) (gb b k)
      have hset := hide (pm_set (gb (xorL a b)) (gb a) 16 k hlt)
      rw [show gb (xorL a b) k = gb a k ^^^ gb b k from xorL_get a b hlt] at hset
      generalize gb a k = x0 at *
      generalize gb b k = x1 at *
      go_wp2_with (fail)
      have k0 : ∀ p : Regrown, (grow (redrawn wr p.d) p.os).cell? ⟨w.heap.size, k, none⟩ = some (.int .u8 (bv x0)) := fun p => cell_regrown (c0) p.d p.os
      have k1 : ∀ p : Regrown, (grow (redrawn wr p.d) p.os).cell? ⟨w.heap.size + 1, k, none⟩ = some (.int .u8 (bv x1)) := fun p => cell_regrown (c1) p.d p.os
      refine wp_region_tail (C := fun w' => ∃ p : Regrown, w' = grow (redrawn wr p.d) p.os) 9 _ rfl rfl rfl (by kernel_rfl) (by kernel_rfl) (by kernel_rfl) (by kernel_rfl) ⟨⟨wr.drawn + 1, #[]⟩, by rw [grow_empty]; rfl⟩ ?_
      dsimp only [List.set, idle]
      go_big_quiet_step (fail)
      go_big_quiet_step (fail)
      go_big_quiet_step (fail)
      go_big_quiet_step (fail)
      go_big_quiet_step (fail)
      go_big_quiet_step (fail)
      go_big_quiet_step (fail)
      go_big_quiet_step (fail)
      go_big_quiet_step (fail)
      refine wpQuiet_idle rfl rfl rfl ?_
      rintro _ ⟨p, rfl⟩
      have hb := below_regrown wr p.d p.os
      generalize grow (redrawn wr p.d) p.os = w1 at *
      clear k0 k1
      replace r0 := keep hb r0
      replace r1 := keep hb r1
      replace r2 := keep hb r2
      replace hw := Below.after hw hb
      clear hb

      have cw := brow_cell r0 (j := k) (by rw [pm_len]; omega)
      have hf := row_frozen r0 k
      clear c0 c1
      go_wp2
      refine ⟨⟨k + 1, by omega, by go_num, by rw [← hset.out]; exact brow_set r0 k _, heap_other r1 (by omega), heap_other r2 (by omega), hw.setCell (Nat.le_refl _) _⟩, by simp [intOf]; omega⟩
    · obtain rfl : k = 16 := by omega
      have hd : decide ((16 : Int) < 16) = false := by decide
      rw [pm_full _ _ (xorL_len _ _)] at r0
      clear hk hlt
      have hi9 := info_bl infoR (xorL a b) (xorL_len _ _)
      have hfi : (irow .u8 (zr 16)).size = (irow .u8 (bl (xorL a b))).size := by rw [irow_size, irow_size, bl_len, xorL_len, zr_len]
      go_wp2_with (first | (refine wpList_load_want rfl 33 _ rfl (w.heap.size) rfl 33 (irow .u8 (bl (xorL a b))) (0, 0) _ r0 Try.underlying33 rfl hi9 ?_) | (refine wpList_store_row rfl 33 _ _ rfl (w.heap.size + 1 + 1) (irow .u8 (bl (xorL a b))) rfl rfl 33 _ r2 hi9 hfi (irow_one _ _) ?_) | fail)
      replace r2 := setRow_heap wr (w.heap.size + 1 + 1) _ (irow .u8 (bl (xorL a b))) _ _ r2
      replace hw := below_setRow hw (show w.heap.size ≤ w.heap.size + 1 + 1 by omega) (irow .u8 (bl (xorL a b)))
      generalize wr.setRow (w.heap.size + 1 + 1) (irow .u8 (bl (xorL a b))) = w9 at *
      exact bodyPost_ret (v := .agg (irow .u8 (bl (xorL a b)))) (results_cell_row Try.results27 _ _ (w.heap.size + 1 + 1) _ _ _ _ rfl r2 Try.underlying33 rfl hi9) rfl ⟨rfl, hw⟩


set_option maxRecDepth 100000 in
set_option maxHeartbeats 4000000 in
theorem r_subShift (l : List B) (hl : l.length = 16) : Gives 29 #[.agg (irow .u8 (bl (sbl))), .agg (irow .u8 (bl (l)))] (.agg (irow .u8 (bl (shiftL (subL l))))) := by
  intro w
  have hz : ∀ W : World, (Instr.alloc 33 true (.tuple #[])).run Try.prog W = .ok (.pointer (some ⟨W.heap.size, 0, none⟩)) (W.alloc (.cells (irow .u8 (bl (pt (gb (shiftL (subL l))) 16 (0)))) 33)) := by rw [← zr_pt]; exact zR
  have R0 := hp4_0 w (.cells (irow .u8 (bl (sbl))) 42) (.cells (irow .u8 (bl (l))) 33) (.cells (irow .u8 (bl (pt (gb (shiftL (subL l))) 16 0))) 33) (.cells (irow .u8 (bl (pt (gb (shiftL (subL l))) 16 0))) 33)
  have R1 := hp4_1 w (.cells (irow .u8 (bl (sbl))) 42) (.cells (irow .u8 (bl (l))) 33) (.cells (irow .u8 (bl (pt (gb (shiftL (subL l))) 16 0))) 33) (.cells (irow .u8 (bl (pt (gb (shiftL (subL l))) 16 0))) 33)
  have R2 := hp4_2 w (.cells (irow .u8 (bl (sbl))) 42) (.cells (irow .u8 (bl (l))) 33) (.cells (irow .u8 (bl (pt (gb (shiftL (subL l))) 16 0))) 33) (.cells (irow .u8 (bl (pt (gb (shiftL (subL l))) 16 0))) 33)
  have R3 := hp4_3 w (.cells (irow .u8 (bl (sbl))) 42) (.cells (irow .u8 (bl (l))) 33) (.cells (irow .u8 (bl (pt (gb (shiftL (subL l))) 16 0))) 33) (.cells (irow .u8 (bl (pt (gb (shiftL (subL l))) 16 0))) 33)
  have hw : Below w.heap.size w ((((w.alloc (.cells (irow .u8 (bl (sbl))) 42)).alloc (.cells (irow .u8 (bl (l))) 33)).alloc (.cells (irow .u8 (bl (pt (gb (shiftL (subL l))) 16 0))) 33)).alloc (.cells (irow .u8 (bl (pt (gb (shiftL (subL l))) 16 0))) 33)) := (((((Below.refl _ _).alloc (Nat.le_refl _) _).alloc (by simp) _).alloc (by simp; omega) _).alloc (by simp; omega) _)

  go_enter Try.func29, Try.ntmps29
  go_wp2_with (first | (refine wpList_box rfl 42 _ rfl _ rfl (b256 _) ?_) | (refine wpList_box rfl 33 _ rfl _ rfl (bR _) ?_) | (refine wpList_alloc rfl 33 rfl (irow .u8 (bl (pt (gb (shiftL (subL l))) 16 (0)))) hz ?_) | fail)
  try simp only [size_alloc1, Act.put, List.setIfInBounds_toArray, List.set_cons_succ, List.set_cons_zero]
  clear hz
  generalize World.alloc _ _ = w0 at *
  go_loopw [6] (fun i wr => ∃ c : Nat, c ≤ 4 ∧ i = .int .i64 c ∧ wr.heap[w.heap.size]? = some (.cells (irow .u8 (bl (sbl))) 42 (0, 0)) ∧ wr.heap[w.heap.size + 1]? = some (.cells (irow .u8 (bl (l))) 33 (0, 0)) ∧ wr.heap[w.heap.size + 1 + 1]? = some (.cells (irow .u8 (bl (pt (gb (shiftL (subL l))) 16 (0)))) 33 (0, 0)) ∧ wr.heap[w.heap.size + 1 + 1 + 1]? = some (.cells (irow .u8 (bl (pt (gb (shiftL (subL l))) 16 (4 * c)))) 33 (0, 0)) ∧ Below w.heap.size w wr) (fun i _ => 4 - (intOf i).toNat)
  case atStart => exact ⟨0, by omega, rfl, R0, R1, R2, R3, hw⟩
  case round =>
    clear R0 R1 R2 R3 hw
    obtain ⟨c, hc, rfl, r0, r1, r2, r3, hw⟩ := hrel
    by_cases hlc : c < 4
    · have hd : decide ((c : Int) < 4) = true := by simp; omega
      go_wp2_with (fail)
      go_loopw [7] (fun i wr => ∃ k : Nat, k ≤ 4 ∧ i = .int .i64 k ∧ wr.heap[w.heap.size]? = some (.cells (irow .u8 (bl (sbl))) 42 (0, 0)) ∧ wr.heap[w.heap.size + 1]? = some (.cells (irow .u8 (bl (l))) 33 (0, 0)) ∧ wr.heap[w.heap.size + 1 + 1]? = some (.cells (irow .u8 (bl (pt (gb (shiftL (subL l))) 16 (0)))) 33 (0, 0)) ∧ wr.heap[w.heap.size + 1 + 1 + 1]? = some (.cells (irow .u8 (bl (pt (gb (shiftL (subL l))) 16 (4 * c + k)))) 33 (0, 0)) ∧ Below w.heap.size w wr) (fun i _ => 4 - (intOf i).toNat)
      case atStart => exact ⟨0, by omega, rfl, r0, r1, r2, r3, hw⟩
      case round =>
        clear r0 r1 r2 r3 hw
        obtain ⟨k, hk, rfl, r0, r1, r2, r3, hw⟩ := hrel
        by_cases hlt : k < 4
        · have hd : decide ((k : Int) < 4) = true := by simp; omega
          have hr : ((c : Int) + (k : Int)).tmod 4 = (((c + k) % 4 : Nat) : Int) := by rw [Int.tmod_eq_emod_of_nonneg (by omega)]; rfl
          have c1 := brow_cell r1 (j := k + 4 * ((c + k) % 4)) (by omega)
          have hfv : gb (shiftL (subL l)) (4 * c + k) = sb (l.getD (k + 4 * ((c + k) % 4)) 0#8) := by
            rw [gb, shiftL_get _ (by omega), subL_get _ (by omega), show (4 * c + k) % 4 = k by omega, show (4 * c + k) / 4 = c by omega]
          have c2 := brow_cell r0 (j := (l.getD (k + 4 * ((c + k) % 4)) 0#8).toNat) (by rw [sbl_len]; exact (l.getD (k + 4 * ((c + k) % 4)) 0#8).isLt)
          rw [sbl_get, ← hfv] at c2
          have hset := hide (pt_set (gb (shiftL (subL l))) 16 (4 * c + k) (by omega))
          have n1 := bv_nat (l.getD (k + 4 * ((c + k) % 4)) 0#8)
          have b1 := bnd (l.getD (k + 4 * ((c + k) % 4)) 0#8)
          clear hfv
          generalize l.getD (k + 4 * ((c + k) % 4)) 0#8 = x1 at *
          generalize gb (shiftL (subL l)) (4 * c + k) = x2 at *
          have cw := brow_cell r3 (j := 4 * c + k) (by rw [pt_len]; omega)
          have hf := row_frozen r3 (4 * c + k)
          have hcm : k + 4 * c = 4 * c + k := by omega
          go_wp2
          refine ⟨⟨k + 1, by omega, by go_num, heap_other r0 (by omega), heap_other r1 (by omega), heap_other r2 (by omega), by rw [← Nat.add_assoc, ← hset.out]; exact brow_set r3 (4 * c + k) x2, hw.setCell (show w.heap.size ≤ w.heap.size + 1 + 1 + 1 by omega) _⟩, by simp [intOf]; omega⟩
        · obtain rfl : k = 4 := by omega
          have hd : decide ((4 : Int) < 4) = false := by decide
          go_wp2
          refine ⟨⟨c + 1, by omega, by go_num, r0, r1, r2, r3, hw⟩, by simp [intOf]; omega⟩
    · obtain rfl : c = 4 := by omega
      have hd : decide ((4 : Int) < 4) = false := by decide
      rw [show pt (gb (shiftL (subL l))) 16 (4 * 4) = shiftL (subL l) from pt_self _ (shiftL_len _)] at r3
      clear hc hlc
      have hi9 := info_bl infoR (shiftL (subL l)) (shiftL_len _)
      have hfi : (irow .u8 (bl (pt (gb (shiftL (subL l))) 16 (0)))).size = (irow .u8 (bl (shiftL (subL l)))).size := by rw [irow_size, irow_size, bl_len, bl_len, shiftL_len, pt_len]
      go_wp2_with (first | (refine wpList_load_want rfl 33 _ rfl (w.heap.size + 1 + 1 + 1) rfl 33 (irow .u8 (bl (shiftL (subL l)))) (0, 0) _ r3 Try.underlying33 rfl hi9 ?_) | (refine wpList_store_row rfl 33 _ _ rfl (w.heap.size + 1 + 1) (irow .u8 (bl (shiftL (subL l)))) rfl rfl 33 _ r2 hi9 hfi (irow_one _ _) ?_) | fail)
      replace r2 := setRow_heap wr (w.heap.size + 1 + 1) _ (irow .u8 (bl (shiftL (subL l)))) _ _ r2
      replace hw := below_setRow hw (show w.heap.size ≤ w.heap.size + 1 + 1 by omega) (irow .u8 (bl (shiftL (subL l))))
      generalize wr.setRow (w.heap.size + 1 + 1) (irow .u8 (bl (shiftL (subL l)))) = w9 at *
      exact bodyPost_ret (v := .agg (irow .u8 (bl (shiftL (subL l))))) (results_cell_row Try.results29 _ _ (w.heap.size + 1 + 1) _ _ _ _ rfl r2 Try.underlying33 rfl hi9) rfl ⟨rfl, hw⟩


set_option maxRecDepth 100000 in
set_option maxHeartbeats 4000000 in
theorem r_mix (l : List B) (hl : l.length = 16) : Gives 28 #[.agg (irow .u8 (bl (l)))] (.agg (irow .u8 (bl (mixL l)))) := by
  intro w
  have hz : ∀ W : World, (Instr.alloc 33 true (.tuple #[])).run Try.prog W = .ok (.pointer (some ⟨W.heap.size, 0, none⟩)) (W.alloc (.cells (irow .u8 (bl (pt (gb (mixL l)) 16 (0)))) 33)) := by rw [← zr_pt]; exact zR
  have R0 := hp3_0 w (.cells (irow .u8 (bl (l))) 33) (.cells (irow .u8 (bl (pt (gb (mixL l)) 16 (0)))) 33) (.cells (irow .u8 (bl (pt (gb (mixL l)) 16 (0)))) 33)
  have R1 := hp3_1 w (.cells (irow .u8 (bl (l))) 33) (.cells (irow .u8 (bl (pt (gb (mixL l)) 16 (0)))) 33) (.cells (irow .u8 (bl (pt (gb (mixL l)) 16 (0)))) 33)
  have R2 := hp3_2 w (.cells (irow .u8 (bl (l))) 33) (.cells (irow .u8 (bl (pt (gb (mixL l)) 16 (0)))) 33) (.cells (irow .u8 (bl (pt (gb (mixL l)) 16 (0)))) 33)
  have hw : Below w.heap.size w (((w.alloc (.cells (irow .u8 (bl (l))) 33)).alloc (.cells (irow .u8 (bl (pt (gb (mixL l)) 16 (0)))) 33)).alloc (.cells (irow .u8 (bl (pt (gb (mixL l)) 16 (0)))) 33)) := ((((Below.refl _ _).alloc (Nat.le_refl _) _).alloc (by simp) _).alloc (by simp; omega) _)

  go_enter Try.func28, Try.ntmps28
  go_wp2_with (first | (refine wpList_box rfl 33 _ rfl _ rfl (bR _) ?_) | (refine wpList_alloc rfl 33 rfl (irow .u8 (bl (pt (gb (mixL l)) 16 (0)))) hz ?_) | fail)
  try simp only [size_alloc1, Act.put, List.setIfInBounds_toArray, List.set_cons_succ, List.set_cons_zero]
  clear hz
  generalize World.alloc _ _ = w0 at *
  go_loopw [4] (fun i wr => ∃ c : Nat, c ≤ 4 ∧ i = .int .i64 c ∧ wr.heap[w.heap.size]? = some (.cells (irow .u8 (bl (l))) 33 (0, 0)) ∧ wr.heap[w.heap.size + 1]? = some (.cells (irow .u8 (bl (pt (gb (mixL l)) 16 (0)))) 33 (0, 0)) ∧ wr.heap[w.heap.size + 1 + 1]? = some (.cells (irow .u8 (bl (pt (gb (mixL l)) 16 (4 * c)))) 33 (0, 0)) ∧ Below w.heap.size w wr) (fun i _ => 4 - (intOf i).toNat)
  case atStart => exact ⟨0, by omega, rfl, R0, R1, R2, hw⟩
  case round =>
    clear R0 R1 R2 hw
    obtain ⟨c, hc, rfl, r0, r1, r2, hw⟩ := hrel
    by_cases hlc : c < 4
    · have hd : decide ((c : Int) < 4) = true := by simp; omega
      go_wp2_with (fail)
      go_loopw [5] (fun i wr => ∃ k : Nat, k ≤ 4 ∧ i = .int .i64 k ∧ wr.heap[w.heap.size]? = some (.cells (irow .u8 (bl (l))) 33 (0, 0)) ∧ wr.heap[w.heap.size + 1]? = some (.cells (irow .u8 (bl (pt (gb (mixL l)) 16 (0)))) 33 (0, 0)) ∧ wr.heap[w.heap.size + 1 + 1]? = some (.cells (irow .u8 (bl (pt (gb (mixL l)) 16 (4 * c + k)))) 33 (0, 0)) ∧ Below w.heap.size w wr) (fun i _ => 4 - (intOf i).toNat)
      case atStart => exact ⟨0, by omega, rfl, r0, r1, r2, hw⟩
      case round =>
        clear r0 r1 r2 hw
        obtain ⟨k, hk, rfl, r0, r1, r2, hw⟩ := hrel
        by_cases hlt : k < 4
        · have hd : decide ((k : Int) < 4) = true := by simp; omega
          have hr1 : ((k : Int) + 1).tmod 4 = (((k + 1) % 4 : Nat) : Int) := by rw [Int.tmod_eq_emod_of_nonneg (by omega)]; rfl
          have hr2 : ((k : Int) + 2).tmod 4 = (((k + 2) % 4 : Nat) : Int) := by rw [Int.tmod_eq_emod_of_nonneg (by omega)]; rfl
          have hr3 : ((k : Int) + 3).tmod 4 = (((k + 3) % 4 : Nat) : Int) := by rw [Int.tmod_eq_emod_of_nonneg (by omega)]; rfl
          have hfv : gb (mixL l) (4 * c + k) = dbl (l.getD (4 * c + k) 0#8) ^^^ dbl (l.getD (4 * c + (k + 1) % 4) 0#8) ^^^ l.getD (4 * c + (k + 1) % 4) 0#8 ^^^ l.getD (4 * c + (k + 2) % 4) 0#8 ^^^ l.getD (4 * c + (k + 3) % 4) 0#8 := by
            have h1 : gb (mixL l) (4 * c + k) = mg (mixL l) c k := by unfold gb mg; rw [Nat.mod_eq_of_lt hlt]
            rw [h1, mg_mix _ _ _ hlc]
            unfold mg
            rw [Nat.mod_eq_of_lt hlt]
          have q0 := brow_cell r0 (j := 4 * c + k) (by omega)
          have q1 := brow_cell r0 (j := 4 * c + (k + 1) % 4) (by omega)
          have q2 := brow_cell r0 (j := 4 * c + (k + 2) % 4) (by omega)
          have q3 := brow_cell r0 (j := 4 * c + (k + 3) % 4) (by omega)
          have hset := hide (pt_set (gb (mixL l)) 16 (4 * c + k) (by omega))
          rw [hfv] at hset
          clear hfv
          have hq2 : Hid (∀ W : World, W.heap[w.heap.size]? = some (.cells (irow .u8 (bl (l))) 33 (0, 0)) → W.cell? ⟨w.heap.size, 4 * c + (k + 2) % 4, none⟩ = some (.int .u8 (bv (l.getD (4 * c + (k + 2) % 4) 0#8)))) := hide (fun W h => brow_cell h (by omega))
          have hq3 : Hid (∀ W : World, W.heap[w.heap.size]? = some (.cells (irow .u8 (bl (l))) 33 (0, 0)) → W.cell? ⟨w.heap.size, 4 * c + (k + 3) % 4, none⟩ = some (.int .u8 (bv (l.getD (4 * c + (k + 3) % 4) 0#8)))) := hide (fun W h => brow_cell h (by omega))
          generalize l.getD (4 * c + k) 0#8 = x0 at *
          generalize l.getD (4 * c + (k + 1) % 4) 0#8 = x1 at *
          generalize l.getD (4 * c + (k + 2) % 4) 0#8 = x2 at *
          generalize l.getD (4 * c + (k + 3) % 4) 0#8 = x3 at *
          have d0 := r_double x0
          have d1 := r_double x1
          have e1 := xor8 (dbl x0) (dbl x1)
          have e2 := xor8 (dbl x0 ^^^ dbl x1) x1
          have e3 := xor8 (dbl x0 ^^^ dbl x1 ^^^ x1) x2
          have e4 := xor8 (dbl x0 ^^^ dbl x1 ^^^ x1 ^^^ x2) x3
          generalize dbl x0 ^^^ dbl x1 ^^^ x1 ^^^ x2 ^^^ x3 = y4 at *
          generalize dbl x0 ^^^ dbl x1 ^^^ x1 ^^^ x2 = y3 at *
          generalize dbl x0 ^^^ dbl x1 ^^^ x1 = y2 at *
          generalize dbl x0 ^^^ dbl x1 = y1 at *
          go_wp2_with (fail)
          have k0 : ∀ p : Regrown, (grow (redrawn wr p.d) p.os).cell? ⟨w.heap.size, 4 * c + k, none⟩ = some (.int .u8 (bv x0)) := fun p => cell_regrown (q0) p.d p.os
          have k1 : ∀ p : Regrown, (grow (redrawn wr p.d) p.os).cell? ⟨w.heap.size, 4 * c + (k + 1) % 4, none⟩ = some (.int .u8 (bv x1)) := fun p => cell_regrown (q1) p.d p.os
          refine wp_region_quiet_below (by kernel_rfl) (by kernel_rfl) ?_
          go_big_quiet_step (fail)
          go_big_quiet_step (fail)
          go_big_quiet_step (fail)
          go_big_quiet_step (fail)
          go_big_quiet_step (fail)
          go_big_quiet_step (fail)
          go_big_quiet_step (fail)
          go_big_quiet_step (fail)
          go_big_quiet_step (fail)
          go_big_quiet_step (fail)
          go_big_quiet_step (fail)
          go_big_quiet_step (fail)
          go_big_quiet_step (fail)
          go_big_quiet_step (fail)
          go_big_quiet_step (fail)
          go_big_quiet_step (fail)
          refine wpQuiet_nil ?_
          rintro _ ⟨p, rfl⟩
          have hb := below_regrown wr p.d p.os
          generalize grow (redrawn wr p.d) p.os = w1 at *
          clear k0 k1
          replace r0 := keep hb r0
          replace r1 := keep hb r1
          replace r2 := keep hb r2
          replace hw := Below.after hw hb
          clear hb

          have q4 : w1.cell? ⟨w.heap.size, 4 * c + (k + 2) % 4, none⟩ = some (.int .u8 (bv x2)) := hq2.out w1 r0
          have q5 : w1.cell? ⟨w.heap.size, 4 * c + (k + 3) % 4, none⟩ = some (.int .u8 (bv x3)) := hq3.out w1 r0
          clear q0 q1 q2 q3
          go_wp2_with (fail)
          have k2 : ∀ p : Regrown, (grow (redrawn w1 p.d) p.os).cell? ⟨w.heap.size, 4 * c + (k + 2) % 4, none⟩ = some (.int .u8 (bv x2)) := fun p => cell_regrown (q4) p.d p.os
          have k3 : ∀ p : Regrown, (grow (redrawn w1 p.d) p.os).cell? ⟨w.heap.size, 4 * c + (k + 3) % 4, none⟩ = some (.int .u8 (bv x3)) := fun p => cell_regrown (q5) p.d p.os
          refine wp_region_tail (C := fun w' => ∃ p : Regrown, w' = grow (redrawn w1 p.d) p.os) 30 _ rfl rfl rfl (by kernel_rfl) (by kernel_rfl) (by kernel_rfl) (by kernel_rfl) ⟨⟨w1.drawn + 1, #[]⟩, by rw [grow_empty]; rfl⟩ ?_
          dsimp only [List.set, idle]
          go_big_quiet_step (fail)
          go_big_quiet_step (fail)
          go_big_quiet_step (fail)
          go_big_quiet_step (fail)
          go_big_quiet_step (fail)
          go_big_quiet_step (exact d0.re)
          go_big_quiet_step (fail)
          go_big_quiet_step (exact d1.re)
          go_big_quiet_step (fail)
          go_big_quiet_step (fail)
          go_big_quiet_step (fail)
          go_big_quiet_step (fail)
          go_big_quiet_step (fail)
          go_big_quiet_step (fail)
          go_big_quiet_step (fail)
          go_big_quiet_step (fail)
          go_big_quiet_step (fail)
          go_big_quiet_step (fail)
          go_big_quiet_step (fail)
          go_big_quiet_step (fail)
          go_big_quiet_step (fail)
          go_big_quiet_step (fail)
          go_big_quiet_step (fail)
          go_big_quiet_step (fail)
          go_big_quiet_step (fail)
          go_big_quiet_step (fail)
          go_big_quiet_step (fail)
          go_big_quiet_step (fail)
          go_big_quiet_step (fail)
          go_big_quiet_step (fail)
          refine wpQuiet_idle rfl rfl rfl ?_
          rintro _ ⟨p, rfl⟩
          have hb := below_regrown w1 p.d p.os
          generalize grow (redrawn w1 p.d) p.os = w2 at *
          clear k2 k3
          replace r0 := keep hb r0
          replace r1 := keep hb r1
          replace r2 := keep hb r2
          replace hw := Below.after hw hb
          clear hb

          have cw := brow_cell r2 (j := 4 * c + k) (by rw [pt_len]; omega)
          have hf := row_frozen r2 (4 * c + k)
          clear q4 q5 hq2 hq3
          go_wp2
          refine ⟨⟨k + 1, by omega, by go_num, heap_other r0 (by omega), heap_other r1 (by omega), by rw [← Nat.add_assoc, ← hset.out]; exact brow_set r2 (4 * c + k) _, hw.setCell (show w.heap.size ≤ w.heap.size + 1 + 1 by omega) _⟩, by simp [intOf]; omega⟩
        · obtain rfl : k = 4 := by omega
          have hd : decide ((4 : Int) < 4) = false := by decide
          go_wp2
          refine ⟨⟨c + 1, by omega, by go_num, r0, r1, r2, hw⟩, by simp [intOf]; omega⟩
    · obtain rfl : c = 4 := by omega
      have hd : decide ((4 : Int) < 4) = false := by decide
      rw [show pt (gb (mixL l)) 16 (4 * 4) = mixL l from pt_self _ (mix_len _)] at r2
      clear hc hlc
      have hi9 := info_bl infoR (mixL l) (mix_len _)
      have hfi : (irow .u8 (bl (pt (gb (mixL l)) 16 (0)))).size = (irow .u8 (bl (mixL l))).size := by rw [irow_size, irow_size, bl_len, bl_len, mix_len, pt_len]
      go_wp2_with (first | (refine wpList_load_want rfl 33 _ rfl (w.heap.size + 1 + 1) rfl 33 (irow .u8 (bl (mixL l))) (0, 0) _ r2 Try.underlying33 rfl hi9 ?_) | (refine wpList_store_row rfl 33 _ _ rfl (w.heap.size + 1) (irow .u8 (bl (mixL l))) rfl rfl 33 _ r1 hi9 hfi (irow_one _ _) ?_) | fail)
      replace r1 := setRow_heap wr (w.heap.size + 1) _ (irow .u8 (bl (mixL l))) _ _ r1
      replace hw := below_setRow hw (show w.heap.size ≤ w.heap.size + 1 by omega) (irow .u8 (bl (mixL l)))
      generalize wr.setRow (w.heap.size + 1) (irow .u8 (bl (mixL l))) = w9 at *
      exact bodyPost_ret (v := .agg (irow .u8 (bl (mixL l)))) (results_cell_row Try.results28 _ _ (w.heap.size + 1) _ _ _ _ rfl r1 Try.underlying33 rfl hi9) rfl ⟨rfl, hw⟩


end Go.Proofs.Ytmldmlbmfbdjoab


namespace Go.Proofs.Ytmldmlbmfbdjoab
open Go Go.RowKit Go.Sort
attribute [local go_sem] setCell_drewN alloc_drewN


/-- The last k bytes counted on. -/
def cpt (l : List B) (n k : Nat) : List B := mk16 fun i => if 16 ≤ i + k then ctb l n i else gb l i
theorem cpt_len (l : List B) (n k : Nat) : (cpt l n k).length = 16 := mk16_len _
theorem cpt_zero (l : List B) (n : Nat) (hl : l.length = 16) : cpt l n 0 = l := by
  apply ext16 (cpt_len _ _ _) hl
  intro i hi
  rw [cpt, mk16_get _ hi, if_neg (by omega)]; rfl
theorem cpt_full (l : List B) (n : Nat) : cpt l n 16 = ctr l n := by
  apply ext16 (cpt_len _ _ _) (ctr_len _ _)
  intro i hi
  rw [cpt, mk16_get _ hi, if_pos (by omega), ctr, mk16_get _ hi]
theorem cpt_get (l : List B) (n k : Nat) (h : k < 16) : (cpt l n k).getD (15 - k) 0#8 = gb l (15 - k) := by
  rw [cpt, mk16_get _ (by omega), if_neg (by omega)]
theorem cpt_set (l : List B) (n k : Nat) (h : k < 16) : (cpt l n k).set (15 - k) (ctb l n (15 - k)) = cpt l n (k + 1) := by
  apply ext16 (by rw [List.length_set, cpt_len]) (cpt_len _ _ _)
  intro i hi
  rw [List.getD_eq_getElem?_getD, List.getElem?_set]
  by_cases e : 15 - k = i
  · rw [if_pos e, if_pos (by rw [cpt_len]; omega), cpt, mk16_get _ hi, if_pos (by omega), e]; rfl
  · rw [if_neg e, ← List.getD_eq_getElem?_getD, cpt, mk16_get _ hi, cpt, mk16_get _ hi]
    by_cases g : 16 ≤ i + k
    · rw [if_pos g, if_pos (by omega)]
    · rw [if_neg g, if_neg (by omega)]
theorem cr_stay (l : List B) (n k : Nat) (h : cr l n k = 0) : ∀ j, cr l n (k + j) = 0 := by
  intro j
  induction j with
  | zero => exact h
  | succ j ih =>
    rw [← Nat.add_assoc, cr, ih]
    have := (gb l (15 - (k + j))).isLt
    omega
/-- Where nothing is carried any more the other bytes stay. -/
theorem cpt_done (l : List B) (n k : Nat) (h : cr l n k = 0) (_hk : k ≤ 16) : cpt l n k = ctr l n := by
  apply ext16 (cpt_len _ _ _) (ctr_len _ _)
  intro i hi
  rw [cpt, mk16_get _ hi, ctr, mk16_get _ hi]
  by_cases g : 16 ≤ i + k
  · rw [if_pos g]
  · rw [if_neg g, ctb]
    have := cr_stay l n k h (15 - i - k)
    rw [show k + (15 - i - k) = 15 - i by omega] at this
    rw [this, Nat.zero_add, BitVec.ofNat_toNat, BitVec.setWidth_eq]
theorem cr_lt (l : List B) (n : Nat) (hn : n < 1152921504606846976) (k : Nat) : cr l n k < 1152921504606846976 := by
  induction k with
  | zero => exact hn
  | succ k ih =>
    rw [cr]
    have := (gb l (15 - k)).isLt
    omega
theorem bv_ctb (l : List B) (n k : Nat) (_hk : k < 16) : ((cr l n k : Int) + bv (gb l (15 - k))) % 256 = bv (ctb l n (15 - k)) := by
  unfold bv ctb
  rw [BitVec.toNat_ofNat, show 15 - (15 - k) = k by omega]
  omega
theorem bv_crn (l : List B) (n k : Nat) : ((cr l n k : Int) + bv (gb l (15 - k))) / 256 = ((cr l n (k + 1) : Nat) : Int) := by
  unfold bv
  rw [cr]
  omega

set_option maxRecDepth 100000 in
set_option maxHeartbeats 4000000 in
theorem a_further (l : List B) (hl : l.length = 16) (n : Nat) (hn : n < 1152921504606846976) : Gives 11 #[.agg (irow .u8 (bl (l))), .int .u64 (n : Int)] (.agg (irow .u8 (bl (ctr l n)))) := by
  intro w
  have R0 := hp2_0 w (.cells (irow .u8 (bl (l))) 37) (.cells (irow .u8 (zr 16)) 37)
  have R1 := hp2_1 w (.cells (irow .u8 (bl (l))) 37) (.cells (irow .u8 (zr 16)) 37)
  have hw : Below w.heap.size w ((w.alloc (.cells (irow .u8 (bl (l))) 37)).alloc (.cells (irow .u8 (zr 16)) 37)) := (((Below.refl _ _).alloc (Nat.le_refl _) _).alloc (by simp) _)

  go_enter Try.func11, Try.ntmps11
  go_wp2_with (first | (refine wpList_box rfl 37 _ rfl _ rfl (bBl _) ?_) | (refine wpList_alloc rfl 37 rfl (irow .u8 (zr 16)) zBl ?_) | fail)
  try simp only [size_alloc1, Act.put, List.setIfInBounds_toArray, List.set_cons_succ, List.set_cons_zero]
  generalize World.alloc _ _ = w0 at *
  go_loopw [1, 5] (fun m i wr => ∃ k : Nat, k ≤ 16 ∧ i = .int .i64 (15 - (k : Int)) ∧ m = .int .u64 ((cr l n k : Nat) : Int) ∧ wr.heap[w.heap.size]? = some (.cells (irow .u8 (bl (cpt l n k))) 37 (0, 0)) ∧ wr.heap[w.heap.size + 1]? = some (.cells (irow .u8 (zr 16)) 37 (0, 0)) ∧ Below w.heap.size w wr) (fun _ i _ => (intOf i + 1).toNat)
  case atStart => exact ⟨0, by omega, rfl, rfl, by rw [cpt_zero l n hl]; exact R0, R1, hw⟩
  case round =>
    clear R0 R1 hw
    obtain ⟨k, hk, rfl, rfl, r0, r1, hw⟩ := hrel
    have hcl := cr_lt l n hn k
    by_cases hlt : k < 16
    · have hd : decide (15 - (k : Int) ≥ 0) = true := by simp; omega
      by_cases h0 : cr l n k = 0
      · rw [cpt_done l n k h0 hk] at r0
        have hd2 : decide (((cr l n k : Nat) : Int) > 0) = false := by simp; omega
        rw [h0]
        clear hcl h0 hd2
        have hd2 : decide (((0 : Nat) : Int) > 0) = false := by decide
        have hi9 := info_bl infoB (ctr l n) (ctr_len _ _)
        have hfi : (irow .u8 (zr 16)).size = (irow .u8 (bl (ctr l n))).size := by rw [irow_size, irow_size, zr_len, bl_len, ctr_len]
        go_wp2_with (first | (refine wpList_load_want rfl 37 _ rfl (w.heap.size) rfl 37 (irow .u8 (bl (ctr l n))) (0, 0) _ r0 Try.underlying37 rfl hi9 ?_) | (refine wpList_store_row rfl 37 _ _ rfl (w.heap.size + 1) (irow .u8 (bl (ctr l n))) rfl rfl 37 _ r1 hi9 hfi (irow_one _ _) ?_) | fail)
        replace r1 := setRow_heap wr (w.heap.size + 1) _ (irow .u8 (bl (ctr l n))) _ _ r1
        replace hw := below_setRow hw (show w.heap.size ≤ w.heap.size + 1 by omega) (irow .u8 (bl (ctr l n)))
        generalize wr.setRow (w.heap.size + 1) (irow .u8 (bl (ctr l n))) = w9 at *
        exact bodyPost_ret (v := .agg (irow .u8 (bl (ctr l n)))) (results_cell_row Try.results11 _ _ (w.heap.size + 1) _ _ _ _ rfl r1 Try.underlying37 rfl hi9) rfl ⟨rfl, hw⟩

      · have hd2 : decide (((cr l n k : Nat) : Int) > 0) = true := by simp; omega
        have hto : (15 - (k : Int)).toNat = 15 - k := by omega
        have c0 := brow_cell r0 (j := 15 - k) (by rw [cpt_len]; omega)
        rw [cpt_get l n k hlt] at c0
        have e1 := bv_ctb l n k hlt
        have e2 := bv_crn l n k
        have b0 := bnd (gb l (15 - k))
        have hset := hide (cpt_set l n k hlt)
        have hf := row_frozen r0 (15 - k)
        have hbd : 0 ≤ 15 - (k : Int) ∧ 15 - (k : Int) < 16 := by omega
        generalize hN : cr l n (k + 1) = N1 at *
        replace hN := hide hN
        generalize ctb l n (15 - k) = x1 at *
        generalize gb l (15 - k) = x0 at *
        generalize cr l n k = N0 at *
        go_wp2
        refine ⟨⟨k + 1, by omega, by congr 1; omega, by rw [hN.out], by rw [← hset.out]; exact brow_set r0 (15 - k) x1, heap_other r1 (by omega), hw.setCell (Nat.le_refl _) _⟩, by simp [intOf]; omega⟩
    · obtain rfl : k = 16 := by omega
      have hd : decide (15 - ((16 : Nat) : Int) ≥ 0) = false := by decide
      rw [cpt_full] at r0
      generalize cr l n 16 = N0 at *
      clear hk hlt
      have hi9 := info_bl infoB (ctr l n) (ctr_len _ _)
      have hfi : (irow .u8 (zr 16)).size = (irow .u8 (bl (ctr l n))).size := by rw [irow_size, irow_size, zr_len, bl_len, ctr_len]
      go_wp2_with (first | (refine wpList_load_want rfl 37 _ rfl (w.heap.size) rfl 37 (irow .u8 (bl (ctr l n))) (0, 0) _ r0 Try.underlying37 rfl hi9 ?_) | (refine wpList_store_row rfl 37 _ _ rfl (w.heap.size + 1) (irow .u8 (bl (ctr l n))) rfl rfl 37 _ r1 hi9 hfi (irow_one _ _) ?_) | fail)
      replace r1 := setRow_heap wr (w.heap.size + 1) _ (irow .u8 (bl (ctr l n))) _ _ r1
      replace hw := below_setRow hw (show w.heap.size ≤ w.heap.size + 1 by omega) (irow .u8 (bl (ctr l n)))
      generalize wr.setRow (w.heap.size + 1) (irow .u8 (bl (ctr l n))) = w9 at *
      exact bodyPost_ret (v := .agg (irow .u8 (bl (ctr l n)))) (results_cell_row Try.results11 _ _ (w.heap.size + 1) _ _ _ _ rfl r1 Try.underlying37 rfl hi9) rfl ⟨rfl, hw⟩


def cft (l : List B) (n k : Nat) : List B := mk16 fun i => if 16 ≤ i + k then ctb l n i else 0#8
theorem cft_len (l : List B) (n k : Nat) : (cft l n k).length = 16 := mk16_len _
theorem cft_zero (l : List B) (n : Nat) : bl (cft l n 0) = zr 16 := by
  rw [← bl_zr]
  congr 1
theorem cft_full (l : List B) (n : Nat) : cft l n 16 = ctr l n := by
  apply ext16 (cft_len _ _ _) (ctr_len _ _)
  intro i hi
  rw [cft, mk16_get _ hi, if_pos (by omega), ctr, mk16_get _ hi]
theorem cft_set (l : List B) (n k : Nat) (h : k < 16) : (cft l n k).set (15 - k) (ctb l n (15 - k)) = cft l n (k + 1) := by
  apply ext16 (by rw [List.length_set, cft_len]) (cft_len _ _ _)
  intro i hi
  rw [List.getD_eq_getElem?_getD, List.getElem?_set]
  by_cases e : 15 - k = i
  · rw [if_pos e, if_pos (by rw [cft_len]; omega), cft, mk16_get _ hi, if_pos (by omega), e]; rfl
  · rw [if_neg e, ← List.getD_eq_getElem?_getD, cft, mk16_get _ hi, cft, mk16_get _ hi]
    by_cases g : 16 ≤ i + k
    · rw [if_pos g, if_pos (by omega)]
    · rw [if_neg g, if_neg (by omega)]
theorem bNo (cs : Array Value) (W : World) : (Instr.box 25 (.agg cs)).run Try.prog W = .ok (.pointer (some ⟨W.heap.size, 0, none⟩)) (W.alloc (.cells cs 25)) := by kernel_rfl
theorem infoN : (Try.prog.info? 25).map (·.size) = some 16 := by kernel_rfl
set_option maxRecDepth 100000 in
set_option maxHeartbeats 4000000 in
theorem r_counter (l : List B) (hl : l.length = 16) (n : Nat) (hn : n < 18446744073709551616) : Gives 8 #[.agg (irow .u8 (bl (l))), .int .u64 (n : Int)] (.agg (irow .u8 (bl (ctr l n)))) := by
  intro w
  have R0 := hp3_0 w (.cells (irow .u8 (bl (l))) 25) (.cells (irow .u8 (zr 16)) 33) (.cells (irow .u8 (zr 16)) 33)
  have R1 := hp3_1 w (.cells (irow .u8 (bl (l))) 25) (.cells (irow .u8 (zr 16)) 33) (.cells (irow .u8 (zr 16)) 33)
  have R2 := hp3_2 w (.cells (irow .u8 (bl (l))) 25) (.cells (irow .u8 (zr 16)) 33) (.cells (irow .u8 (zr 16)) 33)
  have hw : Below w.heap.size w (((w.alloc (.cells (irow .u8 (bl (l))) 25)).alloc (.cells (irow .u8 (zr 16)) 33)).alloc (.cells (irow .u8 (zr 16)) 33)) := ((((Below.refl _ _).alloc (Nat.le_refl _) _).alloc (by simp) _).alloc (by simp; omega) _)

  go_enter Try.func8, Try.ntmps8
  go_wp2_with (first | (refine wpList_box rfl 25 _ rfl _ rfl (bNo _) ?_) | (refine wpList_alloc rfl 33 rfl (irow .u8 (zr 16)) zR ?_) | fail)
  try simp only [size_alloc1, Act.put, List.setIfInBounds_toArray, List.set_cons_succ, List.set_cons_zero]
  generalize World.alloc _ _ = w0 at *
  go_loopw [1, 6, 7] (fun m c i wr => ∃ k M C : Nat, k ≤ 16 ∧ i = .int .i64 (15 - (k : Int)) ∧ m = .int .u64 (M : Int) ∧ c = .int .u64 (C : Int) ∧ C ≤ 1 ∧ M < 18446744073709551616 ∧ Hid (M + C = cr l n k) ∧ wr.heap[w.heap.size]? = some (.cells (irow .u8 (bl (l))) 25 (0, 0)) ∧ wr.heap[w.heap.size + 1]? = some (.cells (irow .u8 (zr 16)) 33 (0, 0)) ∧ wr.heap[w.heap.size + 1 + 1]? = some (.cells (irow .u8 (bl (cft l n k))) 33 (0, 0)) ∧ Below w.heap.size w wr) (fun _ _ i _ => (intOf i + 1).toNat)
  case atStart => exact ⟨0, n, 0, by omega, rfl, rfl, rfl, by omega, hn, hide rfl, R0, R1, by rw [cft_zero]; exact R2, hw⟩
  case round =>
    clear R0 R1 R2 hw
    obtain ⟨k, M, C, hk, rfl, rfl, rfl, hC, hM, hMC, r0, r1, r2, hw⟩ := hrel
    by_cases hlt : k < 16
    · have hd : decide (15 - (k : Int) ≥ 0) = true := by simp; omega
      have hto : (15 - (k : Int)).toNat = 15 - k := by omega
      have c0 := brow_cell r0 (j := 15 - k) (by omega)
      rw [show l.getD (15 - k) 0#8 = gb l (15 - k) from rfl] at c0
      have hset := hide (cft_set l n k hlt)
      have hbd : 0 ≤ 15 - (k : Int) ∧ 15 - (k : Int) < 16 := by omega
      have hx : Hid ((bv (gb l (15 - k)) + (M : Int) % 256 + (C : Int)) % 256 = bv (ctb l n (15 - k))) := hide (by
        rw [← bv_ctb l n k hlt, ← hMC.out]; have := bnd (gb l (15 - k)); omega)
      have hx2 : Hid (M / 256 + (((gb l (15 - k)).toNat + M % 256 + C) / 256) = cr l n (k + 1)) := hide (by
        rw [cr, ← hMC.out]; have := (gb l (15 - k)).isLt; omega)
      have e3 : bv (gb l (15 - k)) = ((gb l (15 - k)).toNat : Int) := rfl
      have b3 := (gb l (15 - k)).isLt
      have cw := brow_cell r2 (j := 15 - k) (by rw [cft_len]; omega)
      have hf := row_frozen r2 (15 - k)
      rw [e3] at hx c0
      generalize ctb l n (15 - k) = x1 at *
      generalize (gb l (15 - k)).toNat = x0 at *
      clear e3
      go_wp2
      refine ⟨⟨k + 1, M / 256, (x0 + M % 256 + C) / 256, by omega, by congr 1; omega, by congr 1, by congr 1, by omega, by omega, hx2, heap_other r0 (by omega), heap_other r1 (by omega), by rw [hx.out, ← hset.out]; exact brow_set r2 (15 - k) x1, hw.setCell (show w.heap.size ≤ w.heap.size + 1 + 1 by omega) _⟩, by simp [intOf]; omega⟩
    · obtain rfl : k = 16 := by omega
      have hd : decide (15 - ((16 : Nat) : Int) ≥ 0) = false := by decide
      rw [cft_full] at r2
      clear hk hlt
      have hi9 := info_bl infoR (ctr l n) (ctr_len _ _)
      have hfi : (irow .u8 (zr 16)).size = (irow .u8 (bl (ctr l n))).size := by rw [irow_size, irow_size, bl_len, ctr_len, zr_len]
      go_wp2_with (first | (refine wpList_load_want rfl 33 _ rfl (w.heap.size + 1 + 1) rfl 33 (irow .u8 (bl (ctr l n))) (0, 0) _ r2 Try.underlying33 rfl hi9 ?_) | (refine wpList_store_row rfl 33 _ _ rfl (w.heap.size + 1) (irow .u8 (bl (ctr l n))) rfl rfl 33 _ r1 hi9 hfi (irow_one _ _) ?_) | fail)
      replace r1 := setRow_heap wr (w.heap.size + 1) _ (irow .u8 (bl (ctr l n))) _ _ r1
      replace hw := below_setRow hw (show w.heap.size ≤ w.heap.size + 1 by omega) (irow .u8 (bl (ctr l n)))
      generalize wr.setRow (w.heap.size + 1) (irow .u8 (bl (ctr l n))) = w9 at *
      exact bodyPost_ret (v := .agg (irow .u8 (bl (ctr l n)))) (results_cell_row Try.results8 _ _ (w.heap.size + 1) _ _ _ _ rfl r1 Try.underlying33 rfl hi9) rfl ⟨rfl, hw⟩


/-- Bytes of the data, with their bounds. -/
def BysB (W : World) (v : Value) (bs : List B) : Prop := Bys W v (bl bs) ∧ bs.length ≤ 140737488351232 ∧ (∀ a l c, v = .slice a l c → a = none → c = 0)
theorem BysB.keep {W W' : World} {v : Value} {bs : List B} (h : BysB W v bs) (hb : Below W.heap.size W W') : BysB W' v bs := ⟨h.1.keep hb, h.2⟩
/-- A list of its own. -/
def Own (W : World) (b : Nat) (v : Value) (d : List B) : Prop := W.ownsRow b 5 1 v d.length ((bl d).map (Value.int .u8))
set_option maxHeartbeats 2000000 in
theorem a_clone2 (d : List B) (w : World) (v : Value) (hB : BysB w v d) : Calls Try.prog 12 #[v] w fun e w' => ∃ u, e = .returned u ∧ (Own w' w.heap.size u d ∧ (∀ ad l c, v = .slice (some ad) l c → u ≠ .slice none 0 0)) ∧ Below w.heap.size w w' := by
  obtain ⟨⟨ao, cap, rfl, hl, hc, hz⟩, hlen, hnil⟩ := hB
  obtain ⟨i0, hi, hz0, hz1, hz2⟩ := info8
  rw [bl_len] at *
  cases ao with
  | none =>
    obtain rfl := hnil none _ _ rfl rfl
    have h0 : d.length = 0 := by
      rcases Nat.eq_zero_or_pos d.length with h | h
      · exact h
      · obtain ⟨b, off, e, _⟩ := hc 0 h
        cases e
    obtain rfl : d = [] := List.length_eq_zero_iff.1 h0
    clear hc
    have heq : ∀ W : World, (binOp .eql 27 (.slice none 0 0) (.slice none 0 0)).run Try.prog W = .ok (.bool true) W := fun W => by kernel_rfl
    go_enter Try.func12, Try.ntmps12
    go_wp2
    go_ret
    exact ⟨_, rfl, ⟨⟨rfl, .inl ⟨rfl, rfl⟩⟩, fun ad l c h => by cases h⟩, Below.refl _ _⟩
  | some ad =>
    have heq : ∀ W : World, (binOp .eql 27 (.slice (some ad) d.length cap) (.slice none 0 0)).run Try.prog W = .ok (.bool false) W := fun W => by kernel_rfl
    have hcell : ∀ W : World, Below w.heap.size w W → ∀ j u, ((bl d).map (Value.int .u8))[j]? = some u → W.cell? (ad.add j) = some u := fun W hW j u hu => by
      have hj : j < d.length := by
        have := (List.getElem?_eq_some_iff.1 hu).1
        simpa [bl_len] using this
      obtain ⟨b, off, e', hb, hcl⟩ := hc j hj
      obtain rfl : ad = ⟨b, off, none⟩ := Option.some.inj e'
      have : u = .int .u8 ((bl d).getD j 0) := by
        have hj' : j < (bl d).length := by rw [bl_len]; exact hj
        simp only [List.getElem?_map, List.getElem?_eq_getElem hj', Option.map_some, Option.some.injEq] at hu
        rw [← hu, List.getD_eq_getElem?_getD, List.getElem?_eq_getElem hj']; rfl
      rw [this, addr_add]
      exact (hW.cell hb).trans hcl
    replace hcell := hide hcell
    clear hc
    go_enter Try.func12, Try.ntmps12
    have hb0 : Below w.heap.size w (w.alloc (.cells #[] 5)) := (Below.refl _ _).alloc (Nat.le_refl _) _
    have hown0 : (w.alloc (.cells #[] 5)).ownsRow w.heap.size 5 1 (.slice (some ⟨w.heap.size, 0, none⟩) 0 0) 0 [] := ⟨rfl, .inr ⟨w.heap.size, 0, #[], rfl, Nat.le_refl _, hp1_0 w _, Nat.le_refl _, by decide, rfl, rfl⟩⟩
    go_wp2_with (at_builtin; refine wpList_append_own _ rfl (.tmp 5) (.tmp 6) 27 rfl w.heap.size 5 i0 (.int .u8 0) 1 1 Try.underlying27 hi hz0 hz1 hz2 rfl (by decide) (.slice (some ⟨w.heap.size, 0, none⟩) 0 0) 0 [] rfl hown0 ad d.length cap ((bl d).map (Value.int .u8)) rfl (by simp [bl_len]) (hcell.out _ hb0) (ints_one .u8 _) (by unfold maxLen; omega) (by omega) hb0.size ?_)
    intro v' w1 hown2 hgrow hnn
    have hn2 : Hid (v' ≠ .slice none 0 0) := hide hnn
    clear hnn
    have hw := hb0.grown hgrow hb0.size (fun k h => (hown0.lt k h).1)
    clear hgrow
    obtain ⟨ao', cap', rfl⟩ := slen_own hown2
    go_wp2
    go_ret
    refine ⟨_, rfl, ⟨?_, fun _ _ _ _ => hn2.out⟩, hw⟩
    unfold Own
    simpa using hown2
theorem a_clone (d : List B) (w : World) (v : Value) (hB : BysB w v d) : Calls Try.prog 12 #[v] w fun e w' => ∃ u, e = .returned u ∧ Own w' w.heap.size u d ∧ Below w.heap.size w w' := (a_clone2 d w v hB).mono fun _ _ ⟨u, h1, h2, h3⟩ => ⟨u, h1, h2.1, h3⟩

end Go.Proofs.Ytmldmlbmfbdjoab


namespace Go.Proofs.Ytmldmlbmfbdjoab
open Go Go.RowKit Go.Sort
attribute [local go_sem] setCell_drewN alloc_drewN


/-! A state's cells; a cipher's cells. -/
def srow (ws : List Wd) (g : Nat) (r : Int) : Array Value := irow .u32 (wl ws) ++ #[.pointer (some ⟨g, 0, none⟩), .int .i64 r]
theorem srow_size (ws : List Wd) (g : Nat) (r : Int) : (srow ws g r).size = ws.length + 2 := by simp [srow, irow_size, wl_len]
theorem srow_one (ws : List Wd) (g : Nat) (r : Int) : (srow ws g r).all (·.oneCell') = true := by
  rw [srow, Array.all_append, irow_one]; simp [Value.oneCell']
theorem srow_cell {W : World} {b g : Nat} {ws : List Wd} {r : Int} {t : TypeId} (hg : W.heap[b]? = some (.cells (srow ws g r) t (0, 0))) {j : Nat} (hj : j < ws.length) : W.cell? ⟨b, j, none⟩ = some (.int .u32 (wv (ws.getD j 0#32))) := by
  rw [cell_of_row W b j _ t (0, 0) hg, srow, Array.getElem?_append_left (by rw [irow_size, wl_len]; exact hj), irow_get _ _ _ (by rw [wl_len]; exact hj), wl_get]
theorem srow_ptr {W : World} {b g : Nat} {ws : List Wd} {r : Int} {t : TypeId} (hg : W.heap[b]? = some (.cells (srow ws g r) t (0, 0))) (hl : ws.length = 4) : W.cell? ⟨b, 4, none⟩ = some (.pointer (some ⟨g, 0, none⟩)) := by
  rw [cell_of_row W b 4 _ t (0, 0) hg, srow, Array.getElem?_append_right (by rw [irow_size, wl_len, hl]; omega), irow_size, wl_len, hl]; rfl
theorem srow_rnd {W : World} {b g : Nat} {ws : List Wd} {r : Int} {t : TypeId} (hg : W.heap[b]? = some (.cells (srow ws g r) t (0, 0))) (hl : ws.length = 4) : W.cell? ⟨b, 5, none⟩ = some (.int .i64 r) := by
  rw [cell_of_row W b 5 _ t (0, 0) hg, srow, Array.getElem?_append_right (by rw [irow_size, wl_len, hl]; omega), irow_size, wl_len, hl]; rfl
theorem srow_put (ws : List Wd) (g : Nat) (r : Int) (j : Nat) (z : Wd) (hj : j < ws.length) : (srow ws g r).setIfInBounds j (.int .u32 (wv z)) = srow (ws.set j z) g r := by
  rw [srow, Array.setIfInBounds_append_left (by rw [irow_size, wl_len]; exact hj), srow, ← wl_set]
  congr 1
  simp [irow, List.map_set]
theorem srow_set {W : World} {b g : Nat} {ws : List Wd} {r : Int} {t : TypeId} (hg : W.heap[b]? = some (.cells (srow ws g r) t (0, 0))) (j : Nat) (z : Wd) (hj : j < ws.length) : (W.setCell ⟨b, j, none⟩ (.int .u32 (wv z))).heap[b]? = some (.cells (srow (ws.set j z) g r) t (0, 0)) := by
  rw [heap_setCell_same W b j _ t _ hg, srow_put _ _ _ _ _ hj]
theorem srow_setr {W : World} {b g : Nat} {ws : List Wd} {r : Int} {t : TypeId} (hg : W.heap[b]? = some (.cells (srow ws g r) t (0, 0))) (hl : ws.length = 4) (z : Int) : (W.setCell ⟨b, 5, none⟩ (.int .i64 z)).heap[b]? = some (.cells (srow ws g z) t (0, 0)) := by
  rw [heap_setCell_same W b 5 _ t _ hg, srow, Array.setIfInBounds_append_right (by rw [irow_size, wl_len, hl]; omega), irow_size, wl_len, hl]; rfl
theorem infoS : (Try.prog.info? 61).map (·.size) = some 6 := by kernel_rfl
theorem info_sr (ws : List Wd) (g : Nat) (r : Int) (hl : ws.length = 4) : (Try.prog.info? 61).map (·.size) = some (srow ws g r).size := by
  rw [srow_size, hl]; exact infoS
/-- A state of nothing. -/
def zst : Array Value := #[.int .u32 0, .int .u32 0, .int .u32 0, .int .u32 0, .pointer none, .int .i64 0]
theorem zSt (W : World) : (Instr.alloc 61 true (.tuple #[])).run Try.prog W = .ok (.pointer (some ⟨W.heap.size, 0, none⟩)) (W.alloc (.cells zst 61)) := by kernel_rfl
theorem bSt (cs : Array Value) (W : World) : (Instr.box 61 (.agg cs)).run Try.prog W = .ok (.pointer (some ⟨W.heap.size, 0, none⟩)) (W.alloc (.cells cs 61)) := by kernel_rfl
theorem srow_cols (ws : List Wd) (g : Nat) (r : Int) : (srow ws g r).extract 0 (0 + (irow .u32 (wl ws)).size) = irow .u32 (wl ws) := by
  rw [srow, Nat.zero_add]; simp
/-- A cipher's cells: the keys of its rounds, Sub and Back. -/
def cph (K : List B) : Array Value := irow .u32 (wl (wos K 60)) ++ (irow .u8 (bl sbl) ++ irow .u8 (bl bkl))
def Cph (W : World) (g : Nat) (K : List B) : Prop := W.heap[g]? = some (.cells (cph K) 53 (0, 0))
theorem Cph.keep {w W : World} {g : Nat} {K : List B} (h : Cph w g K) (hb : Below w.heap.size w W) : Cph W g K := Go.Proofs.Ytmldmlbmfbdjoab.keep hb h
theorem Cph.sub {W : World} {g : Nat} {K : List B} (h : Cph W g K) (x : B) : W.cell? ⟨g, 60 + x.toNat, none⟩ = some (.int .u8 (bv (sb x))) := by
  have hx := x.isLt
  rw [cell_of_row W g _ _ _ (0, 0) h, cph, Array.getElem?_append_right (by rw [irow_size, wl_len, wos_len]; omega), Array.getElem?_append_left (by rw [irow_size, irow_size, wl_len, wos_len, bl_len, sbl_len]; omega), irow_size, wl_len, wos_len, show 60 + x.toNat - 60 = x.toNat by omega, irow_get _ _ _ (by rw [bl_len, sbl_len]; exact hx), bl_get, sbl_get]
theorem Cph.back {W : World} {g : Nat} {K : List B} (h : Cph W g K) (x : B) : W.cell? ⟨g, 316 + x.toNat, none⟩ = some (.int .u8 (bv (bk x))) := by
  have hx := x.isLt
  rw [cell_of_row W g _ _ _ (0, 0) h, cph, Array.getElem?_append_right (by rw [irow_size, wl_len, wos_len]; omega), Array.getElem?_append_right (by rw [irow_size, irow_size, wl_len, wos_len, bl_len, sbl_len]; omega), irow_size, wl_len, wos_len, irow_size, bl_len, sbl_len, show 316 + x.toNat - 60 - 256 = x.toNat by omega, irow_get _ _ _ (by rw [bl_len, bkl_len]; exact hx), bl_get, bkl_get]
/-- The words of the key of a round. -/
def kws (K : List B) (r : Nat) : List Wd := (List.range 4).map fun j => wo K (4 * r + j)
theorem kws_len (K : List B) (r : Nat) : (kws K r).length = 4 := by simp [kws]
theorem kws_get (K : List B) (r j : Nat) (h : j < 4) : (kws K r).getD j 0#32 = wo K (4 * r + j) := by
  simp [kws, List.getD_eq_getElem?_getD, h]
theorem cph_size (K : List B) : (cph K).size = 572 := by
  rw [cph, Array.size_append, Array.size_append, irow_size, irow_size, irow_size, wl_len, wos_len, bl_len, bl_len, sbl_len, bkl_len]
theorem cph_key (K : List B) (r : Nat) (hr : r < 15) : (cph K).extract (4 * r) (4 * r + (irow .u32 (wl (kws K r))).size) = irow .u32 (wl (kws K r)) := by
  apply Array.ext_getElem?
  intro j
  rw [irow_size, wl_len, kws_len]
  by_cases hj : j < 4
  · have hs := cph_size K
    have hlt : j < min (4 * r + 4) (cph K).size - 4 * r := by rw [hs]; omega
    rw [Array.getElem?_extract, if_pos hlt]
    clear hlt hs
    rw [cph, Array.getElem?_append_left (by rw [irow_size, wl_len, wos_len]; omega), irow_get _ _ _ (by rw [wl_len, wos_len]; omega), wl_get, wos_get _ _ _ (by omega), irow_get _ _ _ (by rw [wl_len, kws_len]; exact hj), wl_get, kws_get _ _ _ hj]
  · rw [Array.getElem?_eq_none (by rw [Array.size_extract]; omega), Array.getElem?_eq_none (by rw [irow_size, wl_len, kws_len]; omega)]
/-- Four words, the first k turned by f. -/
def up (f : Nat → Wd) (l : List B) (k : Nat) : List Wd := (List.range 4).map fun j => if j < k then f j else wo l j
theorem up_len (f : Nat → Wd) (l : List B) (k : Nat) : (up f l k).length = 4 := by simp [up]
theorem up_zero (f : Nat → Wd) (l : List B) : up f l 0 = wos l 4 := by
  apply List.map_congr_left
  intro j _
  rw [if_neg (by omega)]
theorem up_full (l m : List B) : up (wo m) l 4 = wos m 4 := by
  apply List.map_congr_left
  intro j hj
  rw [List.mem_range] at hj
  rw [if_pos hj]
theorem up_get (f : Nat → Wd) (l : List B) (k : Nat) (h : k < 4) : (up f l k).getD k 0#32 = wo l k := by
  simp [up, List.getD_eq_getElem?_getD, h]
theorem up_set (f : Nat → Wd) (l : List B) (k : Nat) (h : k < 4) : (up f l k).set k (f k) = up f l (k + 1) := by
  apply List.ext_getElem?
  intro j
  rw [List.getElem?_set]
  by_cases e : k = j
  · subst e
    rw [if_pos rfl, if_pos (by rw [up_len]; exact h)]
    simp [up, h]
  · rw [if_neg e]
    simp only [up, List.getElem?_map]
    by_cases hj : j < 4
    · simp only [List.getElem?_range hj, Option.map_some]
      by_cases h1 : j < k
      · rw [if_pos h1, if_pos (by omega)]
      · rw [if_neg h1, if_neg (by omega)]
    · rw [List.getElem?_eq_none (by simp; omega)]; rfl
theorem indexC (ws : List Wd) (hl : ws.length = 4) (j : Nat) (hj : j < 4) (W : World) : (Instr.index 50 (.agg (irow .u32 (wl ws))) (.int .i64 (j : Int))).run Try.prog W = .ok (.int .u32 (wv (ws.getD j 0#32))) W := by
  obtain ⟨i0, hi⟩ : ∃ i, Try.prog.info? 48 = some i := ⟨_, rfl⟩
  rw [← wl_get]
  exact index_row Try.underlying50 Try.underlying48 hi (fun W => by kernel_rfl) (wl ws) (by rw [wl_len, hl]) j hj W
/-! The steps, word by word. -/
theorem wo_xor (l m : List B) (k : Nat) (h : k < 4) : wo (xorL l m) k = wo l k ^^^ wo m k := by
  rw [wo, wo, wo, wd_xor, xorL_get _ _ (by omega), xorL_get _ _ (by omega), xorL_get _ _ (by omega), xorL_get _ _ (by omega)]
theorem wo_kr (K : List B) (r k : Nat) (h : k < 4) : wo (kr K r) k = wo K (4 * r + k) := by
  rw [wo, wo, kr, mk16_get _ (by omega), mk16_get _ (by omega), mk16_get _ (by omega), mk16_get _ (by omega), show 16 * r + 4 * k = 4 * (4 * r + k) by omega, show 16 * r + (4 * k + 1) = 4 * (4 * r + k) + 1 by omega, show 16 * r + (4 * k + 2) = 4 * (4 * r + k) + 2 by omega, show 16 * r + (4 * k + 3) = 4 * (4 * r + k) + 3 by omega]
theorem wo_sub (l : List B) (k : Nat) (h : k < 4) : wo (subL l) k = wd (sb (l.getD (4 * k) 0#8)) (sb (l.getD (4 * k + 1) 0#8)) (sb (l.getD (4 * k + 2) 0#8)) (sb (l.getD (4 * k + 3) 0#8)) := by
  rw [wo, subL_get _ (by omega), subL_get _ (by omega), subL_get _ (by omega), subL_get _ (by omega)]
theorem wo_unsub (l : List B) (k : Nat) (h : k < 4) : wo (unsubL l) k = wd (bk (l.getD (4 * k) 0#8)) (bk (l.getD (4 * k + 1) 0#8)) (bk (l.getD (4 * k + 2) 0#8)) (bk (l.getD (4 * k + 3) 0#8)) := by
  rw [wo, unsubL_get _ (by omega), unsubL_get _ (by omega), unsubL_get _ (by omega), unsubL_get _ (by omega)]
theorem wo_shift (l : List B) (k : Nat) (h : k < 4) : wo (shiftL l) k = wd (l.getD (4 * k) 0#8) (l.getD (4 * ((k + 1) % 4) + 1) 0#8) (l.getD (4 * ((k + 2) % 4) + 2) 0#8) (l.getD (4 * ((k + 3) % 4) + 3) 0#8) := by
  rw [wo, shiftL_get _ (by omega), shiftL_get _ (by omega), shiftL_get _ (by omega), shiftL_get _ (by omega)]
  congr 2 <;> omega
theorem wo_unshift (l : List B) (k : Nat) (h : k < 4) : wo (unshiftL l) k = wd (l.getD (4 * k) 0#8) (l.getD (4 * ((k + 3) % 4) + 1) 0#8) (l.getD (4 * ((k + 2) % 4) + 2) 0#8) (l.getD (4 * ((k + 1) % 4) + 3) 0#8) := by
  rw [wo, unshiftL_get _ (by omega), unshiftL_get _ (by omega), unshiftL_get _ (by omega), unshiftL_get _ (by omega)]
  congr 2 <;> omega
theorem wo_mix (l : List B) (k : Nat) (h : k < 4) (a b c d : B) (ha : a = l.getD (4 * k) 0#8) (hb : b = l.getD (4 * k + 1) 0#8) (hc : c = l.getD (4 * k + 2) 0#8) (hd : d = l.getD (4 * k + 3) 0#8) :
    wo (mixL l) k = wd (dbl (a ^^^ b)) (dbl (b ^^^ c)) (dbl (c ^^^ d)) (dbl (d ^^^ a)) ^^^ wd b c d a ^^^ wd c d a b ^^^ wd d a b c := by
  have q : ∀ r < 4, (mixL l).getD (4 * k + r) 0#8 = mg (mixL l) k r := fun r hr => by unfold mg; rw [Nat.mod_eq_of_lt hr]
  have m0 : ∀ r, mg l k (r + 4) = mg l k r := mg_add4 l k
  have e0 : mg l k 0 = a := by rw [ha]; rfl
  have e1 : mg l k 1 = b := by rw [hb]; rfl
  have e2 : mg l k 2 = c := by rw [hc]; rfl
  have e3 : mg l k 3 = d := by rw [hd]; rfl
  have e4 : mg l k 4 = a := (m0 0).trans e0
  have e5 : mg l k 5 = b := (m0 1).trans e1
  have e6 : mg l k 6 = c := (m0 2).trans e2
  rw [wo, show (mixL l).getD (4 * k) 0#8 = mg (mixL l) k 0 from q 0 (by omega), q 1 (by omega), q 2 (by omega), q 3 (by omega), mg_mix _ _ _ h, mg_mix _ _ _ h, mg_mix _ _ _ h, mg_mix _ _ _ h]
  simp only [Nat.zero_add, Nat.reduceAdd, e0, e1, e2, e3, e4, e5, e6, wd_xor, dbl_add _ _]

end Go.Proofs.Ytmldmlbmfbdjoab


namespace Go.Proofs.Ytmldmlbmfbdjoab
open Go Go.RowKit Go.Sort
attribute [local go_sem] setCell_drewN alloc_drewN


set_option maxRecDepth 100000 in
set_option maxHeartbeats 4000000 in
theorem a_subbed (l : List B) (K : List B) (g : Nat) (r : Int) (w : World) (hC : Cph w g K) : Calls Try.prog 18 #[.agg (srow (wos l 4) g r)] w fun e w' => e = .returned (.agg (srow (wos (subL l) 4) g r)) ∧ Below w.heap.size w w' := by
  have R0 := hp2_0 w (.cells (srow (wos l 4) g r) 61) (.cells zst 61)
  have R1 := hp2_1 w (.cells (srow (wos l 4) g r) 61) (.cells zst 61)
  have HW : Below w.heap.size w ((w.alloc (.cells (srow (wos l 4) g r) 61)).alloc (.cells zst 61)) := (((Below.refl _ _).alloc (Nat.le_refl _) _).alloc (by simp) _)

  have hgl : g < w.heap.size := lt_of_row hC
  replace hC := hC.keep HW
  have hi0 := info_wl infoC (wos l 4) (wos_len _ _)
  go_enter Try.func18, Try.ntmps18
  go_wp2_with (first | (refine wpList_box rfl 61 _ rfl _ rfl (bSt _) ?_) | (refine wpList_alloc rfl 61 rfl zst zSt ?_) | (refine wpList_load_part rfl 50 _ rfl (w.heap.size) 0 rfl 61 (srow (wos l 4) g r) (0, 0) (irow .u32 (wl (wos l 4))) _ R0 (srow_cols _ _ _) Try.underlying50 rfl hi0 ?_) | fail)
  try simp only [size_alloc1, Act.put, List.setIfInBounds_toArray, List.set_cons_succ, List.set_cons_zero]
  generalize ((w.alloc (.cells (srow (wos l 4) g r) 61)).alloc (.cells zst 61)) = w0 at *
  go_loopw [7] (fun i wr => ∃ k : Nat, k ≤ 4 ∧ i = .int .i64 k ∧ wr.heap[w.heap.size]? = some (.cells (srow (up (wo (subL l)) l k) g r) 61 (0, 0)) ∧ wr.heap[w.heap.size + 1]? = some (.cells zst 61 (0, 0)) ∧ Cph wr g K ∧ Below w.heap.size w wr) (fun i _ => 4 - (intOf i).toNat)
  case atStart => exact ⟨0, by omega, rfl, by rw [up_zero]; exact R0, R1, hC, HW⟩
  case round =>
    clear R0 R1 hC HW
    obtain ⟨k, hk, rfl, r0, r1, hC, hw⟩ := hrel
    by_cases hlt : k < 4
    · have hd : decide ((k : Int) < 4) = true := by simp; omega
      have hix := indexC (wos l 4) (wos_len _ _) k hlt wr
      rw [wos_get l 4 k hlt] at hix
      have cp := srow_ptr r0 (up_len _ _ _)
      have ct := a_through sb g 60 (l.getD (4 * k) 0#8) (l.getD (4 * k + 1) 0#8) (l.getD (4 * k + 2) 0#8) (l.getD (4 * k + 3) 0#8) wr hC.sub
      have hset := hide (up_set (wo (subL l)) l k hlt)
      rw [wo_sub l k hlt] at hset
      rw [wo] at hix
      generalize l.getD (4 * k) 0#8 = b0 at *
      generalize l.getD (4 * k + 1) 0#8 = b1 at *
      generalize l.getD (4 * k + 2) 0#8 = b2 at *
      generalize l.getD (4 * k + 3) 0#8 = b3 at *
      go_wp2_with (fail)
      refine (ct).mono ?_
      rintro e_ w1 ⟨rfl, hb⟩
      replace r0 := keep hb r0
      replace r1 := keep hb r1
      replace hC := hC.keep hb
      replace hw := Below.after hw hb
      clear hb hix cp
      have c0 := srow_cell r0 (j := k) (by rw [up_len]; exact hlt)
      have hf := row_frozen r0 k
      go_wp2
      refine ⟨⟨k + 1, by omega, by go_num, by rw [← hset.out]; exact srow_set r0 k _ (by rw [up_len]; exact hlt), heap_other r1 (by omega), heap_other hC (Nat.ne_of_lt hgl), hw.setCell (Nat.le_refl _) _⟩, by simp [intOf]; omega⟩
    · obtain rfl : k = 4 := by omega
      have hd : decide ((4 : Int) < 4) = false := by decide
      rw [up_full l (subL l)] at r0
      have hi9 := info_sr (wos (subL l) 4) g r (wos_len _ _)
      have hfi : zst.size = (srow (wos (subL l) 4) g r).size := by rw [srow_size, wos_len]; rfl
      clear hk hlt
      go_wp2_with (first | (refine wpList_load_want rfl 61 _ rfl (w.heap.size) rfl 61 (srow (wos (subL l) 4) g r) (0, 0) _ r0 Try.underlying61 rfl hi9 ?_) | (refine wpList_store_row rfl 61 _ _ rfl (w.heap.size + 1) (srow (wos (subL l) 4) g r) rfl rfl 61 _ r1 hi9 hfi (srow_one _ _ _) ?_) | fail)
      replace r1 := setRow_heap wr (w.heap.size + 1) _ (srow (wos (subL l) 4) g r) _ _ r1
      replace hw := below_setRow hw (show w.heap.size ≤ w.heap.size + 1 by omega) (srow (wos (subL l) 4) g r)
      generalize wr.setRow (w.heap.size + 1) (srow (wos (subL l) 4) g r) = w9 at *
      exact bodyPost_ret (v := .agg (srow (wos (subL l) 4) g r)) (results_cell_row Try.results18 _ _ (w.heap.size + 1) _ _ _ _ rfl r1 Try.underlying61 rfl hi9) rfl ⟨rfl, hw⟩


set_option maxRecDepth 100000 in
set_option maxHeartbeats 4000000 in
theorem a_keyed (l : List B) (K : List B) (g : Nat) (r : Nat) (hr : r < 15) (w : World) (hC : Cph w g K) : Calls Try.prog 21 #[.agg (srow (wos l 4) g (r : Int))] w fun e w' => e = .returned (.agg (srow (wos (xorL l (kr K r)) 4) g (r : Int))) ∧ Below w.heap.size w w' := by
  have R0 := hp2_0 w (.cells (srow (wos l 4) g (r : Int)) 61) (.cells zst 61)
  have R1 := hp2_1 w (.cells (srow (wos l 4) g (r : Int)) 61) (.cells zst 61)
  have HW : Below w.heap.size w ((w.alloc (.cells (srow (wos l 4) g (r : Int)) 61)).alloc (.cells zst 61)) := (((Below.refl _ _).alloc (Nat.le_refl _) _).alloc (by simp) _)

  have hgl : g < w.heap.size := lt_of_row hC
  replace hC := hC.keep HW
  have hi0 := info_wl infoC (kws K r) (kws_len _ _)
  go_enter Try.func21, Try.ntmps21
  go_wp2_with (first | (refine wpList_box rfl 61 _ rfl _ rfl (bSt _) ?_) | (refine wpList_alloc rfl 61 rfl zst zSt ?_) | fail)
  try simp only [size_alloc1, Act.put, List.setIfInBounds_toArray, List.set_cons_succ, List.set_cons_zero]
  generalize ((w.alloc (.cells (srow (wos l 4) g (r : Int)) 61)).alloc (.cells zst 61)) = w0 at *
  have c4 := srow_ptr R0 (wos_len _ _)
  have c5 := srow_rnd R0 (wos_len _ _)
  have k4 : ∀ p : Regrown, (grow (redrawn w0 p.d) p.os).cell? ⟨w.heap.size, 4, none⟩ = some (.pointer (some ⟨g, 0, none⟩)) := fun p => cell_regrown c4 p.d p.os
  have k5 : ∀ p : Regrown, (grow (redrawn w0 p.d) p.os).cell? ⟨w.heap.size, 5, none⟩ = some (.int .i64 (r : Int)) := fun p => cell_regrown c5 p.d p.os
  have HC := keepr hC
  have hcx := cph_key K r hr
  refine wp_region_quiet_below (by kernel_rfl) (by kernel_rfl) ?_
  go_big_quiet_step (fail)
  go_big_quiet_step (fail)
  go_big_quiet_step (fail)
  go_big_quiet_step (fail)
  go_big_quiet_step (fail)
  go_big_quiet_step (fail)
  go_big_quiet_step (fail)
  refine wpQuiet_load_part rfl 50 _ rfl g (r * 4) rfl 53 (cph K) (0, 0) (irow .u32 (wl (kws K r))) _ HC.out (by rw [Nat.mul_comm r 4]; exact hcx) Try.underlying50 rfl hi0 ?_
  simp only [Act.put, List.setIfInBounds_toArray, List.set_cons_succ, List.set_cons_zero]
  go_big_quiet_step (fail)
  refine wpQuiet_nil ?_
  rintro _ ⟨p, rfl⟩
  have hb := below_regrown w0 p.d p.os
  generalize grow (redrawn w0 p.d) p.os = w1 at *
  clear k4 k5 HC c4 c5 hcx
  replace R0 := keep hb R0
  replace R1 := keep hb R1
  replace hC := hC.keep hb
  replace HW := Below.after HW hb
  clear hb
  go_wp2_with (fail)
  go_loopw [13] (fun i wr => ∃ k : Nat, k ≤ 4 ∧ i = .int .i64 k ∧ wr.heap[w.heap.size]? = some (.cells (srow (up (wo (xorL l (kr K r))) l k) g (r : Int)) 61 (0, 0)) ∧ wr.heap[w.heap.size + 1]? = some (.cells zst 61 (0, 0)) ∧ Cph wr g K ∧ Below w.heap.size w wr) (fun i _ => 4 - (intOf i).toNat)
  case atStart => exact ⟨0, by omega, rfl, by rw [up_zero]; exact R0, R1, hC, HW⟩
  case round =>
    clear R0 R1 hC HW
    obtain ⟨k, hk, rfl, r0, r1, hC, hw⟩ := hrel
    by_cases hlt : k < 4
    · have hd : decide ((k : Int) < 4) = true := by simp; omega
      have hix := indexC (kws K r) (kws_len _ _) k hlt wr
      rw [kws_get K r k hlt] at hix
      have c0 := srow_cell r0 (j := k) (by rw [up_len]; exact hlt)
      rw [up_get _ _ _ hlt] at c0
      have hf := row_frozen r0 k
      have hx := xor32 (wo l k) (wo K (4 * r + k))
      have hset := hide (up_set (wo (xorL l (kr K r))) l k hlt)
      rw [wo_xor _ _ _ hlt, wo_kr _ _ _ hlt] at hset
      generalize wo l k = x0 at *
      generalize wo K (4 * r + k) = x1 at *
      go_wp2
      refine ⟨⟨k + 1, by omega, by go_num, by rw [← hset.out]; exact srow_set r0 k _ (by rw [up_len]; exact hlt), heap_other r1 (by omega), heap_other hC (Nat.ne_of_lt hgl), hw.setCell (Nat.le_refl _) _⟩, by simp [intOf]; omega⟩
    · obtain rfl : k = 4 := by omega
      have hd : decide ((4 : Int) < 4) = false := by decide
      rw [up_full l (xorL l (kr K r))] at r0
      have hi9 := info_sr (wos (xorL l (kr K r)) 4) g r (wos_len _ _)
      have hfi : zst.size = (srow (wos (xorL l (kr K r)) 4) g (r : Int)).size := by rw [srow_size, wos_len]; rfl
      clear hk hlt
      go_wp2_with (first | (refine wpList_load_want rfl 61 _ rfl (w.heap.size) rfl 61 (srow (wos (xorL l (kr K r)) 4) g (r : Int)) (0, 0) _ r0 Try.underlying61 rfl hi9 ?_) | (refine wpList_store_row rfl 61 _ _ rfl (w.heap.size + 1) (srow (wos (xorL l (kr K r)) 4) g (r : Int)) rfl rfl 61 _ r1 hi9 hfi (srow_one _ _ _) ?_) | fail)
      replace r1 := setRow_heap wr (w.heap.size + 1) _ (srow (wos (xorL l (kr K r)) 4) g (r : Int)) _ _ r1
      replace hw := below_setRow hw (show w.heap.size ≤ w.heap.size + 1 by omega) (srow (wos (xorL l (kr K r)) 4) g (r : Int))
      generalize wr.setRow (w.heap.size + 1) (srow (wos (xorL l (kr K r)) 4) g (r : Int)) = w9 at *
      exact bodyPost_ret (v := .agg (srow (wos (xorL l (kr K r)) 4) g (r : Int))) (results_cell_row Try.results21 _ _ (w.heap.size + 1) _ _ _ _ rfl r1 Try.underlying61 rfl hi9) rfl ⟨rfl, hw⟩


set_option maxRecDepth 100000 in
set_option maxHeartbeats 4000000 in
theorem a_mixed (l : List B) (g : Nat) (r : Int) (w : World) : Calls Try.prog 20 #[.agg (srow (wos l 4) g r)] w fun e w' => e = .returned (.agg (srow (wos (mixL l) 4) g r)) ∧ Below w.heap.size w w' := by
  have R0 := hp2_0 w (.cells (srow (wos l 4) g r) 61) (.cells zst 61)
  have R1 := hp2_1 w (.cells (srow (wos l 4) g r) 61) (.cells zst 61)
  have HW : Below w.heap.size w ((w.alloc (.cells (srow (wos l 4) g r) 61)).alloc (.cells zst 61)) := (((Below.refl _ _).alloc (Nat.le_refl _) _).alloc (by simp) _)

  have hi0 := info_wl infoC (wos l 4) (wos_len _ _)
  go_enter Try.func20, Try.ntmps20
  go_wp2_with (first | (refine wpList_box rfl 61 _ rfl _ rfl (bSt _) ?_) | (refine wpList_alloc rfl 61 rfl zst zSt ?_) | (refine wpList_load_part rfl 50 _ rfl (w.heap.size) 0 rfl 61 (srow (wos l 4) g r) (0, 0) (irow .u32 (wl (wos l 4))) _ R0 (srow_cols _ _ _) Try.underlying50 rfl hi0 ?_) | fail)
  try simp only [size_alloc1, Act.put, List.setIfInBounds_toArray, List.set_cons_succ, List.set_cons_zero]
  generalize ((w.alloc (.cells (srow (wos l 4) g r) 61)).alloc (.cells zst 61)) = w0 at *
  go_loopw [7] (fun i wr => ∃ k : Nat, k ≤ 4 ∧ i = .int .i64 k ∧ wr.heap[w.heap.size]? = some (.cells (srow (up (wo (mixL l)) l k) g r) 61 (0, 0)) ∧ wr.heap[w.heap.size + 1]? = some (.cells zst 61 (0, 0)) ∧ Below w.heap.size w wr) (fun i _ => 4 - (intOf i).toNat)
  case atStart => exact ⟨0, by omega, rfl, by rw [up_zero]; exact R0, R1, HW⟩
  case round =>
    clear R0 R1 HW
    obtain ⟨k, hk, rfl, r0, r1, hw⟩ := hrel
    by_cases hlt : k < 4
    · have hd : decide ((k : Int) < 4) = true := by simp; omega
      have hix := indexC (wos l 4) (wos_len _ _) k hlt wr
      rw [wos_get l 4 k hlt] at hix
      have hset := hide (up_set (wo (mixL l)) l k hlt)
      rw [wo_mix l k hlt _ _ _ _ rfl rfl rfl rfl] at hset
      rw [wo] at hix
      generalize l.getD (4 * k) 0#8 = b0 at *
      generalize l.getD (4 * k + 1) 0#8 = b1 at *
      generalize l.getD (4 * k + 2) 0#8 = b2 at *
      generalize l.getD (4 * k + 3) 0#8 = b3 at *
      have l1 := a_left1 b0 b1 b2 b3
      have l2 := a_left2 b0 b1 b2 b3
      have l3 := a_left3 b0 b1 b2 b3
      have tw := a_wtwice (b0 ^^^ b1) (b1 ^^^ b2) (b2 ^^^ b3) (b3 ^^^ b0)
      have x0 := xor32 (wd b0 b1 b2 b3) (wd b1 b2 b3 b0)
      rw [wd_xor] at x0
      have x1 := xor32 (wd (dbl (b0 ^^^ b1)) (dbl (b1 ^^^ b2)) (dbl (b2 ^^^ b3)) (dbl (b3 ^^^ b0))) (wd b1 b2 b3 b0)
      have x2 := xor32 (wd (dbl (b0 ^^^ b1)) (dbl (b1 ^^^ b2)) (dbl (b2 ^^^ b3)) (dbl (b3 ^^^ b0)) ^^^ wd b1 b2 b3 b0) (wd b2 b3 b0 b1)
      have x3 := xor32 (wd (dbl (b0 ^^^ b1)) (dbl (b1 ^^^ b2)) (dbl (b2 ^^^ b3)) (dbl (b3 ^^^ b0)) ^^^ wd b1 b2 b3 b0 ^^^ wd b2 b3 b0 b1) (wd b3 b0 b1 b2)
      generalize wd (dbl (b0 ^^^ b1)) (dbl (b1 ^^^ b2)) (dbl (b2 ^^^ b3)) (dbl (b3 ^^^ b0)) = v0 at *
      generalize wd (b0 ^^^ b1) (b1 ^^^ b2) (b2 ^^^ b3) (b3 ^^^ b0) = v9 at *
      generalize wd b1 b2 b3 b0 = v1 at *
      generalize wd b2 b3 b0 b1 = v2 at *
      generalize wd b3 b0 b1 b2 = v3 at *
      generalize v0 ^^^ v1 ^^^ v2 ^^^ v3 = u3 at *
      generalize v0 ^^^ v1 ^^^ v2 = u2 at *
      generalize v0 ^^^ v1 = u1 at *
      go_wp2_with (fail)
      refine (l1.at _).mono ?_
      rintro e_ w1 ⟨rfl, hb⟩
      replace r0 := keep hb r0
      replace r1 := keep hb r1
      replace hw := Below.after hw hb
      clear hb
      go_wp2_with (fail)
      refine (tw.at _).mono ?_
      rintro e_ w2 ⟨rfl, hb⟩
      replace r0 := keep hb r0
      replace r1 := keep hb r1
      replace hw := Below.after hw hb
      clear hb
      go_wp2_with (fail)
      refine (l1.at _).mono ?_
      rintro e_ w3 ⟨rfl, hb⟩
      replace r0 := keep hb r0
      replace r1 := keep hb r1
      replace hw := Below.after hw hb
      clear hb
      go_wp2_with (fail)
      refine (l2.at _).mono ?_
      rintro e_ w4 ⟨rfl, hb⟩
      replace r0 := keep hb r0
      replace r1 := keep hb r1
      replace hw := Below.after hw hb
      clear hb
      go_wp2_with (fail)
      refine (l3.at _).mono ?_
      rintro e_ w5 ⟨rfl, hb⟩
      replace r0 := keep hb r0
      replace r1 := keep hb r1
      replace hw := Below.after hw hb
      clear hb

      have c0 := srow_cell r0 (j := k) (by rw [up_len]; exact hlt)
      have hf := row_frozen r0 k
      go_wp2
      refine ⟨⟨k + 1, by omega, by go_num, by rw [← hset.out]; exact srow_set r0 k _ (by rw [up_len]; exact hlt), heap_other r1 (by omega), hw.setCell (Nat.le_refl _) _⟩, by simp [intOf]; omega⟩
    · obtain rfl : k = 4 := by omega
      have hd : decide ((4 : Int) < 4) = false := by decide
      rw [up_full l (mixL l)] at r0
      have hi9 := info_sr (wos (mixL l) 4) g r (wos_len _ _)
      have hfi : zst.size = (srow (wos (mixL l) 4) g r).size := by rw [srow_size, wos_len]; rfl
      clear hk hlt
      go_wp2_with (first | (refine wpList_load_want rfl 61 _ rfl (w.heap.size) rfl 61 (srow (wos (mixL l) 4) g r) (0, 0) _ r0 Try.underlying61 rfl hi9 ?_) | (refine wpList_store_row rfl 61 _ _ rfl (w.heap.size + 1) (srow (wos (mixL l) 4) g r) rfl rfl 61 _ r1 hi9 hfi (srow_one _ _ _) ?_) | fail)
      replace r1 := setRow_heap wr (w.heap.size + 1) _ (srow (wos (mixL l) 4) g r) _ _ r1
      replace hw := below_setRow hw (show w.heap.size ≤ w.heap.size + 1 by omega) (srow (wos (mixL l) 4) g r)
      generalize wr.setRow (w.heap.size + 1) (srow (wos (mixL l) 4) g r) = w9 at *
      exact bodyPost_ret (v := .agg (srow (wos (mixL l) 4) g r)) (results_cell_row Try.results20 _ _ (w.heap.size + 1) _ _ _ _ rfl r1 Try.underlying61 rfl hi9) rfl ⟨rfl, hw⟩


end Go.Proofs.Ytmldmlbmfbdjoab


namespace Go.Proofs.Ytmldmlbmfbdjoab
open Go Go.RowKit Go.Sort
attribute [local go_sem] setCell_drewN alloc_drewN


/-- Four words turned by k places. -/
def trn (l : List B) (k : Nat) : List Wd := (List.range 4).map fun i => wo l ((i + k) % 4)
theorem trn_len (l : List B) (k : Nat) : (trn l k).length = 4 := by simp [trn]
theorem trn_get (l : List B) (k j : Nat) (h : j < 4) : (trn l k).getD j 0#32 = wo l ((j + k) % 4) := by
  simp [trn, List.getD_eq_getElem?_getD, h]
theorem a_turnedw (l : List B) (k : Nat) (hk : k < 4) : Gives 36 #[.agg (irow .u32 (wl (wos l 4))), .int .i64 (k : Int)] (.agg (irow .u32 (wl (trn l k)))) := by
  have h := a_turned (wv (wo l 0)) (wv (wo l 1)) (wv (wo l 2)) (wv (wo l 3)) k hk
  rcases (show k = 0 ∨ k = 1 ∨ k = 2 ∨ k = 3 by omega) with rfl | rfl | rfl | rfl <;> exact h
theorem a_pickedw (l : List B) (k : Nat) (hk : k < 4) : Gives 35 #[.agg (irow .u32 (wl (trn l k)))] (.int .u32 (wv (wo (shiftL l) k))) := by
  have h := a_picked (l.getD (4 * ((0 + k) % 4)) 0#8) (l.getD (4 * ((0 + k) % 4) + 1) 0#8) (l.getD (4 * ((0 + k) % 4) + 2) 0#8) (l.getD (4 * ((0 + k) % 4) + 3) 0#8) (l.getD (4 * ((1 + k) % 4)) 0#8) (l.getD (4 * ((1 + k) % 4) + 1) 0#8) (l.getD (4 * ((1 + k) % 4) + 2) 0#8) (l.getD (4 * ((1 + k) % 4) + 3) 0#8) (l.getD (4 * ((2 + k) % 4)) 0#8) (l.getD (4 * ((2 + k) % 4) + 1) 0#8) (l.getD (4 * ((2 + k) % 4) + 2) 0#8) (l.getD (4 * ((2 + k) % 4) + 3) 0#8) (l.getD (4 * ((3 + k) % 4)) 0#8) (l.getD (4 * ((3 + k) % 4) + 1) 0#8) (l.getD (4 * ((3 + k) % 4) + 2) 0#8) (l.getD (4 * ((3 + k) % 4) + 3) 0#8)
  rw [wo_shift l k hk]
  rcases (show k = 0 ∨ k = 1 ∨ k = 2 ∨ k = 3 by omega) with rfl | rfl | rfl | rfl <;> exact h
theorem a_pickedu (l : List B) (k : Nat) (hk : k < 4) : Gives 35 #[.agg #[.int .u32 (wv (wo l ((0 + k) % 4))), .int .u32 (wv (wo l ((3 + k) % 4))), .int .u32 (wv (wo l ((2 + k) % 4))), .int .u32 (wv (wo l ((1 + k) % 4)))]] (.int .u32 (wv (wo (unshiftL l) k))) := by
  have h := a_picked (l.getD (4 * ((0 + k) % 4)) 0#8) (l.getD (4 * ((0 + k) % 4) + 1) 0#8) (l.getD (4 * ((0 + k) % 4) + 2) 0#8) (l.getD (4 * ((0 + k) % 4) + 3) 0#8) (l.getD (4 * ((3 + k) % 4)) 0#8) (l.getD (4 * ((3 + k) % 4) + 1) 0#8) (l.getD (4 * ((3 + k) % 4) + 2) 0#8) (l.getD (4 * ((3 + k) % 4) + 3) 0#8) (l.getD (4 * ((2 + k) % 4)) 0#8) (l.getD (4 * ((2 + k) % 4) + 1) 0#8) (l.getD (4 * ((2 + k) % 4) + 2) 0#8) (l.getD (4 * ((2 + k) % 4) + 3) 0#8) (l.getD (4 * ((1 + k) % 4)) 0#8) (l.getD (4 * ((1 + k) % 4) + 1) 0#8) (l.getD (4 * ((1 + k) % 4) + 2) 0#8) (l.getD (4 * ((1 + k) % 4) + 3) 0#8)
  rw [wo_unshift l k hk]
  rcases (show k = 0 ∨ k = 1 ∨ k = 2 ∨ k = 3 by omega) with rfl | rfl | rfl | rfl <;> exact h
theorem z61 (W : World) : (Instr.alloc 49 true (.tuple #[])).run Try.prog W = .ok (.pointer (some ⟨W.heap.size, 0, none⟩)) (W.alloc (.cells (irow .u32 (zr 4)) 49)) := by kernel_rfl
theorem info61 : (Try.prog.info? 49).map (·.size) = some 4 := by kernel_rfl

set_option maxRecDepth 100000 in
set_option maxHeartbeats 4000000 in
theorem a_shifted (l : List B) (g : Nat) (r : Int) (w : World) : Calls Try.prog 19 #[.agg (srow (wos l 4) g r)] w fun e w' => e = .returned (.agg (srow (wos (shiftL l) 4) g r)) ∧ Below w.heap.size w w' := by
  have R0 := hp3_0 w (.cells (srow (wos l 4) g r) 61) (.cells zst 61) (.cells (irow .u32 (zr 4)) 50)
  have R1 := hp3_1 w (.cells (srow (wos l 4) g r) 61) (.cells zst 61) (.cells (irow .u32 (zr 4)) 50)
  have R2 := hp3_2 w (.cells (srow (wos l 4) g r) 61) (.cells zst 61) (.cells (irow .u32 (zr 4)) 50)
  have HW : Below w.heap.size w (((w.alloc (.cells (srow (wos l 4) g r) 61)).alloc (.cells zst 61)).alloc (.cells (irow .u32 (zr 4)) 50)) := ((((Below.refl _ _).alloc (Nat.le_refl _) _).alloc (by simp) _).alloc (by simp; omega) _)

  have hi0 := info_wl infoC (wos l 4) (wos_len _ _)
  have hf0 : (irow .u32 (zr 4)).size = (irow .u32 (wl (wos l 4))).size := by rw [irow_size, irow_size, zr_len, wl_len, wos_len]
  have Q0 := hp2_0 w (.cells (srow (wos l 4) g r) 61) (.cells zst 61)
  go_enter Try.func19, Try.ntmps19
  go_wp2_with (first | (refine wpList_box rfl 61 _ rfl _ rfl (bSt _) ?_) | (refine wpList_alloc rfl 61 rfl zst zSt ?_) | (refine wpList_alloc rfl 50 rfl (irow .u32 (zr 4)) zCo ?_) | (refine wpList_load_part rfl 50 _ rfl (w.heap.size) 0 rfl 61 (srow (wos l 4) g r) (0, 0) (irow .u32 (wl (wos l 4))) _ Q0 (srow_cols _ _ _) Try.underlying50 rfl hi0 ?_) | ((try simp only [size_alloc1]); refine wpList_store_row rfl 50 _ _ rfl (w.heap.size + 1 + 1) (irow .u32 (wl (wos l 4))) rfl rfl 50 _ R2 hi0 hf0 (irow_one _ _) ?_) | fail)
  try simp only [size_alloc1, Act.put, List.setIfInBounds_toArray, List.set_cons_succ, List.set_cons_zero]
  replace R0 := (setRow_other _ (w.heap.size + 1 + 1) (w.heap.size) (irow .u32 (wl (wos l 4))) (by omega)).trans R0
  replace R1 := (setRow_other _ (w.heap.size + 1 + 1) (w.heap.size + 1) (irow .u32 (wl (wos l 4))) (by omega)).trans R1
  replace R2 := setRow_heap _ (w.heap.size + 1 + 1) _ (irow .u32 (wl (wos l 4))) _ _ R2
  replace HW := below_setRow HW (show w.heap.size ≤ w.heap.size + 1 + 1 by omega) (irow .u32 (wl (wos l 4)))
  generalize World.setRow _ (w.heap.size + 1 + 1) (irow .u32 (wl (wos l 4))) = w0 at *
  clear Q0
  go_loopw [7] (fun i wr => ∃ k : Nat, k ≤ 4 ∧ i = .int .i64 k ∧ wr.heap[w.heap.size]? = some (.cells (srow (up (wo (shiftL l)) l k) g r) 61 (0, 0)) ∧ wr.heap[w.heap.size + 1]? = some (.cells zst 61 (0, 0)) ∧ wr.heap[w.heap.size + 1 + 1]? = some (.cells (irow .u32 (wl (wos l 4))) 50 (0, 0)) ∧ Below w.heap.size w wr) (fun i _ => 4 - (intOf i).toNat)
  case atStart => exact ⟨0, by omega, rfl, by rw [up_zero]; exact R0, R1, R2, HW⟩
  case round =>
    clear R0 R1 R2 HW
    obtain ⟨k, hk, rfl, r0, r1, r2, hw⟩ := hrel
    by_cases hlt : k < 4
    · have hd : decide ((k : Int) < 4) = true := by simp; omega
      have ct := a_turnedw l k hlt
      have cs := a_pickedw l k hlt
      have hset := hide (up_set (wo (shiftL l)) l k hlt)
      generalize wo (shiftL l) k = z at *
      go_wp2_with (first | (refine wpList_load_want rfl 50 _ rfl (w.heap.size + 1 + 1) rfl 50 (irow .u32 (wl (wos l 4))) (0, 0) _ r2 Try.underlying50 rfl hi0 ?_) | fail)
      refine (ct.at _).mono ?_
      rintro e_ w1 ⟨rfl, hb⟩
      replace r0 := keep hb r0
      replace r1 := keep hb r1
      replace r2 := keep hb r2
      replace hw := Below.after hw hb
      clear hb
      go_wp2_with (fail)
      refine (cs.at _).mono ?_
      rintro e_ w2 ⟨rfl, hb⟩
      replace r0 := keep hb r0
      replace r1 := keep hb r1
      replace r2 := keep hb r2
      replace hw := Below.after hw hb
      clear hb
      have c0 := srow_cell r0 (j := k) (by rw [up_len]; exact hlt)
      have hf := row_frozen r0 k
      go_wp2
      refine ⟨⟨k + 1, by omega, by go_num, by rw [← hset.out]; exact srow_set r0 k _ (by rw [up_len]; exact hlt), heap_other r1 (by omega), heap_other r2 (by omega), hw.setCell (Nat.le_refl _) _⟩, by simp [intOf]; omega⟩
    · obtain rfl : k = 4 := by omega
      have hd : decide ((4 : Int) < 4) = false := by decide
      rw [up_full l (shiftL l)] at r0
      have hi9 := info_sr (wos (shiftL l) 4) g r (wos_len _ _)
      have hfi : zst.size = (srow (wos (shiftL l) 4) g r).size := by rw [srow_size, wos_len]; rfl
      clear hk hlt
      go_wp2_with (first | (refine wpList_load_want rfl 61 _ rfl (w.heap.size) rfl 61 (srow (wos (shiftL l) 4) g r) (0, 0) _ r0 Try.underlying61 rfl hi9 ?_) | (refine wpList_store_row rfl 61 _ _ rfl (w.heap.size + 1) (srow (wos (shiftL l) 4) g r) rfl rfl 61 _ r1 hi9 hfi (srow_one _ _ _) ?_) | fail)
      replace r1 := setRow_heap wr (w.heap.size + 1) _ (srow (wos (shiftL l) 4) g r) _ _ r1
      replace hw := below_setRow hw (show w.heap.size ≤ w.heap.size + 1 by omega) (srow (wos (shiftL l) 4) g r)
      generalize wr.setRow (w.heap.size + 1) (srow (wos (shiftL l) 4) g r) = w9 at *
      exact bodyPost_ret (v := .agg (srow (wos (shiftL l) 4) g r)) (results_cell_row Try.results19 _ _ (w.heap.size + 1) _ _ _ _ rfl r1 Try.underlying61 rfl hi9) rfl ⟨rfl, hw⟩


end Go.Proofs.Ytmldmlbmfbdjoab


namespace Go.Proofs.Ytmldmlbmfbdjoab
open Go Go.RowKit Go.Sort
attribute [local go_sem] setCell_drewN alloc_drewN


theorem built_st (x0 x1 x2 x3 : Value) (g : Nat) (r : Int) : Try.prog.built 61 [(0, .agg #[x0, x1, x2, x3]), (1, .pointer (some ⟨g, 0, none⟩)), (2, .int .i64 r)] = some #[x0, x1, x2, x3, .pointer (some ⟨g, 0, none⟩), .int .i64 r] := by kernel_rfl
theorem wos4 (l : List B) : (irow .u32 (wl (wos l 4))) = #[.int .u32 (wv (wo l 0)), .int .u32 (wv (wo l 1)), .int .u32 (wv (wo l 2)), .int .u32 (wv (wo l 3))] := by
  simp [irow, wl, wos, List.range_succ]
theorem built_w (l : List B) (g : Nat) (r : Int) : Try.prog.built 61 [(0, .agg (irow .u32 (wl (wos l 4)))), (1, .pointer (some ⟨g, 0, none⟩)), (2, .int .i64 r)] = some (srow (wos l 4) g r) := by
  rw [srow, wos4, built_st]; rfl
theorem field_w (l : List B) (g : Nat) (r : Int) (W : World) : (Instr.field 61 (.agg (srow (wos l 4) g r)) 0).run Try.prog W = .ok (.agg (irow .u32 (wl (wos l 4)))) W := by
  have h : ∀ x0 x1 x2 x3 : Value, (Instr.field 61 (.agg #[x0, x1, x2, x3, .pointer (some ⟨g, 0, none⟩), .int .i64 r]) 0).run Try.prog W = .ok (.agg #[x0, x1, x2, x3]) W := fun x0 x1 x2 x3 => by kernel_rfl
  rw [srow, wos4]
  exact h _ _ _ _
theorem zF (W : World) : (Instr.alloc 62 true (.tuple #[])).run Try.prog W = .ok (.pointer (some ⟨W.heap.size, 0, none⟩)) (W.alloc (.cells #[.nilFunc, .nilFunc, .nilFunc, .nilFunc] 62)) := by kernel_rfl
set_option maxRecDepth 100000 in
set_option maxHeartbeats 4000000 in
theorem a_encrypt (l K : List B) (hl : l.length = 16) (g : Nat) (w : World) (hC : Cph w g K) : Calls Try.prog 10 #[.pointer (some ⟨g, 0, none⟩), .agg (irow .u8 (bl (l)))] w fun e w' => e = .returned (.agg (irow .u8 (bl (enc K l)))) ∧ Below w.heap.size w w' := by
  have hi0 := info_bl infoB l hl
  have hgl : g < w.heap.size := lt_of_row hC
  have hif : (Try.prog.info? 62).map (·.size) = some (#[.func (.func 18) #[] #[], .func (.func 19) #[] #[], .func (.func 20) #[] #[], .func (.func 21) #[] #[]] : Array Value).size := by kernel_rfl
  have hx0 : ∀ W, (Instr.index 62 (.agg #[.func (.func 18) #[] #[], .func (.func 19) #[] #[], .func (.func 20) #[] #[], .func (.func 21) #[] #[]]) (.int .i64 0)).run Try.prog W = .ok (.func (.func 18) #[] #[]) W := fun W => by kernel_rfl
  have hx1 : ∀ W, (Instr.index 62 (.agg #[.func (.func 18) #[] #[], .func (.func 19) #[] #[], .func (.func 20) #[] #[], .func (.func 21) #[] #[]]) (.int .i64 1)).run Try.prog W = .ok (.func (.func 19) #[] #[]) W := fun W => by kernel_rfl
  have hx2 : ∀ W, (Instr.index 62 (.agg #[.func (.func 18) #[] #[], .func (.func 19) #[] #[], .func (.func 20) #[] #[], .func (.func 21) #[] #[]]) (.int .i64 2)).run Try.prog W = .ok (.func (.func 20) #[] #[]) W := fun W => by kernel_rfl
  have hx3 : ∀ W, (Instr.index 62 (.agg #[.func (.func 18) #[] #[], .func (.func 19) #[] #[], .func (.func 20) #[] #[], .func (.func 21) #[] #[]]) (.int .i64 3)).run Try.prog W = .ok (.func (.func 21) #[] #[]) W := fun W => by kernel_rfl
  have hFo : (#[.func (.func 18) #[] #[], .func (.func 19) #[] #[], .func (.func 20) #[] #[], .func (.func 21) #[] #[]] : Array Value).all (·.oneCell') = true := by simp [Value.oneCell']
  have R0 := hp3_0 w (.cells (irow .u8 (bl (l))) 37) (.cells (irow .u8 (zr 16)) 37) (.cells #[.nilFunc, .nilFunc, .nilFunc, .nilFunc] 62)
  have R1 := hp3_1 w (.cells (irow .u8 (bl (l))) 37) (.cells (irow .u8 (zr 16)) 37) (.cells #[.nilFunc, .nilFunc, .nilFunc, .nilFunc] 62)
  have R2 := hp3_2 w (.cells (irow .u8 (bl (l))) 37) (.cells (irow .u8 (zr 16)) 37) (.cells #[.nilFunc, .nilFunc, .nilFunc, .nilFunc] 62)
  have hw : Below w.heap.size w (((w.alloc (.cells (irow .u8 (bl (l))) 37)).alloc (.cells (irow .u8 (zr 16)) 37)).alloc (.cells #[.nilFunc, .nilFunc, .nilFunc, .nilFunc] 62)) := ((((Below.refl _ _).alloc (Nat.le_refl _) _).alloc (by simp) _).alloc (by simp; omega) _)

  replace hC := hC.keep hw
  go_enter Try.func10, Try.ntmps10
  go_wp2_with (first | (refine wpList_box rfl 37 _ rfl _ rfl (bBl _) ?_) | (refine wpList_alloc rfl 37 rfl (irow .u8 (zr 16)) zBl ?_) | ((try simp only [size_alloc1]); refine wpList_store_row rfl 62 _ _ rfl (w.heap.size + 1 + 1) #[.func (.func 18) #[] #[], .func (.func 19) #[] #[], .func (.func 20) #[] #[], .func (.func 21) #[] #[]] rfl rfl 62 _ R2 hif rfl hFo ?_; refine wpList_stay ?_) | fail)
  try simp only [size_alloc1, Act.put, List.setIfInBounds_toArray, List.set_cons_succ, List.set_cons_zero]
  unfold WpStay
  replace R0 := (setRow_other _ (w.heap.size + 1 + 1) (w.heap.size) #[.func (.func 18) #[] #[], .func (.func 19) #[] #[], .func (.func 20) #[] #[], .func (.func 21) #[] #[]] (by omega)).trans R0
  replace R1 := (setRow_other _ (w.heap.size + 1 + 1) (w.heap.size + 1) #[.func (.func 18) #[] #[], .func (.func 19) #[] #[], .func (.func 20) #[] #[], .func (.func 21) #[] #[]] (by omega)).trans R1
  replace hC : Cph _ g K := (setRow_other _ (w.heap.size + 1 + 1) g #[.func (.func 18) #[] #[], .func (.func 19) #[] #[], .func (.func 20) #[] #[], .func (.func 21) #[] #[]] (by omega)).trans hC
  replace R2 := setRow_heap _ (w.heap.size + 1 + 1) _ #[.func (.func 18) #[] #[], .func (.func 19) #[] #[], .func (.func 20) #[] #[], .func (.func 21) #[] #[]] _ _ R2
  replace hw := below_setRow hw (show w.heap.size ≤ w.heap.size + 1 + 1 by omega) #[.func (.func 18) #[] #[], .func (.func 19) #[] #[], .func (.func 20) #[] #[], .func (.func 21) #[] #[]]
  generalize World.setRow _ (w.heap.size + 1 + 1) #[.func (.func 18) #[] #[], .func (.func 19) #[] #[], .func (.func 20) #[] #[], .func (.func 21) #[] #[]] = w0 at *
  have cc := a_cut l hl
  go_wp2_with (first | (refine wpList_load_want rfl 37 _ rfl (w.heap.size) rfl 37 (irow .u8 (bl (l))) (0, 0) _ R0 Try.underlying37 rfl hi0 ?_) | fail)
  refine (cc.at _).mono ?_
  rintro e_ w1 ⟨rfl, hb⟩
  replace R0 := keep hb R0
  replace R1 := keep hb R1
  replace R2 := keep hb R2
  replace hC := hC.keep hb
  replace hw := Below.after hw hb
  clear hb

  go_wp2_with (first | (refine wpList_build_as rfl 61 _ rfl [(0, .agg (irow .u32 (wl (wos l 4)))), (1, .pointer (some ⟨g, 0, none⟩)), (2, .int .i64 0)] rfl (srow (wos l 4) g 0) (built_w l g 0) ?_) | fail)
  refine (a_keyed l K g 0 (by omega) _ hC).mono ?_
  rintro e_ w2 ⟨rfl, hb⟩
  replace R0 := keep hb R0
  replace R1 := keep hb R1
  replace R2 := keep hb R2
  replace hC := hC.keep hb
  replace hw := Below.after hw hb
  clear hb

  have hi9 := info_sr (wos (rnd K l 0) 4) g ((0 : Nat) : Int) (wos_len _ _)
  have hfi : zst.size = (srow (wos (rnd K l 0) 4) g ((0 : Nat) : Int)).size := by rw [srow_size, wos_len]; rfl
  have R3 := hp1_0 w2 (.cells zst 61)
  have HB : Below w2.heap.size w2 (w2.alloc (.cells zst 61)) := (Below.refl _ _).alloc (Nat.le_refl _) _
  go_wp2_with (first | (refine wpList_alloc rfl 61 rfl zst zSt ?_) | (refine wpList_store_row rfl 61 _ _ rfl (w2.heap.size) (srow (wos (rnd K l 0) 4) g ((0 : Nat) : Int)) rfl rfl 61 _ R3 hi9 hfi (srow_one _ _ _) ?_; refine wpList_stay ?_) | fail)
  unfold WpStay
  have hsz := hw.size
  have l1 := lt_of_row R1
  have l2 := lt_of_row R2
  have l3 := lt_of_row hC
  replace R1 := (setRow_other _ (w2.heap.size) (w.heap.size + 1) (srow (wos (rnd K l 0) 4) g ((0 : Nat) : Int)) (by omega)).trans (keep HB R1)
  replace R2 := (setRow_other _ (w2.heap.size) (w.heap.size + 1 + 1) (srow (wos (rnd K l 0) 4) g ((0 : Nat) : Int)) (by omega)).trans (keep HB R2)
  replace hC : Cph _ g K := (setRow_other _ (w2.heap.size) g (srow (wos (rnd K l 0) 4) g ((0 : Nat) : Int)) (by omega)).trans (keep HB hC)
  replace R3 := setRow_heap _ (w2.heap.size) _ (srow (wos (rnd K l 0) 4) g ((0 : Nat) : Int)) _ _ R3
  replace hw := below_setRow (Below.after hw HB) hsz (srow (wos (rnd K l 0) 4) g ((0 : Nat) : Int))
  clear HB R0 hi9 hfi l3
  generalize World.setRow _ (w2.heap.size) (srow (wos (rnd K l 0) 4) g ((0 : Nat) : Int)) = w3 at *
  generalize w2.heap.size = gS at *
  have c5 := srow_rnd R3 (wos_len _ _)
  have hf5 := row_frozen R3 5
  go_wp2_with (fail)
  clear c5 hf5
  replace R1 := heap_other (j := 5) (v := .int .i64 1) R1 (show w.heap.size + 1 ≠ gS by omega)
  replace R2 := heap_other (j := 5) (v := .int .i64 1) R2 (show w.heap.size + 1 + 1 ≠ gS by omega)
  replace hC : Cph _ g K := heap_other (j := 5) (v := .int .i64 1) hC (show g ≠ gS by omega)
  replace R3 := srow_setr R3 (wos_len _ _) 1
  replace hw : Below w.heap.size w (w3.setCell ⟨gS, 5, none⟩ (.int .i64 1)) := hw.setCell (show w.heap.size ≤ gS by omega) _
  generalize w3.setCell ⟨gS, 5, none⟩ (.int .i64 1) = w4 at *
  go_loopw [] (fun wr => ∃ n : Nat, n ≤ 13 ∧ wr.heap[w.heap.size + 1]? = some (.cells (irow .u8 (zr 16)) 37 (0, 0)) ∧ wr.heap[w.heap.size + 1 + 1]? = some (.cells #[.func (.func 18) #[] #[], .func (.func 19) #[] #[], .func (.func 20) #[] #[], .func (.func 21) #[] #[]] 62 (0, 0)) ∧ wr.heap[gS]? = some (.cells (srow (wos (rnd K l n) 4) g (n + 1 : Int)) 61 (0, 0)) ∧ Cph wr g K ∧ Below w.heap.size w wr) (fun wr => match wr.cell? ⟨gS, 5, none⟩ with | some (.int _ z) => 14 - z.toNat | _ => 0)
  case atStart => exact ⟨0, by omega, R1, R2, R3, hC, hw⟩
  case round =>
    clear R1 R2 R3 hC hw cc
    obtain ⟨n, hn, r1, r2, r3, hC, hw⟩ := hrel
    have c5 := srow_rnd r3 (wos_len _ _)
    have c5o := hide c5
    by_cases hlt : n < 13
    · have hd : decide ((n : Int) + 1 < 14) = true := by simp; omega
      go_wp2_with (first | (refine wpList_load_want rfl 62 _ rfl (w.heap.size + 1 + 1) rfl 62 #[.func (.func 18) #[] #[], .func (.func 19) #[] #[], .func (.func 20) #[] #[], .func (.func 21) #[] #[]] (0, 0) _ r2 Try.underlying62 rfl hif ?_) | fail)
      refine wp_loop_rounds 5 ?_
      rw [rounds_succ]
      go_wp2_with (first | (refine wpList_load_want rfl 61 _ rfl (gS) rfl 61 (srow (wos (rnd K l n) 4) g (n + 1 : Int)) (0, 0) _ r3 Try.underlying61 rfl (info_sr (wos (rnd K l n) 4) g (n + 1 : Int) (wos_len _ _)) ?_) | fail)
      refine (a_subbed (rnd K l n) K g (n + 1 : Int) _ hC).mono ?_
      rintro e_ w5 ⟨rfl, hb⟩
      replace r1 := keep hb r1
      replace r2 := keep hb r2
      replace r3 := keep hb r3
      replace hC := hC.keep hb
      replace hw := Below.after hw hb
      clear hb
      go_wp2_with (first | (refine wpList_store_row rfl 61 _ _ rfl (gS) (srow (wos (subL (rnd K l n)) 4) g (n + 1 : Int)) rfl rfl 61 _ r3 (info_sr (wos (subL (rnd K l n)) 4) g (n + 1 : Int) (wos_len _ _)) (by rw [srow_size, srow_size, wos_len, wos_len]) (srow_one _ _ _) ?_; refine wpList_stay ?_) | fail)
      unfold WpStay
      replace r1 := (setRow_other w5 gS (w.heap.size + 1) (srow (wos (subL (rnd K l n)) 4) g (n + 1 : Int)) (by omega)).trans r1
      replace r2 := (setRow_other w5 gS (w.heap.size + 1 + 1) (srow (wos (subL (rnd K l n)) 4) g (n + 1 : Int)) (by omega)).trans r2
      replace hC : Cph _ g K := (setRow_other w5 gS g (srow (wos (subL (rnd K l n)) 4) g (n + 1 : Int)) (by omega)).trans hC
      replace r3 := setRow_heap w5 gS _ (srow (wos (subL (rnd K l n)) 4) g (n + 1 : Int)) _ _ r3
      replace hw := below_setRow hw (show w.heap.size ≤ gS by omega) (srow (wos (subL (rnd K l n)) 4) g (n + 1 : Int))
      generalize w5.setRow gS (srow (wos (subL (rnd K l n)) 4) g (n + 1 : Int)) = v5 at *
      go_wp2_with (fail)
      rw [rounds_succ]
      go_wp2_with (first | (refine wpList_load_want rfl 61 _ rfl (gS) rfl 61 (srow (wos (subL (rnd K l n)) 4) g (n + 1 : Int)) (0, 0) _ r3 Try.underlying61 rfl (info_sr (wos (subL (rnd K l n)) 4) g (n + 1 : Int) (wos_len _ _)) ?_) | fail)
      refine (a_shifted (subL (rnd K l n)) g (n + 1 : Int) _).mono ?_
      rintro e_ w6 ⟨rfl, hb⟩
      replace r1 := keep hb r1
      replace r2 := keep hb r2
      replace r3 := keep hb r3
      replace hC := hC.keep hb
      replace hw := Below.after hw hb
      clear hb
      go_wp2_with (first | (refine wpList_store_row rfl 61 _ _ rfl (gS) (srow (wos (shiftL (subL (rnd K l n))) 4) g (n + 1 : Int)) rfl rfl 61 _ r3 (info_sr (wos (shiftL (subL (rnd K l n))) 4) g (n + 1 : Int) (wos_len _ _)) (by rw [srow_size, srow_size, wos_len, wos_len]) (srow_one _ _ _) ?_; refine wpList_stay ?_) | fail)
      unfold WpStay
      replace r1 := (setRow_other w6 gS (w.heap.size + 1) (srow (wos (shiftL (subL (rnd K l n))) 4) g (n + 1 : Int)) (by omega)).trans r1
      replace r2 := (setRow_other w6 gS (w.heap.size + 1 + 1) (srow (wos (shiftL (subL (rnd K l n))) 4) g (n + 1 : Int)) (by omega)).trans r2
      replace hC : Cph _ g K := (setRow_other w6 gS g (srow (wos (shiftL (subL (rnd K l n))) 4) g (n + 1 : Int)) (by omega)).trans hC
      replace r3 := setRow_heap w6 gS _ (srow (wos (shiftL (subL (rnd K l n))) 4) g (n + 1 : Int)) _ _ r3
      replace hw := below_setRow hw (show w.heap.size ≤ gS by omega) (srow (wos (shiftL (subL (rnd K l n))) 4) g (n + 1 : Int))
      generalize w6.setRow gS (srow (wos (shiftL (subL (rnd K l n))) 4) g (n + 1 : Int)) = v6 at *
      go_wp2_with (fail)
      rw [rounds_succ]
      go_wp2_with (first | (refine wpList_load_want rfl 61 _ rfl (gS) rfl 61 (srow (wos (shiftL (subL (rnd K l n))) 4) g (n + 1 : Int)) (0, 0) _ r3 Try.underlying61 rfl (info_sr (wos (shiftL (subL (rnd K l n))) 4) g (n + 1 : Int) (wos_len _ _)) ?_) | fail)
      refine (a_mixed (shiftL (subL (rnd K l n))) g (n + 1 : Int) _).mono ?_
      rintro e_ w7 ⟨rfl, hb⟩
      replace r1 := keep hb r1
      replace r2 := keep hb r2
      replace r3 := keep hb r3
      replace hC := hC.keep hb
      replace hw := Below.after hw hb
      clear hb
      go_wp2_with (first | (refine wpList_store_row rfl 61 _ _ rfl (gS) (srow (wos (mixL (shiftL (subL (rnd K l n)))) 4) g (n + 1 : Int)) rfl rfl 61 _ r3 (info_sr (wos (mixL (shiftL (subL (rnd K l n)))) 4) g (n + 1 : Int) (wos_len _ _)) (by rw [srow_size, srow_size, wos_len, wos_len]) (srow_one _ _ _) ?_; refine wpList_stay ?_) | fail)
      unfold WpStay
      replace r1 := (setRow_other w7 gS (w.heap.size + 1) (srow (wos (mixL (shiftL (subL (rnd K l n)))) 4) g (n + 1 : Int)) (by omega)).trans r1
      replace r2 := (setRow_other w7 gS (w.heap.size + 1 + 1) (srow (wos (mixL (shiftL (subL (rnd K l n)))) 4) g (n + 1 : Int)) (by omega)).trans r2
      replace hC : Cph _ g K := (setRow_other w7 gS g (srow (wos (mixL (shiftL (subL (rnd K l n)))) 4) g (n + 1 : Int)) (by omega)).trans hC
      replace r3 := setRow_heap w7 gS _ (srow (wos (mixL (shiftL (subL (rnd K l n)))) 4) g (n + 1 : Int)) _ _ r3
      replace hw := below_setRow hw (show w.heap.size ≤ gS by omega) (srow (wos (mixL (shiftL (subL (rnd K l n)))) 4) g (n + 1 : Int))
      generalize w7.setRow gS (srow (wos (mixL (shiftL (subL (rnd K l n)))) 4) g (n + 1 : Int)) = v7 at *
      go_wp2_with (fail)
      rw [rounds_succ]
      go_wp2_with (first | (refine wpList_load_want rfl 61 _ rfl (gS) rfl 61 (srow (wos (mixL (shiftL (subL (rnd K l n)))) 4) g (n + 1 : Int)) (0, 0) _ r3 Try.underlying61 rfl (info_sr (wos (mixL (shiftL (subL (rnd K l n)))) 4) g (n + 1 : Int) (wos_len _ _)) ?_) | fail)
      refine (a_keyed (mixL (shiftL (subL (rnd K l n)))) K g (n + 1) (by omega) _ hC).mono ?_
      rintro e_ w8 ⟨rfl, hb⟩
      replace r1 := keep hb r1
      replace r2 := keep hb r2
      replace r3 := keep hb r3
      replace hC := hC.keep hb
      replace hw := Below.after hw hb
      clear hb
      go_wp2_with (first | (refine wpList_store_row rfl 61 _ _ rfl (gS) (srow (wos (rnd K l (n + 1)) 4) g (n + 1 : Int)) rfl rfl 61 _ r3 (info_sr (wos (rnd K l (n + 1)) 4) g (n + 1 : Int) (wos_len _ _)) (by rw [srow_size, srow_size, wos_len, wos_len]) (srow_one _ _ _) ?_; refine wpList_stay ?_) | fail)
      unfold WpStay
      replace r1 := (setRow_other w8 gS (w.heap.size + 1) (srow (wos (rnd K l (n + 1)) 4) g (n + 1 : Int)) (by omega)).trans r1
      replace r2 := (setRow_other w8 gS (w.heap.size + 1 + 1) (srow (wos (rnd K l (n + 1)) 4) g (n + 1 : Int)) (by omega)).trans r2
      replace hC : Cph _ g K := (setRow_other w8 gS g (srow (wos (rnd K l (n + 1)) 4) g (n + 1 : Int)) (by omega)).trans hC
      replace r3 := setRow_heap w8 gS _ (srow (wos (rnd K l (n + 1)) 4) g (n + 1 : Int)) _ _ r3
      replace hw := below_setRow hw (show w.heap.size ≤ gS by omega) (srow (wos (rnd K l (n + 1)) 4) g (n + 1 : Int))
      generalize w8.setRow gS (srow (wos (rnd K l (n + 1)) 4) g (n + 1 : Int)) = v8 at *
      go_wp2_with (fail)

      rw [rounds_succ]
      have c5 := srow_rnd r3 (wos_len _ _)
      have hf5 := row_frozen r3 5
      go_wp2_with (fail)
      refine ⟨⟨n + 1, by omega, heap_other r1 (by omega), heap_other r2 (by omega), srow_setr r3 (wos_len _ _) _, heap_other hC (by omega), hw.setCell (show w.heap.size ≤ gS by omega) _⟩, ?_⟩
      have c9 := srow_rnd (srow_setr r3 (wos_len _ _) ((n : Int) + 1 + 1)) (wos_len _ _)
      simp only [c9, c5o.out]
      omega
    · obtain rfl : n = 13 := by omega
      have hd : decide (((13 : Nat) : Int) + 1 < 14) = false := by decide
      have hfe := field_w (xorL (shiftL (subL (rnd K l 13))) (kr K 14)) g 14
      have cj : Gives 23 #[.agg (irow .u32 (wl (wos (xorL (shiftL (subL (rnd K l 13))) (kr K 14)) 4)))] (.agg (irow .u8 (bl (enc K l)))) := a_joined (enc K l) (enc_len _ _)
      have hi7 := info_bl infoB (enc K l) (enc_len _ _)
      have hf7 : (irow .u8 (zr 16)).size = (irow .u8 (bl (enc K l))).size := by rw [irow_size, irow_size, zr_len, bl_len, enc_len]
      clear hn hlt
      go_wp2_with (first | (refine wpList_load_want rfl 61 _ rfl (gS) rfl 61 (srow (wos (rnd K l 13) 4) g ((13 : Nat) + 1 : Int)) (0, 0) _ r3 Try.underlying61 rfl (info_sr (wos (rnd K l 13) 4) g ((13 : Nat) + 1 : Int) (wos_len _ _)) ?_) | fail)
      refine (a_subbed (rnd K l 13) K g 14 _ hC).mono ?_
      rintro e_ w5 ⟨rfl, hb⟩
      replace r1 := keep hb r1
      replace r2 := keep hb r2
      replace hC := hC.keep hb
      replace hw := Below.after hw hb
      clear hb

      go_wp2_with (fail)
      refine (a_shifted (subL (rnd K l 13)) g 14 _).mono ?_
      rintro e_ w6 ⟨rfl, hb⟩
      replace r1 := keep hb r1
      replace r2 := keep hb r2
      replace hC := hC.keep hb
      replace hw := Below.after hw hb
      clear hb

      go_wp2_with (fail)
      refine (a_keyed (shiftL (subL (rnd K l 13))) K g 14 (by omega) _ hC).mono ?_
      rintro e_ w7 ⟨rfl, hb⟩
      replace r1 := keep hb r1
      replace r2 := keep hb r2
      replace hC := hC.keep hb
      replace hw := Below.after hw hb
      clear hb

      change _
      go_wp2_with (fail)
      refine (cj.at _).mono ?_
      rintro e_ w8 ⟨rfl, hb⟩
      replace r1 := keep hb r1
      replace r2 := keep hb r2
      replace hw := Below.after hw hb
      clear hb

      go_wp2_with (first | (refine wpList_store_row rfl 37 _ _ rfl (w.heap.size + 1) (irow .u8 (bl (enc K l))) rfl rfl 37 _ r1 hi7 hf7 (irow_one _ _) ?_) | fail)
      replace r1 := setRow_heap w8 (w.heap.size + 1) _ (irow .u8 (bl (enc K l))) _ _ r1
      replace hw := below_setRow hw (show w.heap.size ≤ w.heap.size + 1 by omega) (irow .u8 (bl (enc K l)))
      generalize w8.setRow (w.heap.size + 1) (irow .u8 (bl (enc K l))) = w9 at *
      exact bodyPost_ret (v := .agg (irow .u8 (bl (enc K l)))) (results_cell_row Try.results10 _ _ (w.heap.size + 1) _ _ _ _ rfl r1 Try.underlying37 rfl hi7) rfl ⟨rfl, hw⟩

end Go.Proofs.Ytmldmlbmfbdjoab


namespace Go.Proofs.Ytmldmlbmfbdjoab
open Go Go.RowKit Go.Sort
attribute [local go_sem] setCell_drewN alloc_drewN


end Go.Proofs.Ytmldmlbmfbdjoab

