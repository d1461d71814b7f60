import Derived.Test.YtmldmlbmfbdjoaaProg
import Derived.WalkKit
import Derived.WalkSpells
import Derived.WalkLawsBesides
import Derived.Lib.QuietBelow
import Derived.BigQuiet
import Derived.Test.YtmldmlbmfbdjoaaS0
import Derived.Test.YtmldmlbmfbdjoaaS1
import Derived.Test.YtmldmlbmfbdjoaaS2
namespace Go.Proofs.Ytmldmlbmfbdjoaa
open Go Go.RowKit Go.Sort
attribute [local go_sem] setCell_drewN alloc_drewN


/-! Lists turned place by place. -/
def pm (f g : Nat → B) (n k : Nat) : List B := (List.range n).map fun j => if j < k then f j else g j
theorem pm_len (f g : Nat → B) (n k : Nat) : (pm f g n k).length = n := by simp [pm]
theorem pm_get (f g : Nat → B) (n k : Nat) (h : k < n) : (pm f g n k).getD k 0#8 = g k := by
  simp [pm, List.getD_eq_getElem?_getD, h]
theorem pm_set (f g : Nat → B) (n k : Nat) (h : k < n) : (pm f g n k).set k (f k) = pm f g n (k + 1) := by
  apply List.ext_getElem?
  intro j
  rw [List.getElem?_set]
  by_cases e : k = j
  · subst e
    rw [if_pos rfl, if_pos (by rw [pm_len]; exact h)]
    simp [pm, h]
  · rw [if_neg e]
    simp only [pm, List.getElem?_map]
    by_cases hj : j < n
    · simp only [List.getElem?_range hj, Option.map_some]
      by_cases h1 : j < k
      · rw [if_pos h1, if_pos (by omega)]
      · rw [if_neg h1, if_neg (by omega)]
    · rw [List.getElem?_eq_none (by simp; omega)]; rfl
theorem pm_zero (f : Nat → B) (l : List B) (hl : l.length = 16) : pm f (gb l) 16 0 = l := by
  apply ext16 (pm_len _ _ _ _) hl
  intro i hi
  simp [pm, List.getD_eq_getElem?_getD, hi, gb]
theorem pm_full (m : List B) (g : Nat → B) (hm : m.length = 16) : pm (gb m) g 16 16 = m := by
  apply ext16 (pm_len _ _ _ _) hm
  intro i hi
  simp [pm, List.getD_eq_getElem?_getD, hi, gb]
theorem bR (cs : Array Value) (W : World) : (Instr.box 31 (.agg cs)).run Try.prog W = .ok (.pointer (some ⟨W.heap.size, 0, none⟩)) (W.alloc (.cells cs 31)) := by kernel_rfl
theorem zR (W : World) : (Instr.alloc 31 true (.tuple #[])).run Try.prog W = .ok (.pointer (some ⟨W.heap.size, 0, none⟩)) (W.alloc (.cells (irow .u8 (zr 16)) 31)) := by kernel_rfl
theorem b256 (cs : Array Value) (W : World) : (Instr.box 55 (.agg cs)).run Try.prog W = .ok (.pointer (some ⟨W.heap.size, 0, none⟩)) (W.alloc (.cells cs 55)) := by kernel_rfl
theorem infoR : (Try.prog.info? 31).map (·.size) = some 16 := by kernel_rfl

set_option maxRecDepth 100000 in
set_option maxHeartbeats 4000000 in
theorem r_xor (a b : List B) (ha : a.length = 16) (hb : b.length = 16) : Gives 46 #[.agg (irow .u8 (bl (a))), .agg (irow .u8 (bl (b)))] (.agg (irow .u8 (bl (xorL a b)))) := by
  intro w
  have R0 := hp3_0 w (.cells (irow .u8 (bl (pm (gb (xorL a b)) (gb a) 16 0))) 31) (.cells (irow .u8 (bl (b))) 31) (.cells (irow .u8 (zr 16)) 31)
  have R1 := hp3_1 w (.cells (irow .u8 (bl (pm (gb (xorL a b)) (gb a) 16 0))) 31) (.cells (irow .u8 (bl (b))) 31) (.cells (irow .u8 (zr 16)) 31)
  have R2 := hp3_2 w (.cells (irow .u8 (bl (pm (gb (xorL a b)) (gb a) 16 0))) 31) (.cells (irow .u8 (bl (b))) 31) (.cells (irow .u8 (zr 16)) 31)
  have hw : Below w.heap.size w (((w.alloc (.cells (irow .u8 (bl (pm (gb (xorL a b)) (gb a) 16 0))) 31)).alloc (.cells (irow .u8 (bl (b))) 31)).alloc (.cells (irow .u8 (zr 16)) 31)) := ((((Below.refl _ _).alloc (Nat.le_refl _) _).alloc (by simp) _).alloc (by simp; omega) _)

  rw [← pm_zero (gb (xorL a b)) a ha]
  go_enter Try.func46, Try.ntmps46
  go_wp2_with (first | (refine wpList_box rfl 31 _ rfl _ rfl (bR _) ?_) | (refine wpList_alloc rfl 31 rfl (irow .u8 (zr 16)) zR ?_) | fail)
  try simp only [size_alloc1, Act.put, List.setIfInBounds_toArray, List.set_cons_succ, List.set_cons_zero]
  generalize World.alloc _ _ = w0 at *
  rw [pm_zero (gb (xorL a b)) a ha]
  go_loopw [5] (fun i wr => ∃ k : Nat, k ≤ 16 ∧ i = .int .i64 k ∧ wr.heap[w.heap.size]? = some (.cells (irow .u8 (bl (pm (gb (xorL a b)) (gb a) 16 k))) 31 (0, 0)) ∧ wr.heap[w.heap.size + 1]? = some (.cells (irow .u8 (bl (b))) 31 (0, 0)) ∧ wr.heap[w.heap.size + 1 + 1]? = some (.cells (irow .u8 (zr 16)) 31 (0, 0)) ∧ Below w.heap.size w wr) (fun i _ => 16 - (intOf i).toNat)
  case atStart => exact ⟨0, by omega, rfl, R0, R1, R2, hw⟩
  case round =>
    clear R0 R1 R2 hw
    obtain ⟨k, hk, rfl, r0, r1, r2, hw⟩ := hrel
    by_cases hlt : k < 16
    · have hd : decide ((k : Int) < 16) = true := by simp; omega
      have c0 := brow_cell r0 (j := k) (by rw [pm_len]; omega)
      rw [pm_get _ _ _ _ hlt] at c0
      have c1 := brow_cell r1 (j := k) (by omega)
      rw [show b.getD k 0#8 = gb b k from rfl] at c1
      have hx := xor8 (gb a k) (gb b k)
      have hset := hide (pm_set (gb (xorL a b)) (gb a) 16 k hlt)
      rw [show gb (xorL a b) k = gb a k ^^^ gb b k from xorL_get a b hlt] at hset
      generalize gb a k = x0 at *
      generalize gb b k = x1 at *
      go_wp2_with (fail)
      have k0 : ∀ p : Regrown, (grow (redrawn wr p.d) p.os).cell? ⟨w.heap.size, k, none⟩ = some (.int .u8 (bv x0)) := fun p => cell_regrown (c0) p.d p.os
      have k1 : ∀ p : Regrown, (grow (redrawn wr p.d) p.os).cell? ⟨w.heap.size + 1, k, none⟩ = some (.int .u8 (bv x1)) := fun p => cell_regrown (c1) p.d p.os
      refine wp_region_tail (C := fun w' => ∃ p : Regrown, w' = grow (redrawn wr p.d) p.os) 9 _ rfl rfl rfl (by kernel_rfl) (by kernel_rfl) (by kernel_rfl) (by kernel_rfl) ⟨⟨wr.drawn + 1, #[]⟩, by rw [grow_empty]; rfl⟩ ?_
      dsimp only [List.set, idle]
      go_big_quiet_step (fail)
      go_big_quiet_step (fail)
      go_big_quiet_step (fail)
      go_big_quiet_step (fail)
      go_big_quiet_step (fail)
      go_big_quiet_step (fail)
      go_big_quiet_step (fail)
      go_big_quiet_step (fail)
      go_big_quiet_step (fail)
      refine wpQuiet_idle rfl rfl rfl ?_
      rintro _ ⟨p, rfl⟩
      have hb := below_regrown wr p.d p.os
      generalize grow (redrawn wr p.d) p.os = w1 at *
      clear k0 k1
      replace r0 := keep hb r0
      replace r1 := keep hb r1
      replace r2 := keep hb r2
      replace hw := Below.after hw hb
      clear hb

      have cw := brow_cell r0 (j := k) (by rw [pm_len]; omega)
      have hf := row_frozen r0 k
      clear c0 c1
      go_wp2
      refine ⟨⟨k + 1, by omega, by go_num, by rw [← hset.out]; exact brow_set r0 k _, heap_other r1 (by omega), heap_other r2 (by omega), hw.setCell (Nat.le_refl _) _⟩, by simp [intOf]; omega⟩
    · obtain rfl : k = 16 := by omega
      have hd : decide ((16 : Int) < 16) = false := by decide
      rw [pm_full _ _ (xorL_len _ _)] at r0
      clear hk hlt
      have hi9 := info_bl infoR (xorL a b) (xorL_len _ _)
      have hfi : (irow .u8 (zr 16)).size = (irow .u8 (bl (xorL a b))).size := by rw [irow_size, irow_size, bl_len, xorL_len, zr_len]
      go_wp2_with (first | (refine wpList_load_want rfl 31 _ rfl (w.heap.size) rfl 31 (irow .u8 (bl (xorL a b))) (0, 0) _ r0 Try.underlying31 rfl hi9 ?_) | (refine wpList_store_row rfl 31 _ _ rfl (w.heap.size + 1 + 1) (irow .u8 (bl (xorL a b))) rfl rfl 31 _ r2 hi9 hfi (irow_one _ _) ?_) | fail)
      replace r2 := setRow_heap wr (w.heap.size + 1 + 1) _ (irow .u8 (bl (xorL a b))) _ _ r2
      replace hw := below_setRow hw (show w.heap.size ≤ w.heap.size + 1 + 1 by omega) (irow .u8 (bl (xorL a b)))
      generalize wr.setRow (w.heap.size + 1 + 1) (irow .u8 (bl (xorL a b))) = w9 at *
      exact bodyPost_ret (v := .agg (irow .u8 (bl (xorL a b)))) (results_cell_row Try.results46 _ _ (w.heap.size + 1 + 1) _ _ _ _ rfl r2 Try.underlying31 rfl hi9) rfl ⟨rfl, hw⟩


set_option maxRecDepth 100000 in
set_option maxHeartbeats 4000000 in
theorem r_subShift (l : List B) (hl : l.length = 16) : Gives 60 #[.agg (irow .u8 (bl (sbl))), .agg (irow .u8 (bl (l)))] (.agg (irow .u8 (bl (shiftL (subL l))))) := by
  intro w
  have hz : ∀ W : World, (Instr.alloc 31 true (.tuple #[])).run Try.prog W = .ok (.pointer (some ⟨W.heap.size, 0, none⟩)) (W.alloc (.cells (irow .u8 (bl (pt (gb (shiftL (subL l))) 16 (0)))) 31)) := by rw [← zr_pt]; exact zR
  have R0 := hp4_0 w (.cells (irow .u8 (bl (sbl))) 55) (.cells (irow .u8 (bl (l))) 31) (.cells (irow .u8 (bl (pt (gb (shiftL (subL l))) 16 0))) 31) (.cells (irow .u8 (bl (pt (gb (shiftL (subL l))) 16 0))) 31)
  have R1 := hp4_1 w (.cells (irow .u8 (bl (sbl))) 55) (.cells (irow .u8 (bl (l))) 31) (.cells (irow .u8 (bl (pt (gb (shiftL (subL l))) 16 0))) 31) (.cells (irow .u8 (bl (pt (gb (shiftL (subL l))) 16 0))) 31)
  have R2 := hp4_2 w (.cells (irow .u8 (bl (sbl))) 55) (.cells (irow .u8 (bl (l))) 31) (.cells (irow .u8 (bl (pt (gb (shiftL (subL l))) 16 0))) 31) (.cells (irow .u8 (bl (pt (gb (shiftL (subL l))) 16 0))) 31)
  have R3 := hp4_3 w (.cells (irow .u8 (bl (sbl))) 55) (.cells (irow .u8 (bl (l))) 31) (.cells (irow .u8 (bl (pt (gb (shiftL (subL l))) 16 0))) 31) (.cells (irow .u8 (bl (pt (gb (shiftL (subL l))) 16 0))) 31)
  have hw : Below w.heap.size w ((((w.alloc (.cells (irow .u8 (bl (sbl))) 55)).alloc (.cells (irow .u8 (bl (l))) 31)).alloc (.cells (irow .u8 (bl (pt (gb (shiftL (subL l))) 16 0))) 31)).alloc (.cells (irow .u8 (bl (pt (gb (shiftL (subL l))) 16 0))) 31)) := (((((Below.refl _ _).alloc (Nat.le_refl _) _).alloc (by simp) _).alloc (by simp; omega) _).alloc (by simp; omega) _)

  go_enter Try.func60, Try.ntmps60
  go_wp2_with (first | (refine wpList_box rfl 55 _ rfl _ rfl (b256 _) ?_) | (refine wpList_box rfl 31 _ rfl _ rfl (bR _) ?_) | (refine wpList_alloc rfl 31 rfl (irow .u8 (bl (pt (gb (shiftL (subL l))) 16 (0)))) hz ?_) | fail)
  try simp only [size_alloc1, Act.put, List.setIfInBounds_toArray, List.set_cons_succ, List.set_cons_zero]
  clear hz
  generalize World.alloc _ _ = w0 at *
  go_loopw [6] (fun i wr => ∃ c : Nat, c ≤ 4 ∧ i = .int .i64 c ∧ wr.heap[w.heap.size]? = some (.cells (irow .u8 (bl (sbl))) 55 (0, 0)) ∧ wr.heap[w.heap.size + 1]? = some (.cells (irow .u8 (bl (l))) 31 (0, 0)) ∧ wr.heap[w.heap.size + 1 + 1]? = some (.cells (irow .u8 (bl (pt (gb (shiftL (subL l))) 16 (0)))) 31 (0, 0)) ∧ wr.heap[w.heap.size + 1 + 1 + 1]? = some (.cells (irow .u8 (bl (pt (gb (shiftL (subL l))) 16 (4 * c)))) 31 (0, 0)) ∧ Below w.heap.size w wr) (fun i _ => 4 - (intOf i).toNat)
  case atStart => exact ⟨0, by omega, rfl, R0, R1, R2, R3, hw⟩
  case round =>
    clear R0 R1 R2 R3 hw
    obtain ⟨c, hc, rfl, r0, r1, r2, r3, hw⟩ := hrel
    by_cases hlc : c < 4
    · have hd : decide ((c : Int) < 4) = true := by simp; omega
      go_wp2_with (fail)
      go_loopw [7] (fun i wr => ∃ k : Nat, k ≤ 4 ∧ i = .int .i64 k ∧ wr.heap[w.heap.size]? = some (.cells (irow .u8 (bl (sbl))) 55 (0, 0)) ∧ wr.heap[w.heap.size + 1]? = some (.cells (irow .u8 (bl (l))) 31 (0, 0)) ∧ wr.heap[w.heap.size + 1 + 1]? = some (.cells (irow .u8 (bl (pt (gb (shiftL (subL l))) 16 (0)))) 31 (0, 0)) ∧ wr.heap[w.heap.size + 1 + 1 + 1]? = some (.cells (irow .u8 (bl (pt (gb (shiftL (subL l))) 16 (4 * c + k)))) 31 (0, 0)) ∧ Below w.heap.size w wr) (fun i _ => 4 - (intOf i).toNat)
      case atStart => exact ⟨0, by omega, rfl, r0, r1, r2, r3, hw⟩
      case round =>
        clear r0 r1 r2 r3 hw
        obtain ⟨k, hk, rfl, r0, r1, r2, r3, hw⟩ := hrel
        by_cases hlt : k < 4
        · have hd : decide ((k : Int) < 4) = true := by simp; omega
          have hr : ((c : Int) + (k : Int)).tmod 4 = (((c + k) % 4 : Nat) : Int) := by rw [Int.tmod_eq_emod_of_nonneg (by omega)]; rfl
          have c1 := brow_cell r1 (j := k + 4 * ((c + k) % 4)) (by omega)
          have hfv : gb (shiftL (subL l)) (4 * c + k) = sb (l.getD (k + 4 * ((c + k) % 4)) 0#8) := by
            rw [gb, shiftL_get _ (by omega), subL_get _ (by omega), show (4 * c + k) % 4 = k by omega, show (4 * c + k) / 4 = c by omega]
          have c2 := brow_cell r0 (j := (l.getD (k + 4 * ((c + k) % 4)) 0#8).toNat) (by rw [sbl_len]; exact (l.getD (k + 4 * ((c + k) % 4)) 0#8).isLt)
          rw [sbl_get, ← hfv] at c2
          have hset := hide (pt_set (gb (shiftL (subL l))) 16 (4 * c + k) (by omega))
          have n1 := bv_nat (l.getD (k + 4 * ((c + k) % 4)) 0#8)
          have b1 := bnd (l.getD (k + 4 * ((c + k) % 4)) 0#8)
          clear hfv
          generalize l.getD (k + 4 * ((c + k) % 4)) 0#8 = x1 at *
          generalize gb (shiftL (subL l)) (4 * c + k) = x2 at *
          have cw := brow_cell r3 (j := 4 * c + k) (by rw [pt_len]; omega)
          have hf := row_frozen r3 (4 * c + k)
          have hcm : k + 4 * c = 4 * c + k := by omega
          go_wp2
          refine ⟨⟨k + 1, by omega, by go_num, heap_other r0 (by omega), heap_other r1 (by omega), heap_other r2 (by omega), by rw [← Nat.add_assoc, ← hset.out]; exact brow_set r3 (4 * c + k) x2, hw.setCell (show w.heap.size ≤ w.heap.size + 1 + 1 + 1 by omega) _⟩, by simp [intOf]; omega⟩
        · obtain rfl : k = 4 := by omega
          have hd : decide ((4 : Int) < 4) = false := by decide
          go_wp2
          refine ⟨⟨c + 1, by omega, by go_num, r0, r1, r2, r3, hw⟩, by simp [intOf]; omega⟩
    · obtain rfl : c = 4 := by omega
      have hd : decide ((4 : Int) < 4) = false := by decide
      rw [show pt (gb (shiftL (subL l))) 16 (4 * 4) = shiftL (subL l) from pt_self _ (shiftL_len _)] at r3
      clear hc hlc
      have hi9 := info_bl infoR (shiftL (subL l)) (shiftL_len _)
      have hfi : (irow .u8 (bl (pt (gb (shiftL (subL l))) 16 (0)))).size = (irow .u8 (bl (shiftL (subL l)))).size := by rw [irow_size, irow_size, bl_len, bl_len, shiftL_len, pt_len]
      go_wp2_with (first | (refine wpList_load_want rfl 31 _ rfl (w.heap.size + 1 + 1 + 1) rfl 31 (irow .u8 (bl (shiftL (subL l)))) (0, 0) _ r3 Try.underlying31 rfl hi9 ?_) | (refine wpList_store_row rfl 31 _ _ rfl (w.heap.size + 1 + 1) (irow .u8 (bl (shiftL (subL l)))) rfl rfl 31 _ r2 hi9 hfi (irow_one _ _) ?_) | fail)
      replace r2 := setRow_heap wr (w.heap.size + 1 + 1) _ (irow .u8 (bl (shiftL (subL l)))) _ _ r2
      replace hw := below_setRow hw (show w.heap.size ≤ w.heap.size + 1 + 1 by omega) (irow .u8 (bl (shiftL (subL l))))
      generalize wr.setRow (w.heap.size + 1 + 1) (irow .u8 (bl (shiftL (subL l)))) = w9 at *
      exact bodyPost_ret (v := .agg (irow .u8 (bl (shiftL (subL l))))) (results_cell_row Try.results60 _ _ (w.heap.size + 1 + 1) _ _ _ _ rfl r2 Try.underlying31 rfl hi9) rfl ⟨rfl, hw⟩


set_option maxRecDepth 100000 in
set_option maxHeartbeats 4000000 in
theorem r_mix (l : List B) (hl : l.length = 16) : Gives 59 #[.agg (irow .u8 (bl (l)))] (.agg (irow .u8 (bl (mixL l)))) := by
  intro w
  have hz : ∀ W : World, (Instr.alloc 31 true (.tuple #[])).run Try.prog W = .ok (.pointer (some ⟨W.heap.size, 0, none⟩)) (W.alloc (.cells (irow .u8 (bl (pt (gb (mixL l)) 16 (0)))) 31)) := by rw [← zr_pt]; exact zR
  have R0 := hp3_0 w (.cells (irow .u8 (bl (l))) 31) (.cells (irow .u8 (bl (pt (gb (mixL l)) 16 (0)))) 31) (.cells (irow .u8 (bl (pt (gb (mixL l)) 16 (0)))) 31)
  have R1 := hp3_1 w (.cells (irow .u8 (bl (l))) 31) (.cells (irow .u8 (bl (pt (gb (mixL l)) 16 (0)))) 31) (.cells (irow .u8 (bl (pt (gb (mixL l)) 16 (0)))) 31)
  have R2 := hp3_2 w (.cells (irow .u8 (bl (l))) 31) (.cells (irow .u8 (bl (pt (gb (mixL l)) 16 (0)))) 31) (.cells (irow .u8 (bl (pt (gb (mixL l)) 16 (0)))) 31)
  have hw : Below w.heap.size w (((w.alloc (.cells (irow .u8 (bl (l))) 31)).alloc (.cells (irow .u8 (bl (pt (gb (mixL l)) 16 (0)))) 31)).alloc (.cells (irow .u8 (bl (pt (gb (mixL l)) 16 (0)))) 31)) := ((((Below.refl _ _).alloc (Nat.le_refl _) _).alloc (by simp) _).alloc (by simp; omega) _)

  go_enter Try.func59, Try.ntmps59
  go_wp2_with (first | (refine wpList_box rfl 31 _ rfl _ rfl (bR _) ?_) | (refine wpList_alloc rfl 31 rfl (irow .u8 (bl (pt (gb (mixL l)) 16 (0)))) hz ?_) | fail)
  try simp only [size_alloc1, Act.put, List.setIfInBounds_toArray, List.set_cons_succ, List.set_cons_zero]
  clear hz
  generalize World.alloc _ _ = w0 at *
  go_loopw [4] (fun i wr => ∃ c : Nat, c ≤ 4 ∧ i = .int .i64 c ∧ wr.heap[w.heap.size]? = some (.cells (irow .u8 (bl (l))) 31 (0, 0)) ∧ wr.heap[w.heap.size + 1]? = some (.cells (irow .u8 (bl (pt (gb (mixL l)) 16 (0)))) 31 (0, 0)) ∧ wr.heap[w.heap.size + 1 + 1]? = some (.cells (irow .u8 (bl (pt (gb (mixL l)) 16 (4 * c)))) 31 (0, 0)) ∧ Below w.heap.size w wr) (fun i _ => 4 - (intOf i).toNat)
  case atStart => exact ⟨0, by omega, rfl, R0, R1, R2, hw⟩
  case round =>
    clear R0 R1 R2 hw
    obtain ⟨c, hc, rfl, r0, r1, r2, hw⟩ := hrel
    by_cases hlc : c < 4
    · have hd : decide ((c : Int) < 4) = true := by simp; omega
      go_wp2_with (fail)
      go_loopw [5] (fun i wr => ∃ k : Nat, k ≤ 4 ∧ i = .int .i64 k ∧ wr.heap[w.heap.size]? = some (.cells (irow .u8 (bl (l))) 31 (0, 0)) ∧ wr.heap[w.heap.size + 1]? = some (.cells (irow .u8 (bl (pt (gb (mixL l)) 16 (0)))) 31 (0, 0)) ∧ wr.heap[w.heap.size + 1 + 1]? = some (.cells (irow .u8 (bl (pt (gb (mixL l)) 16 (4 * c + k)))) 31 (0, 0)) ∧ Below w.heap.size w wr) (fun i _ => 4 - (intOf i).toNat)
      case atStart => exact ⟨0, by omega, rfl, r0, r1, r2, hw⟩
      case round =>
        clear r0 r1 r2 hw
        obtain ⟨k, hk, rfl, r0, r1, r2, hw⟩ := hrel
        by_cases hlt : k < 4
        · have hd : decide ((k : Int) < 4) = true := by simp; omega
          have hr1 : ((k : Int) + 1).tmod 4 = (((k + 1) % 4 : Nat) : Int) := by rw [Int.tmod_eq_emod_of_nonneg (by omega)]; rfl
          have hr2 : ((k : Int) + 2).tmod 4 = (((k + 2) % 4 : Nat) : Int) := by rw [Int.tmod_eq_emod_of_nonneg (by omega)]; rfl
          have hr3 : ((k : Int) + 3).tmod 4 = (((k + 3) % 4 : Nat) : Int) := by rw [Int.tmod_eq_emod_of_nonneg (by omega)]; rfl
          have hfv : gb (mixL l) (4 * c + k) = dbl (l.getD (4 * c + k) 0#8) ^^^ dbl (l.getD (4 * c + (k + 1) % 4) 0#8) ^^^ l.getD (4 * c + (k + 1) % 4) 0#8 ^^^ l.getD (4 * c + (k + 2) % 4) 0#8 ^^^ l.getD (4 * c + (k + 3) % 4) 0#8 := by
            have h1 : gb (mixL l) (4 * c + k) = mg (mixL l) c k := by unfold gb mg; rw [Nat.mod_eq_of_lt hlt]
            rw [h1, mg_mix _ _ _ hlc]
            unfold mg
            rw [Nat.mod_eq_of_lt hlt]
          have q0 := brow_cell r0 (j := 4 * c + k) (by omega)
          have q1 := brow_cell r0 (j := 4 * c + (k + 1) % 4) (by omega)
          have q2 := brow_cell r0 (j := 4 * c + (k + 2) % 4) (by omega)
          have q3 := brow_cell r0 (j := 4 * c + (k + 3) % 4) (by omega)
          have hset := hide (pt_set (gb (mixL l)) 16 (4 * c + k) (by omega))
          rw [hfv] at hset
          clear hfv
          have hq2 : Hid (∀ W : World, W.heap[w.heap.size]? = some (.cells (irow .u8 (bl (l))) 31 (0, 0)) → W.cell? ⟨w.heap.size, 4 * c + (k + 2) % 4, none⟩ = some (.int .u8 (bv (l.getD (4 * c + (k + 2) % 4) 0#8)))) := hide (fun W h => brow_cell h (by omega))
          have hq3 : Hid (∀ W : World, W.heap[w.heap.size]? = some (.cells (irow .u8 (bl (l))) 31 (0, 0)) → W.cell? ⟨w.heap.size, 4 * c + (k + 3) % 4, none⟩ = some (.int .u8 (bv (l.getD (4 * c + (k + 3) % 4) 0#8)))) := hide (fun W h => brow_cell h (by omega))
          generalize l.getD (4 * c + k) 0#8 = x0 at *
          generalize l.getD (4 * c + (k + 1) % 4) 0#8 = x1 at *
          generalize l.getD (4 * c + (k + 2) % 4) 0#8 = x2 at *
          generalize l.getD (4 * c + (k + 3) % 4) 0#8 = x3 at *
          have d0 := r_double x0
          have d1 := r_double x1
          have e1 := xor8 (dbl x0) (dbl x1)
          have e2 := xor8 (dbl x0 ^^^ dbl x1) x1
          have e3 := xor8 (dbl x0 ^^^ dbl x1 ^^^ x1) x2
          have e4 := xor8 (dbl x0 ^^^ dbl x1 ^^^ x1 ^^^ x2) x3
          generalize dbl x0 ^^^ dbl x1 ^^^ x1 ^^^ x2 ^^^ x3 = y4 at *
          generalize dbl x0 ^^^ dbl x1 ^^^ x1 ^^^ x2 = y3 at *
          generalize dbl x0 ^^^ dbl x1 ^^^ x1 = y2 at *
          generalize dbl x0 ^^^ dbl x1 = y1 at *
          go_wp2_with (fail)
          have k0 : ∀ p : Regrown, (grow (redrawn wr p.d) p.os).cell? ⟨w.heap.size, 4 * c + k, none⟩ = some (.int .u8 (bv x0)) := fun p => cell_regrown (q0) p.d p.os
          have k1 : ∀ p : Regrown, (grow (redrawn wr p.d) p.os).cell? ⟨w.heap.size, 4 * c + (k + 1) % 4, none⟩ = some (.int .u8 (bv x1)) := fun p => cell_regrown (q1) p.d p.os
          refine wp_region_quiet_below (by kernel_rfl) (by kernel_rfl) ?_
          go_big_quiet_step (fail)
          go_big_quiet_step (fail)
          go_big_quiet_step (fail)
          go_big_quiet_step (fail)
          go_big_quiet_step (fail)
          go_big_quiet_step (fail)
          go_big_quiet_step (fail)
          go_big_quiet_step (fail)
          go_big_quiet_step (fail)
          go_big_quiet_step (fail)
          go_big_quiet_step (fail)
          go_big_quiet_step (fail)
          go_big_quiet_step (fail)
          go_big_quiet_step (fail)
          go_big_quiet_step (fail)
          go_big_quiet_step (fail)
          refine wpQuiet_nil ?_
          rintro _ ⟨p, rfl⟩
          have hb := below_regrown wr p.d p.os
          generalize grow (redrawn wr p.d) p.os = w1 at *
          clear k0 k1
          replace r0 := keep hb r0
          replace r1 := keep hb r1
          replace r2 := keep hb r2
          replace hw := Below.after hw hb
          clear hb

          have q4 : w1.cell? ⟨w.heap.size, 4 * c + (k + 2) % 4, none⟩ = some (.int .u8 (bv x2)) := hq2.out w1 r0
          have q5 : w1.cell? ⟨w.heap.size, 4 * c + (k + 3) % 4, none⟩ = some (.int .u8 (bv x3)) := hq3.out w1 r0
          clear q0 q1 q2 q3
          go_wp2_with (fail)
          have k2 : ∀ p : Regrown, (grow (redrawn w1 p.d) p.os).cell? ⟨w.heap.size, 4 * c + (k + 2) % 4, none⟩ = some (.int .u8 (bv x2)) := fun p => cell_regrown (q4) p.d p.os
          have k3 : ∀ p : Regrown, (grow (redrawn w1 p.d) p.os).cell? ⟨w.heap.size, 4 * c + (k + 3) % 4, none⟩ = some (.int .u8 (bv x3)) := fun p => cell_regrown (q5) p.d p.os
          refine wp_region_tail (C := fun w' => ∃ p : Regrown, w' = grow (redrawn w1 p.d) p.os) 30 _ rfl rfl rfl (by kernel_rfl) (by kernel_rfl) (by kernel_rfl) (by kernel_rfl) ⟨⟨w1.drawn + 1, #[]⟩, by rw [grow_empty]; rfl⟩ ?_
          dsimp only [List.set, idle]
          go_big_quiet_step (fail)
          go_big_quiet_step (fail)
          go_big_quiet_step (fail)
          go_big_quiet_step (fail)
          go_big_quiet_step (fail)
          go_big_quiet_step (exact d0.re)
          go_big_quiet_step (fail)
          go_big_quiet_step (exact d1.re)
          go_big_quiet_step (fail)
          go_big_quiet_step (fail)
          go_big_quiet_step (fail)
          go_big_quiet_step (fail)
          go_big_quiet_step (fail)
          go_big_quiet_step (fail)
          go_big_quiet_step (fail)
          go_big_quiet_step (fail)
          go_big_quiet_step (fail)
          go_big_quiet_step (fail)
          go_big_quiet_step (fail)
          go_big_quiet_step (fail)
          go_big_quiet_step (fail)
          go_big_quiet_step (fail)
          go_big_quiet_step (fail)
          go_big_quiet_step (fail)
          go_big_quiet_step (fail)
          go_big_quiet_step (fail)
          go_big_quiet_step (fail)
          go_big_quiet_step (fail)
          go_big_quiet_step (fail)
          go_big_quiet_step (fail)
          refine wpQuiet_idle rfl rfl rfl ?_
          rintro _ ⟨p, rfl⟩
          have hb := below_regrown w1 p.d p.os
          generalize grow (redrawn w1 p.d) p.os = w2 at *
          clear k2 k3
          replace r0 := keep hb r0
          replace r1 := keep hb r1
          replace r2 := keep hb r2
          replace hw := Below.after hw hb
          clear hb

          have cw := brow_cell r2 (j := 4 * c + k) (by rw [pt_len]; omega)
          have hf := row_frozen r2 (4 * c + k)
          clear q4 q5 hq2 hq3
          go_wp2
          refine ⟨⟨k + 1, by omega, by go_num, heap_other r0 (by omega), heap_other r1 (by omega), by rw [← Nat.add_assoc, ← hset.out]; exact brow_set r2 (4 * c + k) _, hw.setCell (show w.heap.size ≤ w.heap.size + 1 + 1 by omega) _⟩, by simp [intOf]; omega⟩
        · obtain rfl : k = 4 := by omega
          have hd : decide ((4 : Int) < 4) = false := by decide
          go_wp2
          refine ⟨⟨c + 1, by omega, by go_num, r0, r1, r2, hw⟩, by simp [intOf]; omega⟩
    · obtain rfl : c = 4 := by omega
      have hd : decide ((4 : Int) < 4) = false := by decide
      rw [show pt (gb (mixL l)) 16 (4 * 4) = mixL l from pt_self _ (mix_len _)] at r2
      clear hc hlc
      have hi9 := info_bl infoR (mixL l) (mix_len _)
      have hfi : (irow .u8 (bl (pt (gb (mixL l)) 16 (0)))).size = (irow .u8 (bl (mixL l))).size := by rw [irow_size, irow_size, bl_len, bl_len, mix_len, pt_len]
      go_wp2_with (first | (refine wpList_load_want rfl 31 _ rfl (w.heap.size + 1 + 1) rfl 31 (irow .u8 (bl (mixL l))) (0, 0) _ r2 Try.underlying31 rfl hi9 ?_) | (refine wpList_store_row rfl 31 _ _ rfl (w.heap.size + 1) (irow .u8 (bl (mixL l))) rfl rfl 31 _ r1 hi9 hfi (irow_one _ _) ?_) | fail)
      replace r1 := setRow_heap wr (w.heap.size + 1) _ (irow .u8 (bl (mixL l))) _ _ r1
      replace hw := below_setRow hw (show w.heap.size ≤ w.heap.size + 1 by omega) (irow .u8 (bl (mixL l)))
      generalize wr.setRow (w.heap.size + 1) (irow .u8 (bl (mixL l))) = w9 at *
      exact bodyPost_ret (v := .agg (irow .u8 (bl (mixL l)))) (results_cell_row Try.results59 _ _ (w.heap.size + 1) _ _ _ _ rfl r1 Try.underlying31 rfl hi9) rfl ⟨rfl, hw⟩


set_option maxRecDepth 100000 in
set_option maxHeartbeats 4000000 in
theorem r_unmix (l : List B) (hl : l.length = 16) : Gives 47 #[.agg (irow .u8 (bl (l)))] (.agg (irow .u8 (bl (unmixL l)))) := by
  intro w
  have R0 := hp2_0 w (.cells (irow .u8 (bl (l))) 31) (.cells (irow .u8 (zr 16)) 31)
  have R1 := hp2_1 w (.cells (irow .u8 (bl (l))) 31) (.cells (irow .u8 (zr 16)) 31)
  have hw : Below w.heap.size w ((w.alloc (.cells (irow .u8 (bl (l))) 31)).alloc (.cells (irow .u8 (zr 16)) 31)) := (((Below.refl _ _).alloc (Nat.le_refl _) _).alloc (by simp) _)

  have hi0 := info_bl infoR l hl
  have hi9 := info_bl infoR (unmixL l) (unmix_len _)
  have hfi : (irow .u8 (zr 16)).size = (irow .u8 (bl (unmixL l))).size := by rw [irow_size, irow_size, bl_len, unmix_len, zr_len]
  have c1 := r_mix l hl
  have c2 := r_mix (mixL l) (mix_len _)
  have c3 := r_mix (mixL (mixL l)) (mix_len _)
  go_enter Try.func47, Try.ntmps47
  go_wp2_with (first | (refine wpList_box rfl 31 _ rfl _ rfl (bR _) ?_) | (refine wpList_alloc rfl 31 rfl (irow .u8 (zr 16)) zR ?_) | (refine wpList_load_want rfl 31 _ rfl (w.heap.size) rfl 31 (irow .u8 (bl (l))) (0, 0) _ R0 Try.underlying31 rfl hi0 ?_) | fail)
  try simp only [size_alloc1, Act.put, List.setIfInBounds_toArray, List.set_cons_succ, List.set_cons_zero]
  generalize World.alloc _ _ = w0 at *
  refine (c1.at _).mono ?_
  rintro e_ w1 ⟨rfl, hb⟩
  replace R1 := keep hb R1
  replace hw := Below.after hw hb
  clear hb

  go_wp2_with (fail)
  refine (c2.at _).mono ?_
  rintro e_ w2 ⟨rfl, hb⟩
  replace R1 := keep hb R1
  replace hw := Below.after hw hb
  clear hb

  go_wp2_with (fail)
  refine (c3.at _).mono ?_
  rintro e_ w3 ⟨rfl, hb⟩
  replace R1 := keep hb R1
  replace hw := Below.after hw hb
  clear hb

  go_wp2_with (first | (refine wpList_store_row rfl 31 _ _ rfl (w.heap.size + 1) (irow .u8 (bl (unmixL l))) rfl rfl 31 _ R1 hi9 hfi (irow_one _ _) ?_) | fail)
  replace R1 := setRow_heap w3 (w.heap.size + 1) _ (irow .u8 (bl (unmixL l))) _ _ R1
  replace hw := below_setRow hw (show w.heap.size ≤ w.heap.size + 1 by omega) (irow .u8 (bl (unmixL l)))
  generalize w3.setRow (w.heap.size + 1) (irow .u8 (bl (unmixL l))) = w9 at *
  exact bodyPost_ret (v := .agg (irow .u8 (bl (unmixL l)))) (results_cell_row Try.results47 _ _ (w.heap.size + 1) _ _ _ _ rfl R1 Try.underlying31 rfl hi9) rfl ⟨rfl, hw⟩

end Go.Proofs.Ytmldmlbmfbdjoaa


namespace Go.Proofs.Ytmldmlbmfbdjoaa
open Go Go.RowKit Go.Sort
attribute [local go_sem] setCell_drewN alloc_drewN


/-! A column written byte by byte. -/
def xc (x : B × B × B × B) : Nat → B
  | 0 => x.1
  | 1 => x.2.1
  | 2 => x.2.2.1
  | _ => x.2.2.2
def pj (l : List B) (i : Nat) (x : B × B × B × B) : Nat → List B
  | 0 => l
  | j + 1 => (pj l i x j).set (4 * i + j) (xc x j)
theorem pj_len (l : List B) (i : Nat) (x : B × B × B × B) (j : Nat) : (pj l i x j).length = l.length := by
  induction j with
  | zero => rfl
  | succ j ih => rw [pj, List.length_set, ih]
theorem pj_four (l : List B) (i : Nat) (x : B × B × B × B) : pj l i x 4 = put4 l i x := rfl
theorem pj_low (l : List B) (i : Nat) (x : B × B × B × B) (j n : Nat) (h : n < 4 * i) : (pj l i x j).getD n 0#8 = l.getD n 0#8 := by
  induction j with
  | zero => rfl
  | succ j ih => rw [pj, List.getD_eq_getElem?_getD, List.getElem?_set, if_neg (by omega), ← List.getD_eq_getElem?_getD, ih]
theorem col_get (l : List B) (i j : Nat) (h : j < 4) : l.getD (4 * i + j) 0#8 = xc (colOf l i) j := by
  rcases (show j = 0 ∨ j = 1 ∨ j = 2 ∨ j = 3 by omega) with rfl | rfl | rfl | rfl <;> rfl
theorem xc_xor (x y : B × B × B × B) (j : Nat) (h : j < 4) : xc (xorC x y) j = xc x j ^^^ xc y j := by
  rcases (show j = 0 ∨ j = 1 ∨ j = 2 ∨ j = 3 by omega) with rfl | rfl | rfl | rfl <;> rfl
def L4 (x : B × B × B × B) : List B := [x.1, x.2.1, x.2.2.1, x.2.2.2]
theorem L4_len (x : B × B × B × B) : (L4 x).length = 4 := rfl
theorem L4_get (x : B × B × B × B) (j : Nat) (h : j < 4) : (L4 x).getD j 0#8 = xc x j := by
  rcases (show j = 0 ∨ j = 1 ∨ j = 2 ∨ j = 3 by omega) with rfl | rfl | rfl | rfl <;> rfl
theorem bl_col (l : List B) (hl : l.length = 240) (i : Nat) (h : i < 60) : (irow .u8 (bl (l))).extract (i * 4) (i * 4 + (irow .u8 (bl (L4 (colOf l i)))).size) = (irow .u8 (bl (L4 (colOf l i)))) := by
  apply Array.ext_getElem?
  intro j
  rw [irow_size, bl_len, L4_len, Array.getElem?_extract]
  by_cases hj : j < 4
  · rw [if_pos (by rw [irow_size, bl_len, hl]; omega), irow_get _ _ _ (by rw [bl_len, hl]; omega), irow_get _ _ _ (by rw [bl_len]; exact hj), bl_get, bl_get, L4_get _ _ hj, ← col_get l i j hj, Nat.mul_comm i 4]
  · rw [if_neg (by omega), Array.getElem?_eq_none (by rw [irow_size, bl_len, L4_len]; omega)]
theorem mrk_low (k : Nat) (h : k < 8) : mrk (k + 1) = mrk k := by
  unfold mrk; rw [show (k + 1 - 1) / 8 = (k - 1) / 8 by omega]
theorem ks_lown (key : List B) (k : Nat) (h : k < 8) : ks key (k + 1) = put4 (ks key k) k (colOf key k) := by
  rw [ks, colK, if_pos h]
theorem pt_selfn (l : List B) (n : Nat) (hl : l.length = n) : pt (gb l) n n = l := by
  apply List.ext_getElem (by rw [pt_len, hl])
  intro i h1 h2
  have e := pt_get (gb l) n n (j := i) (by omega) (by omega)
  rw [List.getD_eq_getElem?_getD, List.getElem?_eq_getElem h1] at e
  rw [gb, List.getD_eq_getElem?_getD, List.getElem?_eq_getElem h2] at e
  exact e
theorem z83 (W : World) : (Instr.alloc 83 true (.tuple #[])).run Try.prog W = .ok (.pointer (some ⟨W.heap.size, 0, none⟩)) (W.alloc (.cells (irow .u8 (zr 240)) 83)) := by kernel_rfl
theorem z32 (W : World) : (Instr.alloc 32 true (.tuple #[])).run Try.prog W = .ok (.pointer (some ⟨W.heap.size, 0, none⟩)) (W.alloc (.cells (irow .u8 (zr 240)) 32)) := by kernel_rfl
theorem z82 (W : World) : (Instr.alloc 82 true (.tuple #[])).run Try.prog W = .ok (.pointer (some ⟨W.heap.size, 0, none⟩)) (W.alloc (.cells (irow .u8 (zr 4)) 82)) := by kernel_rfl
theorem info82 : (Try.prog.info? 82).map (·.size) = some 4 := by kernel_rfl
theorem info32 : (Try.prog.info? 32).map (·.size) = some 240 := by kernel_rfl
theorem built82 (a b c d : Int) : Try.prog.built 82 [(0, .int .u8 a), (1, .int .u8 b), (2, .int .u8 c), (3, .int .u8 d)] = some #[.int .u8 a, .int .u8 b, .int .u8 c, .int .u8 d] := by kernel_rfl
theorem built_L4 (a b c d : B) (T : B × B × B × B) (h : T = (a, b, c, d)) : Try.prog.built 82 [(0, .int .u8 (bv a)), (1, .int .u8 (bv b)), (2, .int .u8 (bv c)), (3, .int .u8 (bv d))] = some (irow .u8 (bl (L4 T))) := by
  subst h; exact built82 _ _ _ _

set_option maxRecDepth 100000 in
set_option maxHeartbeats 8000000 in
theorem r_keysBy (key : List B) (hl : key.length = 32) : Gives 35 #[.agg (irow .u8 (bl (sbl))), .agg (irow .u8 (bl (key)))] (.agg (irow .u8 (bl (ks key 60)))) := by
  intro w
  have hz : ∀ W : World, (Instr.alloc 83 true (.tuple #[])).run Try.prog W = .ok (.pointer (some ⟨W.heap.size, 0, none⟩)) (W.alloc (.cells (irow .u8 (bl (ks key 0))) 83)) := by rw [ks, bl_zr]; exact z83
  have R0 := hp4_0 w (.cells (irow .u8 (bl (sbl))) 55) (.cells (irow .u8 (bl (key))) 26) (.cells (irow .u8 (zr 240)) 32) (.cells (irow .u8 (bl (ks key 0))) 83)
  have R1 := hp4_1 w (.cells (irow .u8 (bl (sbl))) 55) (.cells (irow .u8 (bl (key))) 26) (.cells (irow .u8 (zr 240)) 32) (.cells (irow .u8 (bl (ks key 0))) 83)
  have R2 := hp4_2 w (.cells (irow .u8 (bl (sbl))) 55) (.cells (irow .u8 (bl (key))) 26) (.cells (irow .u8 (zr 240)) 32) (.cells (irow .u8 (bl (ks key 0))) 83)
  have R3 := hp4_3 w (.cells (irow .u8 (bl (sbl))) 55) (.cells (irow .u8 (bl (key))) 26) (.cells (irow .u8 (zr 240)) 32) (.cells (irow .u8 (bl (ks key 0))) 83)
  have hw : Below w.heap.size w ((((w.alloc (.cells (irow .u8 (bl (sbl))) 55)).alloc (.cells (irow .u8 (bl (key))) 26)).alloc (.cells (irow .u8 (zr 240)) 32)).alloc (.cells (irow .u8 (bl (ks key 0))) 83)) := (((((Below.refl _ _).alloc (Nat.le_refl _) _).alloc (by simp) _).alloc (by simp; omega) _).alloc (by simp; omega) _)

  go_enter Try.func35, Try.ntmps35
  go_wp2_with (first | (refine wpList_box rfl 55 _ rfl _ rfl (b256 _) ?_) | (refine wpList_box rfl 26 _ rfl _ rfl (bKey _) ?_) | (refine wpList_alloc rfl 32 rfl (irow .u8 (zr 240)) z32 ?_) | (refine wpList_alloc rfl 83 rfl (irow .u8 (bl (ks key 0))) hz ?_) | fail)
  try simp only [size_alloc1, Act.put, List.setIfInBounds_toArray, List.set_cons_succ, List.set_cons_zero]
  clear hz
  generalize World.alloc _ _ = w0 at *
  go_loopw [6, 7] (fun m i wr => ∃ k : Nat, k ≤ 60 ∧ i = .int .i64 k ∧ m = .int .u8 (bv (mrk k)) ∧ wr.heap[w.heap.size]? = some (.cells (irow .u8 (bl (sbl))) 55 (0, 0)) ∧ wr.heap[w.heap.size + 1]? = some (.cells (irow .u8 (bl (key))) 26 (0, 0)) ∧ wr.heap[w.heap.size + 1 + 1]? = some (.cells (irow .u8 (zr 240)) 32 (0, 0)) ∧ wr.heap[w.heap.size + 1 + 1 + 1]? = some (.cells (irow .u8 (bl (ks key k))) 83 (0, 0)) ∧ Below w.heap.size w wr) (fun _ i _ => 60 - (intOf i).toNat)
  case atStart => exact ⟨0, by omega, rfl, rfl, R0, R1, R2, R3, hw⟩
  case round =>
    clear R0 R1 R2 R3 hw
    obtain ⟨k, hk, rfl, rfl, r0, r1, r2, r3, hw⟩ := hrel
    by_cases hlt : k < 60
    · have hd : decide ((k : Int) < 60) = true := by simp; omega
      by_cases h8 : k < 8
      · have hd8 : decide ((k : Int) < 8) = true := by simp; omega
        have hmn := hide (mrk_low k h8)
        have hkn := hide (ks_lown key k h8)
        go_wp2_with (fail)
        go_loopw [8] (fun i wr => ∃ j : Nat, j ≤ 4 ∧ i = .int .i64 j ∧ wr.heap[w.heap.size]? = some (.cells (irow .u8 (bl (sbl))) 55 (0, 0)) ∧ wr.heap[w.heap.size + 1]? = some (.cells (irow .u8 (bl (key))) 26 (0, 0)) ∧ wr.heap[w.heap.size + 1 + 1]? = some (.cells (irow .u8 (zr 240)) 32 (0, 0)) ∧ wr.heap[w.heap.size + 1 + 1 + 1]? = some (.cells (irow .u8 (bl (pj (ks key k) k (colOf key k) j))) 83 (0, 0)) ∧ Below w.heap.size w wr) (fun i _ => 4 - (intOf i).toNat)
        case atStart => exact ⟨0, by omega, rfl, r0, r1, r2, r3, hw⟩
        case round =>
          clear r0 r1 r2 r3 hw
          obtain ⟨j, hj, rfl, r0, r1, r2, r3, hw⟩ := hrel
          by_cases hj4 : j < 4
          · have hdj : decide ((j : Int) < 4) = true := by simp; omega
            have c1 := brow_cell r1 (j := 4 * k + j) (by omega)
            rw [col_get _ _ _ hj4] at c1
            have hset : Hid (pj (ks key k) k (colOf key k) (j + 1) = (pj (ks key k) k (colOf key k) j).set (4 * k + j) (xc (colOf key k) j)) := hide rfl
            generalize xc (colOf key k) j = x1 at *
            go_wp2_with (fail)
            have k1 : ∀ p : Regrown, (grow (redrawn wr p.d) p.os).cell? ⟨w.heap.size + 1, 4 * k + j, none⟩ = some (.int .u8 (bv x1)) := fun p => cell_regrown (c1) p.d p.os
            refine wp_region_tail (C := fun w' => ∃ p : Regrown, w' = grow (redrawn wr p.d) p.os) 10 _ rfl rfl rfl (by kernel_rfl) (by kernel_rfl) (by kernel_rfl) (by kernel_rfl) ⟨⟨wr.drawn + 1, #[]⟩, by rw [grow_empty]; rfl⟩ ?_
            dsimp only [List.set, idle]
            go_big_quiet_step (fail)
            go_big_quiet_step (fail)
            go_big_quiet_step (fail)
            go_big_quiet_step (fail)
            go_big_quiet_step (fail)
            go_big_quiet_step (fail)
            go_big_quiet_step (fail)
            go_big_quiet_step (fail)
            go_big_quiet_step (fail)
            go_big_quiet_step (fail)
            refine wpQuiet_idle rfl rfl rfl ?_
            rintro _ ⟨p, rfl⟩
            have hb := below_regrown wr p.d p.os
            generalize grow (redrawn wr p.d) p.os = w8 at *
            clear k1
            replace r0 := keep hb r0
            replace r1 := keep hb r1
            replace r2 := keep hb r2
            replace r3 := keep hb r3
            replace hw := Below.after hw hb
            clear hb

            have cw := brow_cell r3 (j := 4 * k + j) (by rw [pj_len, ks_len]; omega)
            have hf := row_frozen r3 (4 * k + j)
            rw [Nat.mul_comm 4 k] at cw hf
            clear c1
            go_wp2
            refine ⟨⟨j + 1, by omega, by go_num, heap_other r0 (by omega), heap_other r1 (by omega), heap_other r2 (by omega), by rw [hset.out, Nat.mul_comm 4 k]; exact brow_set r3 (k * 4 + j) _, hw.setCell (show w.heap.size ≤ w.heap.size + 1 + 1 + 1 by omega) _⟩, by simp [intOf]; omega⟩
          · obtain rfl : j = 4 := by omega
            have hdj : decide ((4 : Int) < 4) = false := by decide
            rw [pj_four, ← hkn.out] at r3
            clear hj hj4
            go_wp2
            refine ⟨⟨k + 1, by omega, by go_num, by rw [hmn.out], r0, r1, r2, r3, hw⟩, by simp [intOf]; omega⟩
      · have hd8 : decide ((k : Int) < 8) = false := by simp; omega
        have hk8 : 8 ≤ k := by omega
        have hm8 : (k : Int).tmod 8 = ((k % 8 : Nat) : Int) := by rw [Int.tmod_eq_emod_of_nonneg (by omega)]; rfl
        have hm4 : (k : Int).tmod 4 = ((k % 4 : Nat) : Int) := by rw [Int.tmod_eq_emod_of_nonneg (by omega)]; rfl
        have hpart := bl_col (ks key k) (ks_len _ _) (k - 1) (by omega)
        have hkn := hide (ks_next key k hk8)
        have hmn := hide (mrk_next k hk8)
        obtain ⟨E, hE0⟩ : ∃ E, E = colOf (ks key k) (k - 8) := ⟨_, rfl⟩
        have hE : Hid (∀ j < 4, (ks key k).getD (4 * (k - 8) + j) 0#8 = xc E j) := hide (fun j h => by rw [hE0]; exact col_get _ _ _ h)
        rw [← hE0] at hkn
        clear hE0
        obtain ⟨xa, xb, xc_, xd, hx4⟩ : ∃ a b c d, colOf (ks key k) (k - 1) = (a, b, c, d) := ⟨_, _, _, _, rfl⟩
        rw [hx4] at hpart hkn
        clear hx4
        have hiX := info_bl info82 (L4 (xa, xb, xc_, xd)) (L4_len _)
        have RX := hp1_0 wr (.cells (irow .u8 (zr 4)) 82)
        have HB : Below wr.heap.size wr (wr.alloc (.cells (irow .u8 (zr 4)) 82)) := (Below.refl _ _).alloc (Nat.le_refl _) _
        have hfX : (irow .u8 (zr 4)).size = (irow .u8 (bl (L4 (xa, xb, xc_, xd)))).size := by rw [irow_size, irow_size, zr_len, bl_len, L4_len]
        have bm := bnd (mrk k)
        go_wp2_with (first | (refine wpList_load_part rfl 82 _ rfl (w.heap.size + 1 + 1 + 1) ((k - 1) * 4) rfl 83 (irow .u8 (bl (ks key k))) (0, 0) (irow .u8 (bl (L4 (xa, xb, xc_, xd)))) _ r3 hpart Try.underlying82 rfl hiX ?_) | (refine wpList_alloc rfl 82 rfl (irow .u8 (zr 4)) z82 ?_) | (refine wpList_store_row rfl 82 _ _ rfl (wr.heap.size) (irow .u8 (bl (L4 (xa, xb, xc_, xd)))) rfl rfl 82 _ RX hiX hfX (irow_one _ _) ?_; refine wpList_stay ?_) | fail)
        unfold WpStay
        have l0 := lt_of_row r0
        have l1 := lt_of_row r1
        have l2 := lt_of_row r2
        have l3 := lt_of_row r3
        have hsz := hw.size
        replace r0 := (setRow_other _ (wr.heap.size) (w.heap.size) (irow .u8 (bl (L4 (xa, xb, xc_, xd)))) (by omega)).trans (keep HB r0)
        replace r1 := (setRow_other _ (wr.heap.size) (w.heap.size + 1) (irow .u8 (bl (L4 (xa, xb, xc_, xd)))) (by omega)).trans (keep HB r1)
        replace r2 := (setRow_other _ (wr.heap.size) (w.heap.size + 1 + 1) (irow .u8 (bl (L4 (xa, xb, xc_, xd)))) (by omega)).trans (keep HB r2)
        replace r3 := (setRow_other _ (wr.heap.size) (w.heap.size + 1 + 1 + 1) (irow .u8 (bl (L4 (xa, xb, xc_, xd)))) (by omega)).trans (keep HB r3)
        have rX := setRow_heap _ (wr.heap.size) _ (irow .u8 (bl (L4 (xa, xb, xc_, xd)))) _ _ RX
        replace hw := below_setRow (Below.after hw HB) hsz (irow .u8 (bl (L4 (xa, xb, xc_, xd))))
        clear RX HB hfX hiX hpart hsz
        generalize World.setRow _ (wr.heap.size) (irow .u8 (bl (L4 (xa, xb, xc_, xd)))) = w1 at *
        generalize wr.heap.size = gX at *
        by_cases h80 : k % 8 = 0
        · have hd80 : decide (((k % 8 : Nat) : Int) = 0) = true := by rw [h80]; rfl
          rw [if_pos h80] at hmn
          obtain ⟨T, hT⟩ : ∃ T, T = turnC k (xa, xb, xc_, xd) := ⟨_, rfl⟩
          rw [← hT] at hkn
          have hTT : T = (sb xb ^^^ mrk k, sb xc_, sb xd, sb xa) := by rw [hT, turnC, if_pos h80]
          clear hT
          have d0 := brow_cell rX (j := 0) (by rw [L4_len]; omega)
          have d1 := brow_cell rX (j := 1) (by rw [L4_len]; omega)
          have d2 := brow_cell rX (j := 2) (by rw [L4_len]; omega)
          have d3 := brow_cell rX (j := 3) (by rw [L4_len]; omega)
          rw [L4_get _ _ (by omega)] at d0 d1 d2 d3
          simp only [xc] at d0 d1 d2 d3
          have s0 := brow_cell r0 (j := xa.toNat) (by rw [sbl_len]; exact xa.isLt)
          have s1 := brow_cell r0 (j := xb.toNat) (by rw [sbl_len]; exact xb.isLt)
          have s2 := brow_cell r0 (j := xc_.toNat) (by rw [sbl_len]; exact xc_.isLt)
          have s3 := brow_cell r0 (j := xd.toNat) (by rw [sbl_len]; exact xd.isLt)
          rw [sbl_get] at s0 s1 s2 s3
          have n0 := bv_nat xa
          have n1 := bv_nat xb
          have n2 := bv_nat xc_
          have n3 := bv_nat xd
          have b0 := bnd xa
          have b1 := bnd xb
          have b2 := bnd xc_
          have b3 := bnd xd

          have hxm := xor8 (sb xb) (mrk k)
          have tw := r_double (mrk k)
          go_wp2_with (fail)
          have k0 : ∀ p : Regrown, (grow (redrawn w1 p.d) p.os).cell? ⟨gX, 0, none⟩ = some (.int .u8 (bv xa)) := fun p => cell_regrown (d0) p.d p.os
          have t0 : ∀ p : Regrown, (grow (redrawn w1 p.d) p.os).cell? ⟨w.heap.size, xa.toNat, none⟩ = some (.int .u8 (bv (sb xa))) := fun p => cell_regrown (s0) p.d p.os
          have k1 : ∀ p : Regrown, (grow (redrawn w1 p.d) p.os).cell? ⟨gX, 1, none⟩ = some (.int .u8 (bv xb)) := fun p => cell_regrown (d1) p.d p.os
          have t1 : ∀ p : Regrown, (grow (redrawn w1 p.d) p.os).cell? ⟨w.heap.size, xb.toNat, none⟩ = some (.int .u8 (bv (sb xb))) := fun p => cell_regrown (s1) p.d p.os
          have k2 : ∀ p : Regrown, (grow (redrawn w1 p.d) p.os).cell? ⟨gX, 2, none⟩ = some (.int .u8 (bv xc_)) := fun p => cell_regrown (d2) p.d p.os
          have t2 : ∀ p : Regrown, (grow (redrawn w1 p.d) p.os).cell? ⟨w.heap.size, xc_.toNat, none⟩ = some (.int .u8 (bv (sb xc_))) := fun p => cell_regrown (s2) p.d p.os
          have k3 : ∀ p : Regrown, (grow (redrawn w1 p.d) p.os).cell? ⟨gX, 3, none⟩ = some (.int .u8 (bv xd)) := fun p => cell_regrown (d3) p.d p.os
          have t3 : ∀ p : Regrown, (grow (redrawn w1 p.d) p.os).cell? ⟨w.heap.size, xd.toNat, none⟩ = some (.int .u8 (bv (sb xd))) := fun p => cell_regrown (s3) p.d p.os
          refine wp_region_tail (C := fun w' => ∃ p : Regrown, w' = grow (redrawn w1 p.d) p.os) 19 _ rfl rfl rfl (by kernel_rfl) (by kernel_rfl) (by kernel_rfl) (by kernel_rfl) ⟨⟨w1.drawn + 1, #[]⟩, by rw [grow_empty]; rfl⟩ ?_
          dsimp only [List.set, idle]
          go_big_quiet_step (fail)
          go_big_quiet_step (fail)
          go_big_quiet_step (fail)
          go_big_quiet_step (fail)
          go_big_quiet_step (fail)
          go_big_quiet_step (fail)
          go_big_quiet_step (fail)
          go_big_quiet_step (fail)
          go_big_quiet_step (fail)
          go_big_quiet_step (fail)
          go_big_quiet_step (fail)
          go_big_quiet_step (fail)
          go_big_quiet_step (fail)
          go_big_quiet_step (fail)
          go_big_quiet_step (fail)
          go_big_quiet_step (fail)
          go_big_quiet_step (fail)
          go_big_quiet_step (fail)
          refine wpQuiet_build rfl 82 _ rfl _ rfl (irow .u8 (bl (L4 T))) (built_L4 _ _ _ _ T hTT) ?_
          simp only [Act.put, List.setIfInBounds_toArray, List.set_cons_succ, List.set_cons_zero]
          refine wpQuiet_idle rfl rfl rfl ?_
          rintro _ ⟨p, rfl⟩
          have hb := below_regrown w1 p.d p.os
          generalize grow (redrawn w1 p.d) p.os = w2 at *
          clear k0 t0 k1 t1 k2 t2 k3 t3
          replace r0 := keep hb r0
          replace r1 := keep hb r1
          replace r2 := keep hb r2
          replace r3 := keep hb r3
          replace rX := keep hb rX
          replace hw := Below.after hw hb
          clear hb

          have hiT := info_bl info82 (L4 T) (L4_len _)
          refine wpList_store_row rfl 82 _ _ rfl (gX) (irow .u8 (bl (L4 T))) rfl rfl 82 _ rX hiT (by rw [irow_size, irow_size, bl_len, bl_len, L4_len, L4_len]) (irow_one _ _) ?_
          simp only [Act.put]
          replace r0 := (setRow_other w2 gX (w.heap.size) (irow .u8 (bl (L4 T))) (by omega)).trans r0
          replace r1 := (setRow_other w2 gX (w.heap.size + 1) (irow .u8 (bl (L4 T))) (by omega)).trans r1
          replace r2 := (setRow_other w2 gX (w.heap.size + 1 + 1) (irow .u8 (bl (L4 T))) (by omega)).trans r2
          replace r3 := (setRow_other w2 gX (w.heap.size + 1 + 1 + 1) (irow .u8 (bl (L4 T))) (by omega)).trans r3
          replace rX := setRow_heap w2 gX _ (irow .u8 (bl (L4 T))) _ _ rX
          replace hw := below_setRow hw (show w.heap.size ≤ gX by omega) (irow .u8 (bl (L4 T)))
          generalize w2.setRow gX (irow .u8 (bl (L4 T))) = w3 at *
          clear d0 d1 d2 d3 s0 s1 s2 s3 hiT

          go_wp2_with (fail)
          refine (tw.at _).mono ?_
          rintro e_ w4 ⟨rfl, hb⟩
          replace r0 := keep hb r0
          replace r1 := keep hb r1
          replace r2 := keep hb r2
          replace r3 := keep hb r3
          replace hw := Below.after hw hb

          replace rX := keep hb rX
          clear hb tw
          go_wp2_with (fail)
          go_loopw [10] (fun i wr => ∃ j : Nat, j ≤ 4 ∧ i = .int .i64 j ∧ wr.heap[w.heap.size]? = some (.cells (irow .u8 (bl (sbl))) 55 (0, 0)) ∧ wr.heap[w.heap.size + 1]? = some (.cells (irow .u8 (bl (key))) 26 (0, 0)) ∧ wr.heap[w.heap.size + 1 + 1]? = some (.cells (irow .u8 (zr 240)) 32 (0, 0)) ∧ wr.heap[w.heap.size + 1 + 1 + 1]? = some (.cells (irow .u8 (bl (pj (ks key k) k (xorC E T) j))) 83 (0, 0)) ∧ Below w.heap.size w wr ∧ wr.heap[gX]? = some (.cells (irow .u8 (bl (L4 T))) 82 (0, 0))) (fun i _ => 4 - (intOf i).toNat)
          case atStart => exact ⟨0, by omega, rfl, r0, r1, r2, r3, hw, rX⟩
          case round =>
            clear r0 r1 r2 r3 hw rX
            obtain ⟨j, hj, rfl, r0, r1, r2, r3, hw, rX⟩ := hrel
            by_cases hj4 : j < 4
            · have hdj : decide ((j : Int) < 4) = true := by simp; omega
              have c1 := brow_cell r3 (j := 4 * (k - 8) + j) (by rw [pj_len, ks_len]; omega)
              rw [pj_low _ _ _ _ _ (by omega), hE.out j hj4, show 4 * (k - 8) + j = (k - 8) * 4 + j by omega] at c1
              have c2 := brow_cell rX (j := j) (by rw [L4_len]; exact hj4)
              rw [L4_get _ _ hj4] at c2
              have hx := xor8 (xc E j) (xc T j)
              have hset : Hid (pj (ks key k) k (xorC E T) (j + 1) = (pj (ks key k) k (xorC E T) j).set (4 * k + j) (xc E j ^^^ xc T j)) := hide (by rw [pj, xc_xor _ _ _ hj4])
              generalize xc E j = x1 at *
              generalize xc T j = x2 at *
              go_wp2_with (fail)
              have k1 : ∀ p : Regrown, (grow (redrawn wr p.d) p.os).cell? ⟨w.heap.size + 1 + 1 + 1, (k - 8) * 4 + j, none⟩ = some (.int .u8 (bv x1)) := fun p => cell_regrown (c1) p.d p.os
              have k2 : ∀ p : Regrown, (grow (redrawn wr p.d) p.os).cell? ⟨gX, j, none⟩ = some (.int .u8 (bv x2)) := fun p => cell_regrown (c2) p.d p.os
              refine wp_region_tail (C := fun w' => ∃ p : Regrown, w' = grow (redrawn wr p.d) p.os) 14 _ rfl rfl rfl (by kernel_rfl) (by kernel_rfl) (by kernel_rfl) (by kernel_rfl) ⟨⟨wr.drawn + 1, #[]⟩, by rw [grow_empty]; rfl⟩ ?_
              dsimp only [List.set, idle]
              go_big_quiet_step (fail)
              go_big_quiet_step (fail)
              go_big_quiet_step (fail)
              go_big_quiet_step (fail)
              go_big_quiet_step (fail)
              go_big_quiet_step (fail)
              go_big_quiet_step (fail)
              go_big_quiet_step (fail)
              go_big_quiet_step (fail)
              go_big_quiet_step (fail)
              go_big_quiet_step (fail)
              go_big_quiet_step (fail)
              go_big_quiet_step (fail)
              go_big_quiet_step (fail)
              refine wpQuiet_idle rfl rfl rfl ?_
              rintro _ ⟨p, rfl⟩
              have hb := below_regrown wr p.d p.os
              generalize grow (redrawn wr p.d) p.os = w8 at *
              clear k1 k2
              replace r0 := keep hb r0
              replace r1 := keep hb r1
              replace r2 := keep hb r2
              replace r3 := keep hb r3
              replace rX := keep hb rX
              replace hw := Below.after hw hb
              clear hb

              have cw := brow_cell r3 (j := 4 * k + j) (by rw [pj_len, ks_len]; omega)
              have hf := row_frozen r3 (4 * k + j)
              rw [Nat.mul_comm 4 k] at cw hf
              clear c1 c2
              go_wp2
              refine ⟨⟨j + 1, by omega, by go_num, heap_other r0 (by omega), heap_other r1 (by omega), heap_other r2 (by omega), by rw [hset.out, Nat.mul_comm 4 k]; exact brow_set r3 (k * 4 + j) _, hw.setCell (show w.heap.size ≤ w.heap.size + 1 + 1 + 1 by omega) _, heap_other rX (by omega)⟩, by simp [intOf]; omega⟩
            · obtain rfl : j = 4 := by omega
              have hdj : decide ((4 : Int) < 4) = false := by decide
              rw [pj_four, ← hkn.out] at r3
              clear hj hj4
              go_wp2
              refine ⟨⟨k + 1, by omega, by go_num, by rw [hmn.out], r0, r1, r2, r3, hw⟩, by simp [intOf]; omega⟩

        · have hd80 : decide (((k % 8 : Nat) : Int) = 0) = false := by simp; omega
          rw [if_neg h80] at hmn
          by_cases h40 : k % 4 = 0
          · have hd40 : decide (((k % 4 : Nat) : Int) = 0) = true := by rw [h40]; rfl
            obtain ⟨T, hT⟩ : ∃ T, T = turnC k (xa, xb, xc_, xd) := ⟨_, rfl⟩
            rw [← hT] at hkn
            have hTT : T = (sb xa, sb xb, sb xc_, sb xd) := by rw [hT, turnC, if_neg h80, if_pos h40]
            clear hT
            have d0 := brow_cell rX (j := 0) (by rw [L4_len]; omega)
            have d1 := brow_cell rX (j := 1) (by rw [L4_len]; omega)
            have d2 := brow_cell rX (j := 2) (by rw [L4_len]; omega)
            have d3 := brow_cell rX (j := 3) (by rw [L4_len]; omega)
            rw [L4_get _ _ (by omega)] at d0 d1 d2 d3
            simp only [xc] at d0 d1 d2 d3
            have s0 := brow_cell r0 (j := xa.toNat) (by rw [sbl_len]; exact xa.isLt)
            have s1 := brow_cell r0 (j := xb.toNat) (by rw [sbl_len]; exact xb.isLt)
            have s2 := brow_cell r0 (j := xc_.toNat) (by rw [sbl_len]; exact xc_.isLt)
            have s3 := brow_cell r0 (j := xd.toNat) (by rw [sbl_len]; exact xd.isLt)
            rw [sbl_get] at s0 s1 s2 s3
            have n0 := bv_nat xa
            have n1 := bv_nat xb
            have n2 := bv_nat xc_
            have n3 := bv_nat xd
            have b0 := bnd xa
            have b1 := bnd xb
            have b2 := bnd xc_
            have b3 := bnd xd

            go_wp2_with (fail)
            have k0 : ∀ p : Regrown, (grow (redrawn w1 p.d) p.os).cell? ⟨gX, 0, none⟩ = some (.int .u8 (bv xa)) := fun p => cell_regrown (d0) p.d p.os
            have t0 : ∀ p : Regrown, (grow (redrawn w1 p.d) p.os).cell? ⟨w.heap.size, xa.toNat, none⟩ = some (.int .u8 (bv (sb xa))) := fun p => cell_regrown (s0) p.d p.os
            have k1 : ∀ p : Regrown, (grow (redrawn w1 p.d) p.os).cell? ⟨gX, 1, none⟩ = some (.int .u8 (bv xb)) := fun p => cell_regrown (d1) p.d p.os
            have t1 : ∀ p : Regrown, (grow (redrawn w1 p.d) p.os).cell? ⟨w.heap.size, xb.toNat, none⟩ = some (.int .u8 (bv (sb xb))) := fun p => cell_regrown (s1) p.d p.os
            have k2 : ∀ p : Regrown, (grow (redrawn w1 p.d) p.os).cell? ⟨gX, 2, none⟩ = some (.int .u8 (bv xc_)) := fun p => cell_regrown (d2) p.d p.os
            have t2 : ∀ p : Regrown, (grow (redrawn w1 p.d) p.os).cell? ⟨w.heap.size, xc_.toNat, none⟩ = some (.int .u8 (bv (sb xc_))) := fun p => cell_regrown (s2) p.d p.os
            have k3 : ∀ p : Regrown, (grow (redrawn w1 p.d) p.os).cell? ⟨gX, 3, none⟩ = some (.int .u8 (bv xd)) := fun p => cell_regrown (d3) p.d p.os
            have t3 : ∀ p : Regrown, (grow (redrawn w1 p.d) p.os).cell? ⟨w.heap.size, xd.toNat, none⟩ = some (.int .u8 (bv (sb xd))) := fun p => cell_regrown (s3) p.d p.os
            refine wp_region_tail (C := fun w' => ∃ p : Regrown, w' = grow (redrawn w1 p.d) p.os) 17 _ rfl rfl rfl (by kernel_rfl) (by kernel_rfl) (by kernel_rfl) (by kernel_rfl) ⟨⟨w1.drawn + 1, #[]⟩, by rw [grow_empty]; rfl⟩ ?_
            dsimp only [List.set, idle]
            go_big_quiet_step (fail)
            go_big_quiet_step (fail)
            go_big_quiet_step (fail)
            go_big_quiet_step (fail)
            go_big_quiet_step (fail)
            go_big_quiet_step (fail)
            go_big_quiet_step (fail)
            go_big_quiet_step (fail)
            go_big_quiet_step (fail)
            go_big_quiet_step (fail)
            go_big_quiet_step (fail)
            go_big_quiet_step (fail)
            go_big_quiet_step (fail)
            go_big_quiet_step (fail)
            go_big_quiet_step (fail)
            go_big_quiet_step (fail)
            refine wpQuiet_build rfl 82 _ rfl _ rfl (irow .u8 (bl (L4 T))) (built_L4 _ _ _ _ T hTT) ?_
            simp only [Act.put, List.setIfInBounds_toArray, List.set_cons_succ, List.set_cons_zero]
            refine wpQuiet_idle rfl rfl rfl ?_
            rintro _ ⟨p, rfl⟩
            have hb := below_regrown w1 p.d p.os
            generalize grow (redrawn w1 p.d) p.os = w2 at *
            clear k0 t0 k1 t1 k2 t2 k3 t3
            replace r0 := keep hb r0
            replace r1 := keep hb r1
            replace r2 := keep hb r2
            replace r3 := keep hb r3
            replace rX := keep hb rX
            replace hw := Below.after hw hb
            clear hb

            have hiT := info_bl info82 (L4 T) (L4_len _)
            refine wpList_store_row rfl 82 _ _ rfl (gX) (irow .u8 (bl (L4 T))) rfl rfl 82 _ rX hiT (by rw [irow_size, irow_size, bl_len, bl_len, L4_len, L4_len]) (irow_one _ _) ?_
            simp only [Act.put]
            replace r0 := (setRow_other w2 gX (w.heap.size) (irow .u8 (bl (L4 T))) (by omega)).trans r0
            replace r1 := (setRow_other w2 gX (w.heap.size + 1) (irow .u8 (bl (L4 T))) (by omega)).trans r1
            replace r2 := (setRow_other w2 gX (w.heap.size + 1 + 1) (irow .u8 (bl (L4 T))) (by omega)).trans r2
            replace r3 := (setRow_other w2 gX (w.heap.size + 1 + 1 + 1) (irow .u8 (bl (L4 T))) (by omega)).trans r3
            replace rX := setRow_heap w2 gX _ (irow .u8 (bl (L4 T))) _ _ rX
            replace hw := below_setRow hw (show w.heap.size ≤ gX by omega) (irow .u8 (bl (L4 T)))
            generalize w2.setRow gX (irow .u8 (bl (L4 T))) = w3 at *
            clear d0 d1 d2 d3 s0 s1 s2 s3 hiT

            go_wp2_with (fail)
            go_loopw [10] (fun i wr => ∃ j : Nat, j ≤ 4 ∧ i = .int .i64 j ∧ wr.heap[w.heap.size]? = some (.cells (irow .u8 (bl (sbl))) 55 (0, 0)) ∧ wr.heap[w.heap.size + 1]? = some (.cells (irow .u8 (bl (key))) 26 (0, 0)) ∧ wr.heap[w.heap.size + 1 + 1]? = some (.cells (irow .u8 (zr 240)) 32 (0, 0)) ∧ wr.heap[w.heap.size + 1 + 1 + 1]? = some (.cells (irow .u8 (bl (pj (ks key k) k (xorC E T) j))) 83 (0, 0)) ∧ Below w.heap.size w wr ∧ wr.heap[gX]? = some (.cells (irow .u8 (bl (L4 T))) 82 (0, 0))) (fun i _ => 4 - (intOf i).toNat)
            case atStart => exact ⟨0, by omega, rfl, r0, r1, r2, r3, hw, rX⟩
            case round =>
              clear r0 r1 r2 r3 hw rX
              obtain ⟨j, hj, rfl, r0, r1, r2, r3, hw, rX⟩ := hrel
              by_cases hj4 : j < 4
              · have hdj : decide ((j : Int) < 4) = true := by simp; omega
                have c1 := brow_cell r3 (j := 4 * (k - 8) + j) (by rw [pj_len, ks_len]; omega)
                rw [pj_low _ _ _ _ _ (by omega), hE.out j hj4, show 4 * (k - 8) + j = (k - 8) * 4 + j by omega] at c1
                have c2 := brow_cell rX (j := j) (by rw [L4_len]; exact hj4)
                rw [L4_get _ _ hj4] at c2
                have hx := xor8 (xc E j) (xc T j)
                have hset : Hid (pj (ks key k) k (xorC E T) (j + 1) = (pj (ks key k) k (xorC E T) j).set (4 * k + j) (xc E j ^^^ xc T j)) := hide (by rw [pj, xc_xor _ _ _ hj4])
                generalize xc E j = x1 at *
                generalize xc T j = x2 at *
                go_wp2_with (fail)
                have k1 : ∀ p : Regrown, (grow (redrawn wr p.d) p.os).cell? ⟨w.heap.size + 1 + 1 + 1, (k - 8) * 4 + j, none⟩ = some (.int .u8 (bv x1)) := fun p => cell_regrown (c1) p.d p.os
                have k2 : ∀ p : Regrown, (grow (redrawn wr p.d) p.os).cell? ⟨gX, j, none⟩ = some (.int .u8 (bv x2)) := fun p => cell_regrown (c2) p.d p.os
                refine wp_region_tail (C := fun w' => ∃ p : Regrown, w' = grow (redrawn wr p.d) p.os) 14 _ rfl rfl rfl (by kernel_rfl) (by kernel_rfl) (by kernel_rfl) (by kernel_rfl) ⟨⟨wr.drawn + 1, #[]⟩, by rw [grow_empty]; rfl⟩ ?_
                dsimp only [List.set, idle]
                go_big_quiet_step (fail)
                go_big_quiet_step (fail)
                go_big_quiet_step (fail)
                go_big_quiet_step (fail)
                go_big_quiet_step (fail)
                go_big_quiet_step (fail)
                go_big_quiet_step (fail)
                go_big_quiet_step (fail)
                go_big_quiet_step (fail)
                go_big_quiet_step (fail)
                go_big_quiet_step (fail)
                go_big_quiet_step (fail)
                go_big_quiet_step (fail)
                go_big_quiet_step (fail)
                refine wpQuiet_idle rfl rfl rfl ?_
                rintro _ ⟨p, rfl⟩
                have hb := below_regrown wr p.d p.os
                generalize grow (redrawn wr p.d) p.os = w8 at *
                clear k1 k2
                replace r0 := keep hb r0
                replace r1 := keep hb r1
                replace r2 := keep hb r2
                replace r3 := keep hb r3
                replace rX := keep hb rX
                replace hw := Below.after hw hb
                clear hb

                have cw := brow_cell r3 (j := 4 * k + j) (by rw [pj_len, ks_len]; omega)
                have hf := row_frozen r3 (4 * k + j)
                rw [Nat.mul_comm 4 k] at cw hf
                clear c1 c2
                go_wp2
                refine ⟨⟨j + 1, by omega, by go_num, heap_other r0 (by omega), heap_other r1 (by omega), heap_other r2 (by omega), by rw [hset.out, Nat.mul_comm 4 k]; exact brow_set r3 (k * 4 + j) _, hw.setCell (show w.heap.size ≤ w.heap.size + 1 + 1 + 1 by omega) _, heap_other rX (by omega)⟩, by simp [intOf]; omega⟩
              · obtain rfl : j = 4 := by omega
                have hdj : decide ((4 : Int) < 4) = false := by decide
                rw [pj_four, ← hkn.out] at r3
                clear hj hj4
                go_wp2
                refine ⟨⟨k + 1, by omega, by go_num, by rw [hmn.out], r0, r1, r2, r3, hw⟩, by simp [intOf]; omega⟩

          · have hd40 : decide (((k % 4 : Nat) : Int) = 0) = false := by simp; omega
            rw [turnC, if_neg h80, if_neg h40] at hkn
            generalize (xa, xb, xc_, xd) = T at *
            go_wp2_with (fail)
            go_loopw [10] (fun i wr => ∃ j : Nat, j ≤ 4 ∧ i = .int .i64 j ∧ wr.heap[w.heap.size]? = some (.cells (irow .u8 (bl (sbl))) 55 (0, 0)) ∧ wr.heap[w.heap.size + 1]? = some (.cells (irow .u8 (bl (key))) 26 (0, 0)) ∧ wr.heap[w.heap.size + 1 + 1]? = some (.cells (irow .u8 (zr 240)) 32 (0, 0)) ∧ wr.heap[w.heap.size + 1 + 1 + 1]? = some (.cells (irow .u8 (bl (pj (ks key k) k (xorC E T) j))) 83 (0, 0)) ∧ Below w.heap.size w wr ∧ wr.heap[gX]? = some (.cells (irow .u8 (bl (L4 T))) 82 (0, 0))) (fun i _ => 4 - (intOf i).toNat)
            case atStart => exact ⟨0, by omega, rfl, r0, r1, r2, r3, hw, rX⟩
            case round =>
              clear r0 r1 r2 r3 hw rX
              obtain ⟨j, hj, rfl, r0, r1, r2, r3, hw, rX⟩ := hrel
              by_cases hj4 : j < 4
              · have hdj : decide ((j : Int) < 4) = true := by simp; omega
                have c1 := brow_cell r3 (j := 4 * (k - 8) + j) (by rw [pj_len, ks_len]; omega)
                rw [pj_low _ _ _ _ _ (by omega), hE.out j hj4, show 4 * (k - 8) + j = (k - 8) * 4 + j by omega] at c1
                have c2 := brow_cell rX (j := j) (by rw [L4_len]; exact hj4)
                rw [L4_get _ _ hj4] at c2
                have hx := xor8 (xc E j) (xc T j)
                have hset : Hid (pj (ks key k) k (xorC E T) (j + 1) = (pj (ks key k) k (xorC E T) j).set (4 * k + j) (xc E j ^^^ xc T j)) := hide (by rw [pj, xc_xor _ _ _ hj4])
                generalize xc E j = x1 at *
                generalize xc T j = x2 at *
                go_wp2_with (fail)
                have k1 : ∀ p : Regrown, (grow (redrawn wr p.d) p.os).cell? ⟨w.heap.size + 1 + 1 + 1, (k - 8) * 4 + j, none⟩ = some (.int .u8 (bv x1)) := fun p => cell_regrown (c1) p.d p.os
                have k2 : ∀ p : Regrown, (grow (redrawn wr p.d) p.os).cell? ⟨gX, j, none⟩ = some (.int .u8 (bv x2)) := fun p => cell_regrown (c2) p.d p.os
                refine wp_region_tail (C := fun w' => ∃ p : Regrown, w' = grow (redrawn wr p.d) p.os) 14 _ rfl rfl rfl (by kernel_rfl) (by kernel_rfl) (by kernel_rfl) (by kernel_rfl) ⟨⟨wr.drawn + 1, #[]⟩, by rw [grow_empty]; rfl⟩ ?_
                dsimp only [List.set, idle]
                go_big_quiet_step (fail)
                go_big_quiet_step (fail)
                go_big_quiet_step (fail)
                go_big_quiet_step (fail)
                go_big_quiet_step (fail)
                go_big_quiet_step (fail)
                go_big_quiet_step (fail)
                go_big_quiet_step (fail)
                go_big_quiet_step (fail)
                go_big_quiet_step (fail)
                go_big_quiet_step (fail)
                go_big_quiet_step (fail)
                go_big_quiet_step (fail)
                go_big_quiet_step (fail)
                refine wpQuiet_idle rfl rfl rfl ?_
                rintro _ ⟨p, rfl⟩
                have hb := below_regrown wr p.d p.os
                generalize grow (redrawn wr p.d) p.os = w8 at *
                clear k1 k2
                replace r0 := keep hb r0
                replace r1 := keep hb r1
                replace r2 := keep hb r2
                replace r3 := keep hb r3
                replace rX := keep hb rX
                replace hw := Below.after hw hb
                clear hb

                have cw := brow_cell r3 (j := 4 * k + j) (by rw [pj_len, ks_len]; omega)
                have hf := row_frozen r3 (4 * k + j)
                rw [Nat.mul_comm 4 k] at cw hf
                clear c1 c2
                go_wp2
                refine ⟨⟨j + 1, by omega, by go_num, heap_other r0 (by omega), heap_other r1 (by omega), heap_other r2 (by omega), by rw [hset.out, Nat.mul_comm 4 k]; exact brow_set r3 (k * 4 + j) _, hw.setCell (show w.heap.size ≤ w.heap.size + 1 + 1 + 1 by omega) _, heap_other rX (by omega)⟩, by simp [intOf]; omega⟩
              · obtain rfl : j = 4 := by omega
                have hdj : decide ((4 : Int) < 4) = false := by decide
                rw [pj_four, ← hkn.out] at r3
                clear hj hj4
                go_wp2
                refine ⟨⟨k + 1, by omega, by go_num, by rw [hmn.out], r0, r1, r2, r3, hw⟩, by simp [intOf]; omega⟩

    · obtain rfl : k = 60 := by omega
      have hd : decide ((60 : Int) < 60) = false := by decide
      obtain ⟨K, hK⟩ : ∃ K, K = ks key 60 := ⟨_, rfl⟩
      rw [← hK] at r3
      have hKl : K.length = 240 := by rw [hK, ks_len]
      replace hK := hide hK
      clear hk hlt
      have hz : ∀ W : World, (Instr.alloc 32 true (.tuple #[])).run Try.prog W = .ok (.pointer (some ⟨W.heap.size, 0, none⟩)) (W.alloc (.cells (irow .u8 (bl (pt (gb K) 240 0))) 32)) := by rw [← zr_pt]; exact z32
      have RX := hp1_0 wr (.cells (irow .u8 (bl (pt (gb K) 240 0))) 32)
      have HB : Below wr.heap.size wr (wr.alloc (.cells (irow .u8 (bl (pt (gb K) 240 0))) 32)) := (Below.refl _ _).alloc (Nat.le_refl _) _
      have l3 := lt_of_row r3
      go_wp2_with (first | (refine wpList_alloc rfl 32 rfl (irow .u8 (bl (pt (gb K) 240 0))) hz ?_) | fail)
      replace r2 := keep HB r2
      replace r3 := keep HB r3
      replace hw := Below.after hw HB
      clear HB hz r0 r1
      generalize World.alloc _ _ = w5 at *
      generalize wr.heap.size = gX at *
      go_loopw [12] (fun i wr => ∃ k : Nat, k ≤ 60 ∧ i = .int .i64 k ∧ wr.heap[w.heap.size + 1 + 1]? = some (.cells (irow .u8 (zr 240)) 32 (0, 0)) ∧ wr.heap[w.heap.size + 1 + 1 + 1]? = some (.cells (irow .u8 (bl (K))) 83 (0, 0)) ∧ wr.heap[gX]? = some (.cells (irow .u8 (bl (pt (gb K) 240 (4 * k)))) 32 (0, 0)) ∧ Below w.heap.size w wr) (fun i _ => 60 - (intOf i).toNat)
      case atStart => exact ⟨0, by omega, rfl, r2, r3, RX, hw⟩
      case round =>
        clear r2 r3 RX hw
        obtain ⟨k, hk, rfl, r2, r3, rX, hw⟩ := hrel
        by_cases hlt : k < 60
        · have hd : decide ((k : Int) < 60) = true := by simp; omega
          go_wp2_with (fail)
          go_loopw [13] (fun i wr => ∃ j : Nat, j ≤ 4 ∧ i = .int .i64 j ∧ wr.heap[w.heap.size + 1 + 1]? = some (.cells (irow .u8 (zr 240)) 32 (0, 0)) ∧ wr.heap[w.heap.size + 1 + 1 + 1]? = some (.cells (irow .u8 (bl (K))) 83 (0, 0)) ∧ wr.heap[gX]? = some (.cells (irow .u8 (bl (pt (gb K) 240 (4 * k + j)))) 32 (0, 0)) ∧ Below w.heap.size w wr) (fun i _ => 4 - (intOf i).toNat)
          case atStart => exact ⟨0, by omega, rfl, r2, r3, rX, hw⟩
          case round =>
            clear r2 r3 rX hw
            obtain ⟨j, hj, rfl, r2, r3, rX, hw⟩ := hrel
            by_cases hj4 : j < 4
            · have hdj : decide ((j : Int) < 4) = true := by simp; omega
              have hq : (k : Int).tdiv 4 = ((k / 4 : Nat) : Int) := by rw [Int.tdiv_eq_ediv_of_nonneg (by omega)]; rfl
              have hr : (k : Int).tmod 4 = ((k % 4 : Nat) : Int) := by rw [Int.tmod_eq_emod_of_nonneg (by omega)]; rfl
              have c1 := brow_cell r3 (j := 4 * k + j) (by omega)
              rw [show K.getD (4 * k + j) 0#8 = gb K (4 * k + j) from rfl] at c1
              have hset := hide (pt_set (gb K) 240 (4 * k + j) (by omega))
              generalize gb K (4 * k + j) = x1 at *
              rw [Nat.mul_comm 4 k] at c1
              go_wp2_with (fail)
              have k1 : ∀ p : Regrown, (grow (redrawn wr p.d) p.os).cell? ⟨w.heap.size + 1 + 1 + 1, k * 4 + j, none⟩ = some (.int .u8 (bv x1)) := fun p => cell_regrown (c1) p.d p.os
              refine wp_region_tail (C := fun w' => ∃ p : Regrown, w' = grow (redrawn wr p.d) p.os) 14 _ rfl rfl rfl (by kernel_rfl) (by kernel_rfl) (by kernel_rfl) (by kernel_rfl) ⟨⟨wr.drawn + 1, #[]⟩, by rw [grow_empty]; rfl⟩ ?_
              dsimp only [List.set, idle]
              go_big_quiet_step (fail)
              go_big_quiet_step (fail)
              go_big_quiet_step (fail)
              go_big_quiet_step (fail)
              go_big_quiet_step (fail)
              go_big_quiet_step (fail)
              go_big_quiet_step (fail)
              go_big_quiet_step (fail)
              go_big_quiet_step (fail)
              go_big_quiet_step (fail)
              go_big_quiet_step (fail)
              go_big_quiet_step (fail)
              go_big_quiet_step (fail)
              go_big_quiet_step (fail)
              refine wpQuiet_idle rfl rfl rfl ?_
              rintro _ ⟨p, rfl⟩
              have hb := below_regrown wr p.d p.os
              generalize grow (redrawn wr p.d) p.os = w8 at *
              clear k1
              replace r2 := keep hb r2
              replace r3 := keep hb r3
              replace rX := keep hb rX
              replace hw := Below.after hw hb
              clear hb

              have cw := brow_cell rX (j := 4 * k + j) (by rw [pt_len]; omega)
              have hf := row_frozen rX (4 * k + j)
              have hof : k / 4 * 16 + (k % 4 * 4 + j) = 4 * k + j := by omega
              clear c1
              go_wp2
              refine ⟨⟨j + 1, by omega, by go_num, heap_other r2 (by omega), heap_other r3 (by omega), by rw [← Nat.add_assoc, ← hset.out]; exact brow_set rX (4 * k + j) x1, hw.setCell (show w.heap.size ≤ gX by omega) _⟩, by simp [intOf]; omega⟩
            · obtain rfl : j = 4 := by omega
              have hdj : decide ((4 : Int) < 4) = false := by decide
              go_wp2
              refine ⟨⟨k + 1, by omega, by go_num, r2, r3, rX, hw⟩, by simp [intOf]; omega⟩
        · obtain rfl : k = 60 := by omega
          have hd : decide ((60 : Int) < 60) = false := by decide
          rw [show pt (gb K) 240 (4 * 60) = K from pt_selfn K 240 hKl] at rX
          have hi9 := info_bl info32 K hKl
          have hfi : (irow .u8 (zr 240)).size = (irow .u8 (bl (K))).size := by rw [irow_size, irow_size, zr_len, bl_len, hKl]
          clear hk hlt
          go_wp2_with (first | (refine wpList_load_want rfl 32 _ rfl (gX) rfl 32 (irow .u8 (bl (K))) (0, 0) _ rX Try.underlying32 rfl hi9 ?_) | (refine wpList_store_row rfl 32 _ _ rfl (w.heap.size + 1 + 1) (irow .u8 (bl (K))) rfl rfl 32 _ r2 hi9 hfi (irow_one _ _) ?_) | fail)
          replace r2 := setRow_heap wr (w.heap.size + 1 + 1) _ (irow .u8 (bl (K))) _ _ r2
          replace hw := below_setRow hw (show w.heap.size ≤ w.heap.size + 1 + 1 by omega) (irow .u8 (bl (K)))
          generalize wr.setRow (w.heap.size + 1 + 1) (irow .u8 (bl (K))) = w9 at *
          exact bodyPost_ret (v := .agg (irow .u8 (bl (K)))) (results_cell_row Try.results35 _ _ (w.heap.size + 1 + 1) _ _ _ _ rfl r2 Try.underlying32 rfl hi9) rfl ⟨by rw [hK.out], hw⟩

end Go.Proofs.Ytmldmlbmfbdjoaa


namespace Go.Proofs.Ytmldmlbmfbdjoaa
open Go Go.RowKit Go.Sort
attribute [local go_sem] setCell_drewN alloc_drewN


theorem b32 (cs : Array Value) (W : World) : (Instr.box 32 (.agg cs)).run Try.prog W = .ok (.pointer (some ⟨W.heap.size, 0, none⟩)) (W.alloc (.cells cs 32)) := by kernel_rfl
theorem kr_len (K : List B) (r : Nat) : (kr K r).length = 16 := mk16_len _
theorem bl_kr (K : List B) (hK : K.length = 240) (r : Nat) (h : r < 15) : (irow .u8 (bl (K))).extract (r * 16) (r * 16 + (irow .u8 (bl (kr K r))).size) = (irow .u8 (bl (kr K r))) := by
  apply Array.ext_getElem?
  intro j
  rw [irow_size, bl_len, kr_len, Array.getElem?_extract]
  by_cases hj : j < 16
  · rw [if_pos (by rw [irow_size, bl_len, hK]; omega), irow_get _ _ _ (by rw [bl_len, hK]; omega), irow_get _ _ _ (by rw [bl_len, kr_len]; exact hj), bl_get, bl_get, kr, mk16_get _ hj, Nat.mul_comm r 16]
  · rw [if_neg (by omega), Array.getElem?_eq_none (by rw [irow_size, bl_len, kr_len]; omega)]

set_option maxRecDepth 100000 in
set_option maxHeartbeats 4000000 in
theorem r_keys (key : List B) (hl : key.length = 32) : Gives 16 #[.agg (irow .u8 (bl (key)))] (.agg (irow .u8 (bl (ks key 60)))) := by
  intro w
  have R0 := hp2_0 w (.cells (irow .u8 (bl (key))) 26) (.cells (irow .u8 (zr 240)) 32)
  have R1 := hp2_1 w (.cells (irow .u8 (bl (key))) 26) (.cells (irow .u8 (zr 240)) 32)
  have hw : Below w.heap.size w ((w.alloc (.cells (irow .u8 (bl (key))) 26)).alloc (.cells (irow .u8 (zr 240)) 32)) := (((Below.refl _ _).alloc (Nat.le_refl _) _).alloc (by simp) _)

  have hi0 := info_bl infoKy key hl
  have hi9 := info_bl info32 (ks key 60) (ks_len _ _)
  have hfi : (irow .u8 (zr 240)).size = (irow .u8 (bl (ks key 60))).size := by rw [irow_size, irow_size, zr_len, bl_len, ks_len]
  have ct := r_table
  have ck := r_keysBy key hl
  go_enter Try.func16, Try.ntmps16
  go_wp2_with (first | (refine wpList_box rfl 26 _ rfl _ rfl (bKey _) ?_) | (refine wpList_alloc rfl 32 rfl (irow .u8 (zr 240)) z32 ?_) | fail)
  try simp only [size_alloc1, Act.put, List.setIfInBounds_toArray, List.set_cons_succ, List.set_cons_zero]
  generalize World.alloc _ _ = w0 at *
  have HR0 := keepr R0
  refine wp_region_tail (C := fun w' => ∃ p : Regrown, w' = grow (redrawn w0 p.d) p.os) 3 _ rfl rfl rfl (by kernel_rfl) (by kernel_rfl) (by kernel_rfl) (by kernel_rfl) ⟨⟨w0.drawn + 1, #[]⟩, by rw [grow_empty]; rfl⟩ ?_
  dsimp only [List.set, idle]
  go_big_quiet_step (exact ct.re)
  refine wpQuiet_load_row rfl 26 _ rfl (w.heap.size) rfl 26 (irow .u8 (bl (key))) (0, 0) _ HR0.out Try.underlying26 rfl hi0 ?_
  simp only [Act.put, List.setIfInBounds_toArray, List.set_cons_succ, List.set_cons_zero]
  go_big_quiet_step (exact ck.re)
  refine wpQuiet_idle rfl rfl rfl ?_
  rintro _ ⟨p, rfl⟩
  have hb := below_regrown w0 p.d p.os
  generalize grow (redrawn w0 p.d) p.os = w1 at *
  replace R0 := keep hb R0
  replace R1 := keep hb R1
  replace hw := Below.after hw hb
  clear hb

  refine wpList_store_row rfl 32 _ _ rfl (w.heap.size + 1) (irow .u8 (bl (ks key 60))) rfl rfl 32 _ R1 hi9 hfi (irow_one _ _) ?_
  simp only [Act.put]
  replace R1 := setRow_heap w1 (w.heap.size + 1) _ (irow .u8 (bl (ks key 60))) _ _ R1
  replace hw := below_setRow hw (show w.heap.size ≤ w.heap.size + 1 by omega) (irow .u8 (bl (ks key 60)))
  generalize w1.setRow (w.heap.size + 1) (irow .u8 (bl (ks key 60))) = w9 at *
  go_wp2_with (fail)
  exact bodyPost_ret (v := .agg (irow .u8 (bl (ks key 60)))) (results_cell_row Try.results16 _ _ (w.heap.size + 1) _ _ _ _ rfl R1 Try.underlying32 rfl hi9) rfl ⟨rfl, hw⟩

set_option maxRecDepth 100000 in
set_option maxHeartbeats 4000000 in
theorem r_encryptBy (K l : List B) (hK : K.length = 240) (hl : l.length = 16) : Gives 42 #[.agg (irow .u8 (bl (sbl))), .agg (irow .u8 (bl (K))), .agg (irow .u8 (bl (l)))] (.agg (irow .u8 (bl (enc K l)))) := by
  intro w
  have R0 := hp4_0 w (.cells (irow .u8 (bl (sbl))) 55) (.cells (irow .u8 (bl (K))) 32) (.cells (irow .u8 (bl (l))) 31) (.cells (irow .u8 (zr 16)) 31)
  have R1 := hp4_1 w (.cells (irow .u8 (bl (sbl))) 55) (.cells (irow .u8 (bl (K))) 32) (.cells (irow .u8 (bl (l))) 31) (.cells (irow .u8 (zr 16)) 31)
  have R2 := hp4_2 w (.cells (irow .u8 (bl (sbl))) 55) (.cells (irow .u8 (bl (K))) 32) (.cells (irow .u8 (bl (l))) 31) (.cells (irow .u8 (zr 16)) 31)
  have R3 := hp4_3 w (.cells (irow .u8 (bl (sbl))) 55) (.cells (irow .u8 (bl (K))) 32) (.cells (irow .u8 (bl (l))) 31) (.cells (irow .u8 (zr 16)) 31)
  have hw : Below w.heap.size w ((((w.alloc (.cells (irow .u8 (bl (sbl))) 55)).alloc (.cells (irow .u8 (bl (K))) 32)).alloc (.cells (irow .u8 (bl (l))) 31)).alloc (.cells (irow .u8 (zr 16)) 31)) := (((((Below.refl _ _).alloc (Nat.le_refl _) _).alloc (by simp) _).alloc (by simp; omega) _).alloc (by simp; omega) _)

  have hiT := info256 sbl sbl_len
  have hi0 := info_bl infoR l hl
  have hik0 := info_bl infoR (kr K 0) (kr_len _ _)
  have cx := r_xor l (kr K 0) hl (kr_len _ _)
  go_enter Try.func42, Try.ntmps42
  go_wp2_with (first | (refine wpList_box rfl 55 _ rfl _ rfl (b256 _) ?_) | (refine wpList_box rfl 32 _ rfl _ rfl (b32 _) ?_) | (refine wpList_box rfl 31 _ rfl _ rfl (bR _) ?_) | (refine wpList_alloc rfl 31 rfl (irow .u8 (zr 16)) zR ?_) | ((try simp only [size_alloc1]); refine wpList_load_want rfl 31 _ rfl (w.heap.size + 1 + 1) rfl 31 (irow .u8 (bl (l))) (0, 0) _ R2 Try.underlying31 rfl hi0 ?_) | (refine wpList_load_part rfl 31 _ rfl (w.heap.size + 1) 0 rfl 32 (irow .u8 (bl (K))) (0, 0) (irow .u8 (bl (kr K 0))) _ R1 (bl_kr K hK 0 (by omega)) Try.underlying31 rfl hik0 ?_) | fail)
  try simp only [size_alloc1, Act.put, List.setIfInBounds_toArray, List.set_cons_succ, List.set_cons_zero]
  generalize World.alloc _ _ = w0 at *
  refine (cx.at _).mono ?_
  rintro e_ w1 ⟨rfl, hb⟩
  replace R0 := keep hb R0
  replace R1 := keep hb R1
  replace R2 := keep hb R2
  replace R3 := keep hb R3
  replace hw := Below.after hw hb
  clear hb cx
  go_wp2_with (first | (refine wpList_store_row rfl 31 _ _ rfl (w.heap.size + 1 + 1) (irow .u8 (bl (rnd K l 0))) rfl rfl 31 _ R2 (info_bl infoR _ (rnd_len _ _ _)) (by rw [irow_size, irow_size, bl_len, bl_len, rnd_len, hl]) (irow_one _ _) ?_; refine wpList_stay ?_) | fail)
  unfold WpStay
  replace R0 := (setRow_other w1 (w.heap.size + 1 + 1) (w.heap.size) (irow .u8 (bl (rnd K l 0))) (by omega)).trans R0
  replace R1 := (setRow_other w1 (w.heap.size + 1 + 1) (w.heap.size + 1) (irow .u8 (bl (rnd K l 0))) (by omega)).trans R1
  replace R3 := (setRow_other w1 (w.heap.size + 1 + 1) (w.heap.size + 1 + 1 + 1) (irow .u8 (bl (rnd K l 0))) (by omega)).trans R3
  replace R2 := setRow_heap w1 (w.heap.size + 1 + 1) _ (irow .u8 (bl (rnd K l 0))) _ _ R2
  replace hw := below_setRow hw (show w.heap.size ≤ w.heap.size + 1 + 1 by omega) (irow .u8 (bl (rnd K l 0)))
  generalize w1.setRow (w.heap.size + 1 + 1) (irow .u8 (bl (rnd K l 0))) = w2 at *
  go_wp2_with (fail)
  go_loopw [7] (fun i wr => ∃ n : Nat, n ≤ 13 ∧ i = .int .i64 ((n : Int) + 1) ∧ wr.heap[w.heap.size]? = some (.cells (irow .u8 (bl (sbl))) 55 (0, 0)) ∧ wr.heap[w.heap.size + 1]? = some (.cells (irow .u8 (bl (K))) 32 (0, 0)) ∧ wr.heap[w.heap.size + 1 + 1]? = some (.cells (irow .u8 (bl (rnd K l n))) 31 (0, 0)) ∧ wr.heap[w.heap.size + 1 + 1 + 1]? = some (.cells (irow .u8 (zr 16)) 31 (0, 0)) ∧ Below w.heap.size w wr) (fun i _ => 14 - (intOf i).toNat)
  case atStart => exact ⟨0, by omega, rfl, R0, R1, R2, R3, hw⟩
  case round =>
    clear R0 R1 R2 R3 hw
    obtain ⟨n, hn, rfl, r0, r1, r2, r3, hw⟩ := hrel
    by_cases hlt : n < 13
    · have hd : decide ((n : Int) + 1 < 14) = true := by simp; omega
      have hiB := info_bl infoR (rnd K l n) (rnd_len _ _ _)
      have hik := info_bl infoR (kr K (n + 1)) (kr_len _ _)
      have hpk := bl_kr K hK (n + 1) (by omega)
      have cs1 := r_subShift (rnd K l n) (rnd_len _ _ _)
      have cs2 := r_mix (shiftL (subL (rnd K l n))) (shiftL_len _)
      have cs3 := r_xor (mixL (shiftL (subL (rnd K l n)))) (kr K (n + 1)) (mix_len _) (kr_len _ _)
      go_wp2_with (fail)
      have HR0 := keepr r0
      have HR1 := keepr r1
      have HR2 := keepr r2
      refine wp_region_tail (C := fun w' => ∃ p : Regrown, w' = grow (redrawn wr p.d) p.os) 8 _ rfl rfl rfl (by kernel_rfl) (by kernel_rfl) (by kernel_rfl) (by kernel_rfl) ⟨⟨wr.drawn + 1, #[]⟩, by rw [grow_empty]; rfl⟩ ?_
      dsimp only [List.set, idle]
      refine wpQuiet_load_row rfl 55 _ rfl (w.heap.size) rfl 55 (irow .u8 (bl (sbl))) (0, 0) _ HR0.out Try.underlying55 rfl hiT ?_
      simp only [Act.put, List.setIfInBounds_toArray, List.set_cons_succ, List.set_cons_zero]
      refine wpQuiet_load_row rfl 31 _ rfl (w.heap.size + 1 + 1) rfl 31 (irow .u8 (bl (rnd K l n))) (0, 0) _ HR2.out Try.underlying31 rfl hiB ?_
      simp only [Act.put, List.setIfInBounds_toArray, List.set_cons_succ, List.set_cons_zero]
      go_big_quiet_step (exact cs1.re)
      go_big_quiet_step (exact cs2.re)
      go_big_quiet_step (fail)
      go_big_quiet_step (fail)
      refine wpQuiet_load_part rfl 31 _ rfl (w.heap.size + 1) ((n + 1) * 16) rfl 32 (irow .u8 (bl (K))) (0, 0) (irow .u8 (bl (kr K (n + 1)))) _ HR1.out hpk Try.underlying31 rfl hik ?_
      simp only [Act.put, List.setIfInBounds_toArray, List.set_cons_succ, List.set_cons_zero]
      go_big_quiet_step (exact cs3.re)
      refine wpQuiet_idle rfl rfl rfl ?_
      rintro _ ⟨p, rfl⟩
      have hb := below_regrown wr p.d p.os
      generalize grow (redrawn wr p.d) p.os = w3 at *
      replace r0 := keep hb r0
      replace r1 := keep hb r1
      replace r2 := keep hb r2
      replace r3 := keep hb r3
      replace hw := Below.after hw hb
      clear hb

      refine wpList_store_row rfl 31 _ _ rfl (w.heap.size + 1 + 1) (irow .u8 (bl (rnd K l (n + 1)))) rfl rfl 31 _ r2 (info_bl infoR _ (rnd_len _ _ _)) (by rw [irow_size, irow_size, bl_len, bl_len, rnd_len, rnd_len]) (irow_one _ _) ?_
      simp only [Act.put]
      replace r0 := (setRow_other w3 (w.heap.size + 1 + 1) (w.heap.size) (irow .u8 (bl (rnd K l (n + 1)))) (by omega)).trans r0
      replace r1 := (setRow_other w3 (w.heap.size + 1 + 1) (w.heap.size + 1) (irow .u8 (bl (rnd K l (n + 1)))) (by omega)).trans r1
      replace r3 := (setRow_other w3 (w.heap.size + 1 + 1) (w.heap.size + 1 + 1 + 1) (irow .u8 (bl (rnd K l (n + 1)))) (by omega)).trans r3
      replace r2 := setRow_heap w3 (w.heap.size + 1 + 1) _ (irow .u8 (bl (rnd K l (n + 1)))) _ _ r2
      replace hw := below_setRow hw (show w.heap.size ≤ w.heap.size + 1 + 1 by omega) (irow .u8 (bl (rnd K l (n + 1))))
      generalize w3.setRow (w.heap.size + 1 + 1) (irow .u8 (bl (rnd K l (n + 1)))) = w4 at *

      clear HR0 HR1 HR2 cs1 cs2 cs3 hpk
      go_wp2
      refine ⟨⟨n + 1, by omega, by go_num, r0, r1, r2, r3, hw⟩, by simp [intOf]; omega⟩
    · obtain rfl : n = 13 := by omega
      have hd : decide (((13 : Nat) : Int) + 1 < 14) = false := by decide
      have hiB := info_bl infoR (rnd K l 13) (rnd_len _ _ _)
      have hik := info_bl infoR (kr K 14) (kr_len _ _)
      have hpk := bl_kr K hK 14 (by omega)
      have cs1 := r_subShift (rnd K l 13) (rnd_len _ _ _)
      have cs3 := r_xor (shiftL (subL (rnd K l 13))) (kr K 14) (shiftL_len _) (kr_len _ _)
      have hi9 := info_bl infoR (enc K l) (enc_len _ _)
      clear hn hlt
      go_wp2_with (fail)
      have HR0 := keepr r0
      have HR1 := keepr r1
      have HR2 := keepr r2
      refine wp_region_tail (C := fun w' => ∃ p : Regrown, w' = grow (redrawn wr p.d) p.os) 6 _ rfl rfl rfl (by kernel_rfl) (by kernel_rfl) (by kernel_rfl) (by kernel_rfl) ⟨⟨wr.drawn + 1, #[]⟩, by rw [grow_empty]; rfl⟩ ?_
      dsimp only [List.set, idle]
      refine wpQuiet_load_row rfl 55 _ rfl (w.heap.size) rfl 55 (irow .u8 (bl (sbl))) (0, 0) _ HR0.out Try.underlying55 rfl hiT ?_
      simp only [Act.put, List.setIfInBounds_toArray, List.set_cons_succ, List.set_cons_zero]
      refine wpQuiet_load_row rfl 31 _ rfl (w.heap.size + 1 + 1) rfl 31 (irow .u8 (bl (rnd K l 13))) (0, 0) _ HR2.out Try.underlying31 rfl hiB ?_
      simp only [Act.put, List.setIfInBounds_toArray, List.set_cons_succ, List.set_cons_zero]
      go_big_quiet_step (exact cs1.re)
      go_big_quiet_step (fail)
      refine wpQuiet_load_part rfl 31 _ rfl (w.heap.size + 1) (14 * 16) rfl 32 (irow .u8 (bl (K))) (0, 0) (irow .u8 (bl (kr K 14))) _ HR1.out hpk Try.underlying31 rfl hik ?_
      simp only [Act.put, List.setIfInBounds_toArray, List.set_cons_succ, List.set_cons_zero]
      go_big_quiet_step (exact cs3.re)
      refine wpQuiet_idle rfl rfl rfl ?_
      rintro _ ⟨p, rfl⟩
      have hb := below_regrown wr p.d p.os
      generalize grow (redrawn wr p.d) p.os = w3 at *
      replace r0 := keep hb r0
      replace r1 := keep hb r1
      replace r2 := keep hb r2
      replace r3 := keep hb r3
      replace hw := Below.after hw hb
      clear hb

      refine wpList_store_row rfl 31 _ _ rfl (w.heap.size + 1 + 1 + 1) (irow .u8 (bl (enc K l))) rfl rfl 31 _ r3 hi9 (by rw [irow_size, irow_size, zr_len, bl_len, enc_len]) (irow_one _ _) ?_
      simp only [Act.put]
      replace r3 := setRow_heap w3 (w.heap.size + 1 + 1 + 1) _ (irow .u8 (bl (enc K l))) _ _ r3
      replace hw := below_setRow hw (show w.heap.size ≤ w.heap.size + 1 + 1 + 1 by omega) (irow .u8 (bl (enc K l)))
      generalize w3.setRow (w.heap.size + 1 + 1 + 1) (irow .u8 (bl (enc K l))) = w4 at *

      go_wp2_with (fail)
      exact bodyPost_ret (v := .agg (irow .u8 (bl (enc K l)))) (results_cell_row Try.results42 _ _ (w.heap.size + 1 + 1 + 1) _ _ _ _ rfl r3 Try.underlying31 rfl hi9) rfl ⟨rfl, hw⟩

end Go.Proofs.Ytmldmlbmfbdjoaa


namespace Go.Proofs.Ytmldmlbmfbdjoaa
open Go Go.RowKit Go.Sort
attribute [local go_sem] setCell_drewN alloc_drewN


set_option maxRecDepth 100000 in
set_option maxHeartbeats 4000000 in
theorem r_encrypt (key l : List B) (hk : key.length = 32) (hl : l.length = 16) : Gives 19 #[.agg (irow .u8 (bl (key))), .agg (irow .u8 (bl (l)))] (.agg (irow .u8 (bl (enc (ks key 60) l)))) := by
  intro w
  have R0 := hp3_0 w (.cells (irow .u8 (bl (key))) 26) (.cells (irow .u8 (bl (l))) 31) (.cells (irow .u8 (zr 16)) 31)
  have R1 := hp3_1 w (.cells (irow .u8 (bl (key))) 26) (.cells (irow .u8 (bl (l))) 31) (.cells (irow .u8 (zr 16)) 31)
  have R2 := hp3_2 w (.cells (irow .u8 (bl (key))) 26) (.cells (irow .u8 (bl (l))) 31) (.cells (irow .u8 (zr 16)) 31)
  have hw : Below w.heap.size w (((w.alloc (.cells (irow .u8 (bl (key))) 26)).alloc (.cells (irow .u8 (bl (l))) 31)).alloc (.cells (irow .u8 (zr 16)) 31)) := ((((Below.refl _ _).alloc (Nat.le_refl _) _).alloc (by simp) _).alloc (by simp; omega) _)

  have hzT : ∀ W : World, (Instr.alloc 55 true (.tuple #[])).run Try.prog W = .ok (.pointer (some ⟨W.heap.size, 0, none⟩)) (W.alloc (.cells (irow .u8 (bl (pt (fun x => sb (BitVec.ofNat 8 x)) 256 0))) 55)) := by rw [← zr_pt]; exact z256
  have hiT := info256 sbl sbl_len
  have hfT := fit256 (pt (fun x => sb (BitVec.ofNat 8 x)) 256 0) sbl (pt_len _ _ _) sbl_len
  have hiK := info_bl infoKy key hk
  have hi0 := info_bl infoR l hl
  have hi9 := info_bl infoR (enc (ks key 60) l) (enc_len _ _)
  have ct := r_table
  have ck := r_keysBy key hk
  have ce := r_encryptBy (ks key 60) l (ks_len _ _) hl
  go_enter Try.func19, Try.ntmps19
  go_wp2_with (first | (refine wpList_box rfl 26 _ rfl _ rfl (bKey _) ?_) | (refine wpList_box rfl 31 _ rfl _ rfl (bR _) ?_) | (refine wpList_alloc rfl 31 rfl (irow .u8 (zr 16)) zR ?_) | fail)
  try simp only [size_alloc1, Act.put, List.setIfInBounds_toArray, List.set_cons_succ, List.set_cons_zero]
  generalize World.alloc _ _ = w0 at *
  refine (ct.at _).mono ?_
  rintro e_ w1 ⟨rfl, hb⟩
  replace R0 := keep hb R0
  replace R1 := keep hb R1
  replace R2 := keep hb R2
  replace hw := Below.after hw hb
  clear hb

  have RT := hp1_0 w1 (.cells (irow .u8 (bl (pt (fun x => sb (BitVec.ofNat 8 x)) 256 0))) 55)
  have HB : Below w1.heap.size w1 (w1.alloc (.cells (irow .u8 (bl (pt (fun x => sb (BitVec.ofNat 8 x)) 256 0))) 55)) := (Below.refl _ _).alloc (Nat.le_refl _) _
  go_wp2_with (first | (refine wpList_alloc rfl 55 rfl (irow .u8 (bl (pt (fun x => sb (BitVec.ofNat 8 x)) 256 0))) hzT ?_) | (refine wpList_store_row rfl 55 _ _ rfl (w1.heap.size) (irow .u8 (bl (sbl))) rfl rfl 55 _ RT hiT hfT (irow_one _ _) ?_; refine wpList_stay ?_) | fail)
  unfold WpStay
  have hsz_ := hw.size
  have lR0 := lt_of_row R0
  replace R0 := (setRow_other _ (w1.heap.size) _ (irow .u8 (bl (sbl))) (Nat.ne_of_lt lR0)).trans (keep HB R0)
  have lR1 := lt_of_row R1
  replace R1 := (setRow_other _ (w1.heap.size) _ (irow .u8 (bl (sbl))) (Nat.ne_of_lt lR1)).trans (keep HB R1)
  have lR2 := lt_of_row R2
  replace R2 := (setRow_other _ (w1.heap.size) _ (irow .u8 (bl (sbl))) (Nat.ne_of_lt lR2)).trans (keep HB R2)
  replace RT := setRow_heap _ (w1.heap.size) _ (irow .u8 (bl (sbl))) _ _ RT
  replace hw := below_setRow (Below.after hw HB) hsz_ (irow .u8 (bl (sbl)))
  clear HB
  generalize World.setRow _ (w1.heap.size) (irow .u8 (bl (sbl))) = w2 at *
  generalize w1.heap.size = gT at *

  go_wp2_with (fail)
  have HR0 := keepr R0
  have HR1 := keepr R1
  have HRT := keepr RT
  refine wp_region_tail (C := fun w' => ∃ p : Regrown, w' = grow (redrawn w2 p.d) p.os) 6 _ rfl rfl rfl (by kernel_rfl) (by kernel_rfl) (by kernel_rfl) (by kernel_rfl) ⟨⟨w2.drawn + 1, #[]⟩, by rw [grow_empty]; rfl⟩ ?_
  dsimp only [List.set, idle]
  refine wpQuiet_load_row rfl 55 _ rfl (gT) rfl 55 (irow .u8 (bl (sbl))) (0, 0) _ HRT.out Try.underlying55 rfl hiT ?_
  simp only [Act.put, List.setIfInBounds_toArray, List.set_cons_succ, List.set_cons_zero]
  refine wpQuiet_load_row rfl 55 _ rfl (gT) rfl 55 (irow .u8 (bl (sbl))) (0, 0) _ HRT.out Try.underlying55 rfl hiT ?_
  simp only [Act.put, List.setIfInBounds_toArray, List.set_cons_succ, List.set_cons_zero]
  refine wpQuiet_load_row rfl 26 _ rfl (w.heap.size) rfl 26 (irow .u8 (bl (key))) (0, 0) _ HR0.out Try.underlying26 rfl hiK ?_
  simp only [Act.put, List.setIfInBounds_toArray, List.set_cons_succ, List.set_cons_zero]
  go_big_quiet_step (exact ck.re)
  refine wpQuiet_load_row rfl 31 _ rfl (w.heap.size + 1) rfl 31 (irow .u8 (bl (l))) (0, 0) _ HR1.out Try.underlying31 rfl hi0 ?_
  simp only [Act.put, List.setIfInBounds_toArray, List.set_cons_succ, List.set_cons_zero]
  go_big_quiet_step (exact ce.re)
  refine wpQuiet_idle rfl rfl rfl ?_
  rintro _ ⟨p, rfl⟩
  have hb := below_regrown w2 p.d p.os
  generalize grow (redrawn w2 p.d) p.os = w3 at *
  replace R0 := keep hb R0
  replace R1 := keep hb R1
  replace R2 := keep hb R2
  replace hw := Below.after hw hb
  clear hb

  refine wpList_store_row rfl 31 _ _ rfl (w.heap.size + 1 + 1) (irow .u8 (bl (enc (ks key 60) l))) rfl rfl 31 _ R2 hi9 (by rw [irow_size, irow_size, zr_len, bl_len, enc_len]) (irow_one _ _) ?_
  simp only [Act.put]
  replace R2 := setRow_heap w3 (w.heap.size + 1 + 1) _ (irow .u8 (bl (enc (ks key 60) l))) _ _ R2
  replace hw := below_setRow hw (show w.heap.size ≤ w.heap.size + 1 + 1 by omega) (irow .u8 (bl (enc (ks key 60) l)))
  generalize w3.setRow (w.heap.size + 1 + 1) (irow .u8 (bl (enc (ks key 60) l))) = w9 at *
  go_wp2_with (fail)
  exact bodyPost_ret (v := .agg (irow .u8 (bl (enc (ks key 60) l)))) (results_cell_row Try.results19 _ _ (w.heap.size + 1 + 1) _ _ _ _ rfl R2 Try.underlying31 rfl hi9) rfl ⟨rfl, hw⟩

/-- Back and then the rows turned, byte by byte. -/
def fl (b : List B) : Nat → List B
  | 0 => List.replicate 16 0#8
  | n + 1 => (fl b n).set (n % 4 + 4 * ((n / 4 + n % 4) % 4)) (bk (b.getD n 0#8))
theorem fl_len (b : List B) (n : Nat) : (fl b n).length = 16 := by
  induction n with
  | zero => rfl
  | succ n ih => rw [fl, List.length_set, ih]
theorem fl_all (b : List B) : fl b 16 = unsubL (unshiftL b) := by
  rfl
def dst (K l : List B) : Nat → List B
  | 0 => xorL l (kr K 14)
  | n + 1 => if n < 13 then unmixL (xorL (dnd K l n) (kr K (13 - n))) else dec K l
theorem dst_len (K l : List B) (n : Nat) : (dst K l n).length = 16 := by
  cases n with
  | zero => exact xorL_len _ _
  | succ n => rw [dst]; split; exact unmix_len _; exact dec_len _ _
theorem dnd_dst (K l : List B) (n : Nat) (h : n ≤ 13) : unsubL (unshiftL (dst K l n)) = dnd K l n := by
  cases n with
  | zero => rfl
  | succ n => rw [dst, if_pos (by omega), dnd]

set_option maxRecDepth 100000 in
set_option maxHeartbeats 8000000 in
theorem r_decrypt (key l : List B) (hk : key.length = 32) (hl : l.length = 16) : Gives 21 #[.agg (irow .u8 (bl (key))), .agg (irow .u8 (bl (l)))] (.agg (irow .u8 (bl (dec (ks key 60) l)))) := by
  intro w
  have R0 := hp3_0 w (.cells (irow .u8 (bl (key))) 26) (.cells (irow .u8 (bl (l))) 31) (.cells (irow .u8 (zr 16)) 31)
  have R1 := hp3_1 w (.cells (irow .u8 (bl (key))) 26) (.cells (irow .u8 (bl (l))) 31) (.cells (irow .u8 (zr 16)) 31)
  have R2 := hp3_2 w (.cells (irow .u8 (bl (key))) 26) (.cells (irow .u8 (bl (l))) 31) (.cells (irow .u8 (zr 16)) 31)
  have hw : Below w.heap.size w (((w.alloc (.cells (irow .u8 (bl (key))) 26)).alloc (.cells (irow .u8 (bl (l))) 31)).alloc (.cells (irow .u8 (zr 16)) 31)) := ((((Below.refl _ _).alloc (Nat.le_refl _) _).alloc (by simp) _).alloc (by simp; omega) _)

  have hzT : ∀ W : World, (Instr.alloc 55 true (.tuple #[])).run Try.prog W = .ok (.pointer (some ⟨W.heap.size, 0, none⟩)) (W.alloc (.cells (irow .u8 (bl (pt (fun x => sb (BitVec.ofNat 8 x)) 256 0))) 55)) := by rw [← zr_pt]; exact z256
  have hzB : ∀ W : World, (Instr.alloc 55 true (.tuple #[])).run Try.prog W = .ok (.pointer (some ⟨W.heap.size, 0, none⟩)) (W.alloc (.cells (irow .u8 (bl (bo 0))) 55)) := by rw [show bo 0 = List.replicate 256 0#8 from rfl, bl_zr]; exact z256
  have hiT := info256 sbl sbl_len
  have hfT := fit256 (pt (fun x => sb (BitVec.ofNat 8 x)) 256 0) sbl (pt_len _ _ _) sbl_len
  have hiK := info_bl infoKy key hk
  have ct := r_table
  have ck := r_keysBy key hk
  obtain ⟨K, hK⟩ : ∃ K, K = ks key 60 := ⟨_, rfl⟩
  have hKl : K.length = 240 := by rw [hK, ks_len]
  rw [← hK] at ck ⊢
  clear hK
  go_enter Try.func21, Try.ntmps21
  go_wp2_with (first | (refine wpList_box rfl 26 _ rfl _ rfl (bKey _) ?_) | (refine wpList_box rfl 31 _ rfl _ rfl (bR _) ?_) | (refine wpList_alloc rfl 31 rfl (irow .u8 (zr 16)) zR ?_) | fail)
  try simp only [size_alloc1, Act.put, List.setIfInBounds_toArray, List.set_cons_succ, List.set_cons_zero]
  generalize World.alloc _ _ = w0 at *
  refine (ct.at _).mono ?_
  rintro e_ w1 ⟨rfl, hb⟩
  replace R0 := keep hb R0
  replace R1 := keep hb R1
  replace R2 := keep hb R2
  replace hw := Below.after hw hb
  clear hb

  have RT := hp1_0 w1 (.cells (irow .u8 (bl (pt (fun x => sb (BitVec.ofNat 8 x)) 256 0))) 55)
  have HB : Below w1.heap.size w1 (w1.alloc (.cells (irow .u8 (bl (pt (fun x => sb (BitVec.ofNat 8 x)) 256 0))) 55)) := (Below.refl _ _).alloc (Nat.le_refl _) _
  go_wp2_with (first | (refine wpList_alloc rfl 55 rfl (irow .u8 (bl (pt (fun x => sb (BitVec.ofNat 8 x)) 256 0))) hzT ?_) | (refine wpList_store_row rfl 55 _ _ rfl (w1.heap.size) (irow .u8 (bl (sbl))) rfl rfl 55 _ RT hiT hfT (irow_one _ _) ?_; refine wpList_stay ?_) | fail)
  unfold WpStay
  have hsz_ := hw.size
  have lR0 := lt_of_row R0
  replace R0 := (setRow_other _ (w1.heap.size) _ (irow .u8 (bl (sbl))) (Nat.ne_of_lt lR0)).trans (keep HB R0)
  have lR1 := lt_of_row R1
  replace R1 := (setRow_other _ (w1.heap.size) _ (irow .u8 (bl (sbl))) (Nat.ne_of_lt lR1)).trans (keep HB R1)
  have lR2 := lt_of_row R2
  replace R2 := (setRow_other _ (w1.heap.size) _ (irow .u8 (bl (sbl))) (Nat.ne_of_lt lR2)).trans (keep HB R2)
  replace RT := setRow_heap _ (w1.heap.size) _ (irow .u8 (bl (sbl))) _ _ RT
  replace hw := below_setRow (Below.after hw HB) hsz_ (irow .u8 (bl (sbl)))
  clear HB
  generalize World.setRow _ (w1.heap.size) (irow .u8 (bl (sbl))) = w2 at *
  generalize w1.heap.size = gT at *

  have RB := hp1_0 w2 (.cells (irow .u8 (bl (bo 0))) 55)
  have HB : Below w2.heap.size w2 (w2.alloc (.cells (irow .u8 (bl (bo 0))) 55)) := (Below.refl _ _).alloc (Nat.le_refl _) _
  have lT := lt_of_row RT
  have lR2 := lt_of_row R2
  go_wp2_with (first | (refine wpList_alloc rfl 55 rfl (irow .u8 (bl (bo 0))) hzB ?_) | fail)
  replace R0 := keep HB R0
  replace R1 := keep HB R1
  replace R2 := keep HB R2
  replace RT := keep HB RT
  replace hw := Below.after hw HB
  clear HB hzT hzB ct
  generalize World.alloc _ _ = w3 at *
  generalize w2.heap.size = gB at *
  go_loopw [7] (fun i wr => ∃ k : Nat, k ≤ 256 ∧ i = .int .i64 k ∧ wr.heap[w.heap.size]? = some (.cells (irow .u8 (bl (key))) 26 (0, 0)) ∧ wr.heap[w.heap.size + 1]? = some (.cells (irow .u8 (bl (l))) 31 (0, 0)) ∧ wr.heap[w.heap.size + 1 + 1]? = some (.cells (irow .u8 (zr 16)) 31 (0, 0)) ∧ wr.heap[gT]? = some (.cells (irow .u8 (bl (sbl))) 55 (0, 0)) ∧ wr.heap[gB]? = some (.cells (irow .u8 (bl (bo k))) 55 (0, 0)) ∧ Below w.heap.size w wr) (fun i _ => 256 - (intOf i).toNat)
  case atStart => exact ⟨0, by omega, rfl, R0, R1, R2, RT, RB, hw⟩
  case round =>
    clear R0 R1 R2 RT RB hw
    obtain ⟨k, hk2, rfl, r0, r1, r2, rT, rB, hw⟩ := hrel
    by_cases hlt : k < 256
    · have hd : decide ((k : Int) < 256) = true := by simp; omega
      have c0 := brow_cell rT (j := k) (by rw [sbl_len]; exact hlt)
      rw [sbl, pt_get _ _ _ hlt hlt] at c0
      have e6 := bv_nat (sb (BitVec.ofNat 8 k))
      have b6 := bnd (sb (BitVec.ofNat 8 k))
      have ek := of_bv k hlt
      have c1 := brow_cell rB (j := (sb (BitVec.ofNat 8 k)).toNat) (by rw [bo, fil_len]; exact (sb (BitVec.ofNat 8 k)).isLt)
      have hf1 := row_frozen rB (sb (BitVec.ofNat 8 k)).toNat
      go_wp2
      refine ⟨⟨k + 1, by omega, by go_num, heap_other r0 (by omega), heap_other r1 (by omega), heap_other r2 (by omega), heap_other rT (by omega), ?_, hw.setCell (show w.heap.size ≤ gB by omega) _⟩, by simp [intOf]; omega⟩
      have := brow_set rB (sb (BitVec.ofNat 8 k)).toNat (BitVec.ofNat 8 k)
      rw [ek] at this
      exact this
    · obtain rfl : k = 256 := by omega
      have hd : decide ((256 : Int) < 256) = false := by decide
      rw [bo_all] at rB
      replace rB : wr.heap[gB]? = some (.cells (irow .u8 (bl (bkl))) 55 (0, 0)) := rB
      clear hk2 hlt
      go_wp2_with (first | (refine wpList_load_want rfl 55 _ rfl (gT) rfl 55 (irow .u8 (bl (sbl))) (0, 0) _ rT Try.underlying55 rfl hiT ?_) | (refine wpList_load_want rfl 26 _ rfl (w.heap.size) rfl 26 (irow .u8 (bl (key))) (0, 0) _ r0 Try.underlying26 rfl hiK ?_) | fail)
      refine (ck.at _).mono ?_
      rintro e_ w4 ⟨rfl, hb⟩
      replace r0 := keep hb r0
      replace r1 := keep hb r1
      replace r2 := keep hb r2
      replace rT := keep hb rT
      replace rB := keep hb rB
      replace hw := Below.after hw hb
      clear hb

      have hiQ := info_bl info32 K hKl
      have hfQ : (irow .u8 (zr 240)).size = (irow .u8 (bl (K))).size := by rw [irow_size, irow_size, zr_len, bl_len, hKl]
      have rK := hp1_0 w4 (.cells (irow .u8 (zr 240)) 32)
      have HB : Below w4.heap.size w4 (w4.alloc (.cells (irow .u8 (zr 240)) 32)) := (Below.refl _ _).alloc (Nat.le_refl _) _
      go_wp2_with (first | (refine wpList_alloc rfl 32 rfl (irow .u8 (zr 240)) z32 ?_) | (refine wpList_store_row rfl 32 _ _ rfl (w4.heap.size) (irow .u8 (bl (K))) rfl rfl 32 _ rK hiQ hfQ (irow_one _ _) ?_; refine wpList_stay ?_) | fail)
      unfold WpStay
      have hsz_ := hw.size
      have lr0 := lt_of_row r0
      replace r0 := (setRow_other _ (w4.heap.size) _ (irow .u8 (bl (K))) (Nat.ne_of_lt lr0)).trans (keep HB r0)
      have lr1 := lt_of_row r1
      replace r1 := (setRow_other _ (w4.heap.size) _ (irow .u8 (bl (K))) (Nat.ne_of_lt lr1)).trans (keep HB r1)
      have lr2 := lt_of_row r2
      replace r2 := (setRow_other _ (w4.heap.size) _ (irow .u8 (bl (K))) (Nat.ne_of_lt lr2)).trans (keep HB r2)
      have lrT := lt_of_row rT
      replace rT := (setRow_other _ (w4.heap.size) _ (irow .u8 (bl (K))) (Nat.ne_of_lt lrT)).trans (keep HB rT)
      have lrB := lt_of_row rB
      replace rB := (setRow_other _ (w4.heap.size) _ (irow .u8 (bl (K))) (Nat.ne_of_lt lrB)).trans (keep HB rB)
      replace rK := setRow_heap _ (w4.heap.size) _ (irow .u8 (bl (K))) _ _ rK
      replace hw := below_setRow (Below.after hw HB) hsz_ (irow .u8 (bl (K)))
      clear HB
      generalize World.setRow _ (w4.heap.size) (irow .u8 (bl (K))) = w5 at *
      generalize w4.heap.size = gK at *

      have hi0 := info_bl infoR l hl
      have hik := info_bl infoR (kr K 14) (kr_len _ _)
      have hpk := bl_kr K hKl 14 (by omega)
      have cx := r_xor l (kr K 14) hl (kr_len _ _)
      have lrK := lt_of_row rK
      go_wp2_with (first | (refine wpList_load_want rfl 31 _ rfl (w.heap.size + 1) rfl 31 (irow .u8 (bl (l))) (0, 0) _ r1 Try.underlying31 rfl hi0 ?_) | (refine wpList_load_part rfl 31 _ rfl (gK) (14 * 16) rfl 32 (irow .u8 (bl (K))) (0, 0) (irow .u8 (bl (kr K 14))) _ rK hpk Try.underlying31 rfl hik ?_) | fail)
      refine (cx.at _).mono ?_
      rintro e_ w6 ⟨rfl, hb⟩
      replace r1 := keep hb r1
      replace r2 := keep hb r2
      replace rB := keep hb rB
      replace rK := keep hb rK
      replace hw := Below.after hw hb
      clear hb

      clear r0 rT cx hpk hik
      go_wp2_with (first | (refine wpList_store_row rfl 31 _ _ rfl (w.heap.size + 1) (irow .u8 (bl (dst K l 0))) rfl rfl 31 _ r1 (info_bl infoR _ (dst_len _ _ _)) (by rw [irow_size, irow_size, bl_len, bl_len, dst_len, hl]) (irow_one _ _) ?_; refine wpList_stay ?_) | fail)
      unfold WpStay
      replace r2 := (setRow_other w6 (w.heap.size + 1) (w.heap.size + 1 + 1) (irow .u8 (bl (dst K l 0))) (by omega)).trans r2
      replace rB := (setRow_other w6 (w.heap.size + 1) gB (irow .u8 (bl (dst K l 0))) (by omega)).trans rB
      replace rK := (setRow_other w6 (w.heap.size + 1) gK (irow .u8 (bl (dst K l 0))) (by omega)).trans rK
      replace r1 := setRow_heap w6 (w.heap.size + 1) _ (irow .u8 (bl (dst K l 0))) _ _ r1
      replace hw := below_setRow hw (show w.heap.size ≤ w.heap.size + 1 by omega) (irow .u8 (bl (dst K l 0)))
      generalize w6.setRow (w.heap.size + 1) (irow .u8 (bl (dst K l 0))) = w7 at *
      go_wp2_with (fail)
      go_loopw [9] (fun i wr => ∃ n : Nat, n ≤ 14 ∧ i = .int .i64 (13 - (n : Int)) ∧ wr.heap[w.heap.size + 1]? = some (.cells (irow .u8 (bl (dst K l n))) 31 (0, 0)) ∧ wr.heap[w.heap.size + 1 + 1]? = some (.cells (irow .u8 (zr 16)) 31 (0, 0)) ∧ wr.heap[gB]? = some (.cells (irow .u8 (bl (bkl))) 55 (0, 0)) ∧ wr.heap[gK]? = some (.cells (irow .u8 (bl (K))) 32 (0, 0)) ∧ Below w.heap.size w wr) (fun i _ => (intOf i + 1).toNat)
      case atStart => exact ⟨0, by omega, rfl, r1, r2, rB, rK, hw⟩
      case round =>
        clear r1 r2 rB rK hw
        obtain ⟨n, hn, rfl, r1, r2, rB, rK, hw⟩ := hrel
        by_cases hlt : n < 14
        · have hd : decide (13 - (n : Int) ≥ 0) = true := by simp; omega
          have hzS : ∀ W : World, (Instr.alloc 31 true (.tuple #[])).run Try.prog W = .ok (.pointer (some ⟨W.heap.size, 0, none⟩)) (W.alloc (.cells (irow .u8 (bl (fl (dst K l n) 0))) 31)) := by rw [show fl (dst K l n) 0 = List.replicate 16 0#8 from rfl, bl_zr]; exact zR
          have rS := hp1_0 wr (.cells (irow .u8 (bl (fl (dst K l n) 0))) 31)
          have HB : Below wr.heap.size wr (wr.alloc (.cells (irow .u8 (bl (fl (dst K l n) 0))) 31)) := (Below.refl _ _).alloc (Nat.le_refl _) _
          have m2 := lt_of_row r2
          have mB := lt_of_row rB
          have mK := lt_of_row rK
          go_wp2_with (first | (refine wpList_alloc rfl 31 rfl (irow .u8 (bl (fl (dst K l n) 0))) hzS ?_) | fail)
          replace r1 := keep HB r1
          replace r2 := keep HB r2
          replace rB := keep HB rB
          replace rK := keep HB rK
          replace hw := Below.after hw HB
          clear HB hzS
          generalize World.alloc _ _ = w8 at *
          generalize wr.heap.size = gS at *
          obtain ⟨b, hb0⟩ : ∃ b, b = dst K l n := ⟨_, rfl⟩
          have hbl : b.length = 16 := by rw [hb0, dst_len]
          rw [← hb0] at r1 rS
          replace hb0 := hide hb0
          go_loopw [11] (fun i wr => ∃ c : Nat, c ≤ 4 ∧ i = .int .i64 c ∧ wr.heap[w.heap.size + 1]? = some (.cells (irow .u8 (bl (b))) 31 (0, 0)) ∧ wr.heap[w.heap.size + 1 + 1]? = some (.cells (irow .u8 (zr 16)) 31 (0, 0)) ∧ wr.heap[gB]? = some (.cells (irow .u8 (bl (bkl))) 55 (0, 0)) ∧ wr.heap[gK]? = some (.cells (irow .u8 (bl (K))) 32 (0, 0)) ∧ wr.heap[gS]? = some (.cells (irow .u8 (bl (fl b (4 * c)))) 31 (0, 0)) ∧ Below w.heap.size w wr) (fun i _ => 4 - (intOf i).toNat)
          case atStart => exact ⟨0, by omega, rfl, r1, r2, rB, rK, rS, hw⟩
          case round =>
            clear r1 r2 rB rK rS hw
            obtain ⟨c, hc, rfl, r1, r2, rB, rK, rS, hw⟩ := hrel
            by_cases hlc : c < 4
            · have hd : decide ((c : Int) < 4) = true := by simp; omega
              go_wp2_with (fail)
              go_loopw [12] (fun i wr => ∃ k : Nat, k ≤ 4 ∧ i = .int .i64 k ∧ wr.heap[w.heap.size + 1]? = some (.cells (irow .u8 (bl (b))) 31 (0, 0)) ∧ wr.heap[w.heap.size + 1 + 1]? = some (.cells (irow .u8 (zr 16)) 31 (0, 0)) ∧ wr.heap[gB]? = some (.cells (irow .u8 (bl (bkl))) 55 (0, 0)) ∧ wr.heap[gK]? = some (.cells (irow .u8 (bl (K))) 32 (0, 0)) ∧ wr.heap[gS]? = some (.cells (irow .u8 (bl (fl b (4 * c + k)))) 31 (0, 0)) ∧ Below w.heap.size w wr) (fun i _ => 4 - (intOf i).toNat)
              case atStart => exact ⟨0, by omega, rfl, r1, r2, rB, rK, rS, hw⟩
              case round =>
                clear r1 r2 rB rK rS hw
                obtain ⟨k, hk4, rfl, r1, r2, rB, rK, rS, hw⟩ := hrel
                by_cases hlk : k < 4
                · have hd : decide ((k : Int) < 4) = true := by simp; omega
                  have hr : ((c : Int) + (k : Int)).tmod 4 = (((c + k) % 4 : Nat) : Int) := by rw [Int.tmod_eq_emod_of_nonneg (by omega)]; rfl
                  have c1 := brow_cell r1 (j := 4 * c + k) (by omega)
                  have hcm : k + 4 * c = 4 * c + k := by omega
                  have c2 := brow_cell rB (j := (b.getD (4 * c + k) 0#8).toNat) (by rw [bkl_len]; exact (b.getD (4 * c + k) 0#8).isLt)
                  rw [bkl_get] at c2
                  have n1 := bv_nat (b.getD (4 * c + k) 0#8)
                  have b1 := bnd (b.getD (4 * c + k) 0#8)
                  have hset : Hid (fl b (4 * c + k + 1) = (fl b (4 * c + k)).set (k + 4 * ((c + k) % 4)) (bk (b.getD (4 * c + k) 0#8))) := hide (by rw [fl, show (4 * c + k) % 4 = k by omega, show (4 * c + k) / 4 = c by omega])
                  generalize b.getD (4 * c + k) 0#8 = x1 at *
                  generalize bk x1 = x2 at *
                  have cw := brow_cell rS (j := k + 4 * ((c + k) % 4)) (by rw [fl_len]; omega)
                  have hf := row_frozen rS (k + 4 * ((c + k) % 4))
                  go_wp2
                  refine ⟨⟨k + 1, by omega, by go_num, heap_other r1 (by omega), heap_other r2 (by omega), heap_other rB (by omega), heap_other rK (by omega), by rw [← Nat.add_assoc, hset.out]; exact brow_set rS _ x2, hw.setCell (show w.heap.size ≤ gS by omega) _⟩, by simp [intOf]; omega⟩
                · obtain rfl : k = 4 := by omega
                  have hd : decide ((4 : Int) < 4) = false := by decide
                  go_wp2
                  refine ⟨⟨c + 1, by omega, by go_num, r1, r2, rB, rK, rS, hw⟩, by simp [intOf]; omega⟩
            · obtain rfl : c = 4 := by omega
              have hd : decide ((4 : Int) < 4) = false := by decide
              rw [show fl b (4 * 4) = dnd K l n by rw [show 4 * 4 = 16 from rfl, fl_all, hb0.out, dnd_dst K l n (by omega)]] at rS
              clear hc hlc
              have hton : (13 - (n : Int)).toNat = 13 - n := by omega
              have hiS := info_bl infoR (dnd K l n) (dnd_len _ _ _)
              have hik := info_bl infoR (kr K (13 - n)) (kr_len _ _)
              have hpk := bl_kr K hKl (13 - n) (by omega)
              have cx := r_xor (dnd K l n) (kr K (13 - n)) (dnd_len _ _ _) (kr_len _ _)
              have hbn : 0 ≤ 13 - (n : Int) ∧ 13 - (n : Int) < 15 := by omega
              go_wp2_with (fail)
              have HRS := keepr rS
              have HRK := keepr rK
              refine wp_region_tail (C := fun w' => ∃ p : Regrown, w' = grow (redrawn wr p.d) p.os) 5 _ rfl rfl rfl (by kernel_rfl) (by kernel_rfl) (by kernel_rfl) (by kernel_rfl) ⟨⟨wr.drawn + 1, #[]⟩, by rw [grow_empty]; rfl⟩ ?_
              dsimp only [List.set, idle]
              refine wpQuiet_load_row rfl 31 _ rfl (gS) rfl 31 (irow .u8 (bl (dnd K l n))) (0, 0) _ HRS.out Try.underlying31 rfl hiS ?_
              simp only [Act.put, List.setIfInBounds_toArray, List.set_cons_succ, List.set_cons_zero]
              go_big_quiet_step (fail)
              go_big_quiet_step (fail)
              refine wpQuiet_load_part rfl 31 _ rfl (gK) ((13 - n) * 16) rfl 32 (irow .u8 (bl (K))) (0, 0) (irow .u8 (bl (kr K (13 - n)))) _ HRK.out hpk Try.underlying31 rfl hik ?_
              simp only [Act.put, List.setIfInBounds_toArray, List.set_cons_succ, List.set_cons_zero]
              go_big_quiet_step (exact cx.re)
              refine wpQuiet_idle rfl rfl rfl ?_
              rintro _ ⟨p, rfl⟩
              have hb := below_regrown wr p.d p.os
              generalize grow (redrawn wr p.d) p.os = w9 at *
              replace r1 := keep hb r1
              replace r2 := keep hb r2
              replace rB := keep hb rB
              replace rK := keep hb rK
              replace hw := Below.after hw hb
              clear hb

              refine wpList_store_row rfl 31 _ _ rfl (w.heap.size + 1) (irow .u8 (bl (xorL (dnd K l n) (kr K (13 - n))))) rfl rfl 31 _ r1 (info_bl infoR _ (xorL_len _ _)) (by rw [irow_size, irow_size, bl_len, bl_len, xorL_len, hbl]) (irow_one _ _) ?_
              simp only [Act.put]
              replace r2 := (setRow_other w9 (w.heap.size + 1) (w.heap.size + 1 + 1) (irow .u8 (bl (xorL (dnd K l n) (kr K (13 - n))))) (by omega)).trans r2
              replace rB := (setRow_other w9 (w.heap.size + 1) (gB) (irow .u8 (bl (xorL (dnd K l n) (kr K (13 - n))))) (by omega)).trans rB
              replace rK := (setRow_other w9 (w.heap.size + 1) (gK) (irow .u8 (bl (xorL (dnd K l n) (kr K (13 - n))))) (by omega)).trans rK
              replace r1 := setRow_heap w9 (w.heap.size + 1) _ (irow .u8 (bl (xorL (dnd K l n) (kr K (13 - n))))) _ _ r1
              replace hw := below_setRow hw (show w.heap.size ≤ w.heap.size + 1 by omega) (irow .u8 (bl (xorL (dnd K l n) (kr K (13 - n)))))
              generalize w9.setRow (w.heap.size + 1) (irow .u8 (bl (xorL (dnd K l n) (kr K (13 - n))))) = v1 at *

              clear HRS HRK rS hb0 cx hpk hik hiS
              by_cases hn13 : n < 13
              · have hd13 : decide (13 - (n : Int) > 0) = true := by simp; omega
                have hst : Hid (dst K l (n + 1) = unmixL (xorL (dnd K l n) (kr K (13 - n)))) := hide (by rw [dst, if_pos hn13])
                have hiX := info_bl infoR (xorL (dnd K l n) (kr K (13 - n))) (xorL_len _ _)
                have cu := r_unmix (xorL (dnd K l n) (kr K (13 - n))) (xorL_len _ _)
                rw [← hst.out] at cu
                generalize xorL (dnd K l n) (kr K (13 - n)) = X at *
                go_wp2_with (first | (refine wpList_load_want rfl 31 _ rfl (w.heap.size + 1) rfl 31 (irow .u8 (bl (X))) (0, 0) _ r1 Try.underlying31 rfl hiX ?_) | fail)
                refine (cu.at _).mono ?_
                rintro e_ w10 ⟨rfl, hb⟩
                replace r1 := keep hb r1
                replace r2 := keep hb r2
                replace rB := keep hb rB
                replace rK := keep hb rK
                replace hw := Below.after hw hb
                clear hb

                have hXl : X.length = 16 := by have := hiX; rw [infoR, irow_size, bl_len] at this; exact (Option.some.inj this).symm
                go_wp2_with (first | (refine wpList_store_row rfl 31 _ _ rfl (w.heap.size + 1) (irow .u8 (bl (dst K l (n + 1)))) rfl rfl 31 _ r1 (info_bl infoR _ (dst_len _ _ _)) (by rw [irow_size, irow_size, bl_len, bl_len, dst_len, hXl]) (irow_one _ _) ?_; refine wpList_stay ?_) | fail)
                unfold WpStay
                replace r2 := (setRow_other w10 (w.heap.size + 1) (w.heap.size + 1 + 1) (irow .u8 (bl (dst K l (n + 1)))) (by omega)).trans r2
                replace rB := (setRow_other w10 (w.heap.size + 1) gB (irow .u8 (bl (dst K l (n + 1)))) (by omega)).trans rB
                replace rK := (setRow_other w10 (w.heap.size + 1) gK (irow .u8 (bl (dst K l (n + 1)))) (by omega)).trans rK
                replace r1 := setRow_heap w10 (w.heap.size + 1) _ (irow .u8 (bl (dst K l (n + 1)))) _ _ r1
                replace hw := below_setRow hw (show w.heap.size ≤ w.heap.size + 1 by omega) (irow .u8 (bl (dst K l (n + 1))))
                generalize w10.setRow (w.heap.size + 1) (irow .u8 (bl (dst K l (n + 1)))) = v2 at *
                go_wp2
                refine ⟨⟨n + 1, by omega, by congr 1; omega, r1, r2, rB, rK, hw⟩, by simp [intOf]; omega⟩
              · have hd13 : decide (13 - (n : Int) > 0) = false := by simp; omega
                obtain rfl : n = 13 := by omega
                replace r1 : v1.heap[w.heap.size + 1]? = some (.cells (irow .u8 (bl (dst K l 14))) 31 (0, 0)) := r1
                go_wp2
                refine ⟨⟨14, by omega, rfl, r1, r2, rB, rK, hw⟩, by simp [intOf]⟩
        · obtain rfl : n = 14 := by omega
          have hd : decide (13 - ((14 : Nat) : Int) ≥ 0) = false := by decide
          have hi9 := info_bl infoR (dec K l) (dec_len _ _)
          have hfi : (irow .u8 (zr 16)).size = (irow .u8 (bl (dec K l))).size := by rw [irow_size, irow_size, zr_len, bl_len, dec_len]
          replace r1 : wr.heap[w.heap.size + 1]? = some (.cells (irow .u8 (bl (dec K l))) 31 (0, 0)) := r1
          clear hn hlt
          go_wp2_with (first | (refine wpList_load_want rfl 31 _ rfl (w.heap.size + 1) rfl 31 (irow .u8 (bl (dec K l))) (0, 0) _ r1 Try.underlying31 rfl hi9 ?_) | (refine wpList_store_row rfl 31 _ _ rfl (w.heap.size + 1 + 1) (irow .u8 (bl (dec K l))) rfl rfl 31 _ r2 hi9 hfi (irow_one _ _) ?_) | fail)
          replace r2 := setRow_heap wr (w.heap.size + 1 + 1) _ (irow .u8 (bl (dec K l))) _ _ r2
          replace hw := below_setRow hw (show w.heap.size ≤ w.heap.size + 1 + 1 by omega) (irow .u8 (bl (dec K l)))
          generalize wr.setRow (w.heap.size + 1 + 1) (irow .u8 (bl (dec K l))) = w9 at *
          exact bodyPost_ret (v := .agg (irow .u8 (bl (dec K l)))) (results_cell_row Try.results21 _ _ (w.heap.size + 1 + 1) _ _ _ _ rfl r2 Try.underlying31 rfl hi9) rfl ⟨rfl, hw⟩

end Go.Proofs.Ytmldmlbmfbdjoaa

