import Derived.Test.YtmldmlbmfbdjoaaProg
import Derived.WalkKit
import Derived.WalkSpells
import Derived.WalkLawsBesides
import Derived.Lib.QuietBelow
import Derived.BigQuiet
import Derived.Test.YtmldmlbmfbdjoaaS0
import Derived.Test.YtmldmlbmfbdjoaaS1
import Derived.Test.YtmldmlbmfbdjoaaS2
namespace Go.Proofs.Ytmldmlbmfbdjoaa
open Go Go.RowKit Go.Sort
attribute [local go_sem] setCell_drewN alloc_drewN


/-! Lists turned place by place. -/
def pm (f g : Nat → B) (n k : Nat) : List B := (List.range n).map fun j => if j < k then f j else g j
theorem pm_len (f g : Nat → B) (n k : Nat) : (pm f g n k).length = n := by simp [pm]
theorem pm_get (f g : Nat → B) (n k : Nat) (h : k < n) : (pm f g n k).getD k 0#8 = g k := by
  simp [pm, List.getD_eq_getElem?_getD, h]
theorem pm_set (f g : Nat → B) (n k : Nat) (h : k < n) : (pm f g n k).set k (f k) = pm f g n (k + 1) := by
  apply List.ext_getElem?
  intro j
  rw [List.getElem?_set]
  by_cases e : k = j
  · subst e
    rw [if_pos rfl, if_pos (by rw [pm_len]; exact h)]
    simp [pm, h]
  · rw [if_neg e]
    simp only [pm, List.getElem?_map]
    by_cases hj : j < n
    · simp only [List.getElem?_range hj, Option.map_some]
      by_cases h1 : j < k
      · rw [if_pos h1, if_pos (by omega)]
      · rw [if_neg h1, if_neg (by omega)]
    · rw [List.getElem?_eq_none (by simp; omega)]; rfl
theorem pm_zero (f : Nat → B) (l : List B) (hl : l.length = 16) : pm f (gb l) 16 0 = l := by
  apply ext16 (pm_len _ _ _ _) hl
  intro i hi
  simp [pm, List.getD_eq_getElem?_getD, hi, gb]
theorem pm_full (m : List B) (g : Nat → B) (hm : m.length = 16) : pm (gb m) g 16 16 = m := by
  apply ext16 (pm_len _ _ _ _) hm
  intro i hi
  simp [pm, List.getD_eq_getElem?_getD, hi, gb]
theorem bR (cs : Array Value) (W : World) : (Instr.box 31 (.agg cs)).run Try.prog W = .ok (.pointer (some ⟨W.heap.size, 0, none⟩)) (W.alloc (.cells cs 31)) := by kernel_rfl
theorem zR (W : World) : (Instr.alloc 31 true (.tuple #[])).run Try.prog W = .ok (.pointer (some ⟨W.heap.size, 0, none⟩)) (W.alloc (.cells (irow .u8 (zr 16)) 31)) := by kernel_rfl
theorem b256 (cs : Array Value) (W : World) : (Instr.box 55 (.agg cs)).run Try.prog W = .ok (.pointer (some ⟨W.heap.size, 0, none⟩)) (W.alloc (.cells cs 55)) := by kernel_rfl
theorem infoR : (Try.prog.info? 31).map (·.size) = some 16 := by kernel_rfl

set_option maxRecDepth 100000 in
set_option maxHeartbeats 4000000 in
theorem r_xor (a b : List B) (ha : a.length = 16) (hb : b.length = 16) : Gives 46 #[.agg (irow .u8 (bl (a))), .agg (irow .u8 (bl (b)))] (.agg (irow .u8 (bl (xorL a b)))) := by
  intro w
  have R0 := hp3_0 w (.cells (irow .u8 (bl (pm (gb (xorL a b)) (gb a) 16 0))) 31) (.cells (irow .u8 (bl (b))) 31) (.cells (irow .u8 (zr 16)) 31)
  have R1 := hp3_1 w (.cells (irow .u8 (bl (pm (gb (xorL a b)) (gb a) 16 0))) 31) (.cells (irow .u8 (bl (b))) 31) (.cells (irow .u8 (zr 16)) 31)
  have R2 := hp3_2 w (.cells (irow .u8 (bl (pm (gb (xorL a b)) (gb a) 16 0))) 31) (.cells (irow .u8 (bl (b))) 31) (.cells (irow .u8 (zr 16)) 31)
  have hw : Below w.heap.size w (((w.alloc (.cells (irow .u8 (bl (pm (gb (xorL a b)) (gb a) 16 0))) 31)).alloc (.cells (irow .u8 (bl (b))) 31)).alloc (.cells (irow .u8 (zr 16)) 31)) := ((((Below.refl _ _).alloc (Nat.le_refl _) _).alloc (by simp) _).alloc (by simp; omega) _)

  rw [← pm_zero (gb (xorL a b)) a ha]
  go_enter Try.func46, Try.ntmps46
  go_wp2_with (first | (refine wpList_box rfl 31 _ rfl _ rfl (bR _) ?_) | (refine wpList_alloc rfl 31 rfl (irow .u8 (zr 16)) zR ?_) | fail)
  try simp only [size_alloc1, Act.put, List.setIfInBounds_toArray, List.set_cons_succ, List.set_cons_zero]
  generalize World.alloc _ _ = w0 at *
  rw [pm_zero (gb (xorL a b)) a ha]
  go_loopw [5] (fun i wr => ∃ k : Nat, k ≤ 16 ∧ i = .int .i64 k ∧ wr.heap[w.heap.size]? = some (.cells (irow .u8 (bl (pm (gb (xorL a b)) (gb a) 16 k))) 31 (0, 0)) ∧ wr.heap[w.heap.size + 1]? = some (.cells (irow .u8 (bl (b))) 31 (0, 0)) ∧ wr.heap[w.heap.size + 1 + 1]? = some (.cells (irow .u8 (zr 16)) 31 (0, 0)) ∧ Below w.heap.size w wr) (fun i _ => 16 - (intOf i).toNat)
  case atStart => exact ⟨0, by omega, rfl, R0, R1, R2, hw⟩
  case round =>
    clear R0 R1 R2 hw
    obtain ⟨k, hk, rfl, r0, r1, r2, hw⟩ := hrel
    by_cases hlt : k < 16
    · have hd : decide ((k : Int) < 16) = true := by simp; omega
      have c0 := brow_cell r0 (j := k) (by rw [pm_len]; omega)
      rw [pm_get _ _ _ _ hlt] at c0
      have c1 := brow_cell r1 (j := k) (by omega)
      rw [show b.getD k 0#8 = gb b k from rfl] at c1
      have hx := xor8 (gb a k) (gb b k)
      have hset := hide (pm_set (gb (xorL a b)) (gb a) 16 k hlt)
      rw [show gb (xorL a b) k = gb a k ^^^ gb b k from xorL_get a b hlt] at hset
      generalize gb a k = x0 at *
      generalize gb b k = x1 at *
      go_wp2_with (fail)
      have k0 : ∀ p : Regrown, (grow (redrawn wr p.d) p.os).cell? ⟨w.heap.size, k, none⟩ = some (.int .u8 (bv x0)) := fun p => cell_regrown (c0) p.d p.os
      have k1 : ∀ p : Regrown, (grow (redrawn wr p.d) p.os).cell? ⟨w.heap.size + 1, k, none⟩ = some (.int .u8 (bv x1)) := fun p => cell_regrown (c1) p.d p.os
      refine wp_region_tail (C := fun w' => ∃ p : Regrown, w' = grow (redrawn wr p.d) p.os) 9 _ rfl rfl rfl (by kernel_rfl) (by kernel_rfl) (by kernel_rfl) (by kernel_rfl) ⟨⟨wr.drawn + 1, #[]⟩, by rw [grow_empty]; rfl⟩ ?_
      dsimp only [List.set, idle]
      go_big_quiet_step (fail)
      go_big_quiet_step (fail)
      go_big_quiet_step (fail)
      go_big_quiet_step (fail)
      go_big_quiet_step (fail)
      go_big_quiet_step (fail)
      go_big_quiet_step (fail)
      go_big_quiet_step (fail)
      go_big_quiet_step (fail)
      refine wpQuiet_idle rfl rfl rfl ?_
      rintro _ ⟨p, rfl⟩
      have hb := below_regrown wr p.d p.os
      generalize grow (redrawn wr p.d) p.os = w1 at *
      clear k0 k1
      replace r0 := keep hb r0
      replace r1 := keep hb r1
      replace r2 := keep hb r2
      replace hw := Below.after hw hb
      clear hb

      have cw := brow_cell r0 (j := k) (by rw [pm_len]; omega)
      have hf := row_frozen r0 k
      clear c0 c1
      go_wp2
      refine ⟨⟨k + 1, by omega, by go_num, by rw [← hset.out]; exact brow_set r0 k _, heap_other r1 (by omega), heap_other r2 (by omega), hw.setCell (Nat.le_refl _) _⟩, by simp [intOf]; omega⟩
    · obtain rfl : k = 16 := by omega
      have hd : decide ((16 : Int) < 16) = false := by decide
      rw [pm_full _ _ (xorL_len _ _)] at r0
      clear hk hlt
      have hi9 := info_bl infoR (xorL a b) (xorL_len _ _)
      have hfi : (irow .u8 (zr 16)).size = (irow .u8 (bl (xorL a b))).size := by rw [irow_size, irow_size, bl_len, xorL_len, zr_len]
      go_wp2_with (first | (refine wpList_load_want rfl 31 _ rfl (w.heap.size) rfl 31 (irow .u8 (bl (xorL a b))) (0, 0) _ r0 Try.underlying31 rfl hi9 ?_) | (refine wpList_store_row rfl 31 _ _ rfl (w.heap.size + 1 + 1) (irow .u8 (bl (xorL a b))) rfl rfl 31 _ r2 hi9 hfi (irow_one _ _) ?_) | fail)
      replace r2 := setRow_heap wr (w.heap.size + 1 + 1) _ (irow .u8 (bl (xorL a b))) _ _ r2
      replace hw := below_setRow hw (show w.heap.size ≤ w.heap.size + 1 + 1 by omega) (irow .u8 (bl (xorL a b)))
      generalize wr.setRow (w.heap.size + 1 + 1) (irow .u8 (bl (xorL a b))) = w9 at *
      exact bodyPost_ret (v := .agg (irow .u8 (bl (xorL a b)))) (results_cell_row Try.results46 _ _ (w.heap.size + 1 + 1) _ _ _ _ rfl r2 Try.underlying31 rfl hi9) rfl ⟨rfl, hw⟩


set_option maxRecDepth 100000 in
set_option maxHeartbeats 4000000 in
theorem r_subShift (l : List B) (hl : l.length = 16) : Gives 60 #[.agg (irow .u8 (bl (sbl))), .agg (irow .u8 (bl (l)))] (.agg (irow .u8 (bl (shiftL (subL l))))) := by
  intro w
  have hz : ∀ W : World, (Instr.alloc 31 true (.tuple #[])).run Try.prog W = .ok (.pointer (some ⟨W.heap.size, 0, none⟩)) (W.alloc (.cells (irow .u8 (bl (pt (gb (shiftL (subL l))) 16 (0)))) 31)) := by rw [← zr_pt]; exact zR
  have R0 := hp4_0 w (.cells (irow .u8 (bl (sbl))) 55) (.cells (irow .u8 (bl (l))) 31) (.cells (irow .u8 (bl (pt (gb (shiftL (subL l))) 16 0))) 31) (.cells (irow .u8 (bl (pt (gb (shiftL (subL l))) 16 0))) 31)
  have R1 := hp4_1 w (.cells (irow .u8 (bl (sbl))) 55) (.cells (irow .u8 (bl (l))) 31) (.cells (irow .u8 (bl (pt (gb (shiftL (subL l))) 16 0))) 31) (.cells (irow .u8 (bl (pt (gb (shiftL (subL l))) 16 0))) 31)
  have R2 := hp4_2 w (.cells (irow .u8 (bl (sbl))) 55) (.cells (irow .u8 (bl (l))) 31) (.cells (irow .u8 (bl (pt (gb (shiftL (subL l))) 16 0))) 31) (.cells (irow .u8 (bl (pt (gb (shiftL (subL l))) 16 0))) 31)
  have R3 := hp4_3 w (.cells (irow .u8 (bl (sbl))) 55) (.cells (irow .u8 (bl (l))) 31) (.cells (irow .u8 (bl (pt (gb (shiftL (subL l))) 16 0))) 31) (.cells (irow .u8 (bl (pt (gb (shiftL (subL l))) 16 0))) 31)
  have hw : Below w.heap.size w ((((w.alloc (.cells (irow .u8 (bl (sbl))) 55)).alloc (.cells (irow .u8 (bl (l))) 31)).alloc (.cells (irow .u8 (bl (pt (gb (shiftL (subL l))) 16 0))) 31)).alloc (.cells (irow .u8 (bl (pt (gb (shiftL (subL l))) 16 0))) 31)) := (((((Below.refl _ _).alloc (Nat.le_refl _) _).alloc (by simp) _).alloc (by simp; omega) _).alloc (by simp; omega) _)

  go_enter Try.func60, Try.ntmps60
  go_wp2_with (first | (refine wpList_box rfl 55 _ rfl _ rfl (b256 _) ?_) | (refine wpList_box rfl 31 _ rfl _ rfl (bR _) ?_) | (refine wpList_alloc rfl 31 rfl (irow .u8 (bl (pt (gb (shiftL (subL l))) 16 (0)))) hz ?_) | fail)
  try simp only [size_alloc1, Act.put, List.setIfInBounds_toArray, List.set_cons_succ, List.set_cons_zero]
  clear hz
  generalize World.alloc _ _ = w0 at *
  go_loopw [6] (fun i wr => ∃ c : Nat, c ≤ 4 ∧ i = .int .i64 c ∧ wr.heap[w.heap.size]? = some (.cells (irow .u8 (bl (sbl))) 55 (0, 0)) ∧ wr.heap[w.heap.size + 1]? = some (.cells (irow .u8 (bl (l))) 31 (0, 0)) ∧ wr.heap[w.heap.size + 1 + 1]? = some (.cells (irow .u8 (bl (pt (gb (shiftL (subL l))) 16 (0)))) 31 (0, 0)) ∧ wr.heap[w.heap.size + 1 + 1 + 1]? = some (.cells (irow .u8 (bl (pt (gb (shiftL (subL l))) 16 (4 * c)))) 31 (0, 0)) ∧ Below w.heap.size w wr) (fun i _ => 4 - (intOf i).toNat)
  case atStart => exact ⟨0, by omega, rfl, R0, R1, R2, R3, hw⟩
  case round =>
    clear R0 R1 R2 R3 hw
    obtain ⟨c, hc, rfl, r0, r1, r2, r3, hw⟩ := hrel
    by_cases hlc : c < 4
    · have hd : decide ((c : Int) < 4) = true := by simp; omega
      go_wp2_with (fail)
      go_loopw [7] (fun i wr => ∃ k : Nat, k ≤ 4 ∧ i = .int .i64 k ∧ wr.heap[w.heap.size]? = some (.cells (irow .u8 (bl (sbl))) 55 (0, 0)) ∧ wr.heap[w.heap.size + 1]? = some (.cells (irow .u8 (bl (l))) 31 (0, 0)) ∧ wr.heap[w.heap.size + 1 + 1]? = some (.cells (irow .u8 (bl (pt (gb (shiftL (subL l))) 16 (0)))) 31 (0, 0)) ∧ wr.heap[w.heap.size + 1 + 1 + 1]? = some (.cells (irow .u8 (bl (pt (gb (shiftL (subL l))) 16 (4 * c + k)))) 31 (0, 0)) ∧ Below w.heap.size w wr) (fun i _ => 4 - (intOf i).toNat)
      case atStart => exact ⟨0, by omega, rfl, r0, r1, r2, r3, hw⟩
      case round =>
        clear r0 r1 r2 r3 hw
        obtain ⟨k, hk, rfl, r0, r1, r2, r3, hw⟩ := hrel
        by_cases hlt : k < 4
        · have hd : decide ((k : Int) < 4) = true := by simp; omega
          have hr : ((c : Int) + (k : Int)).tmod 4 = (((c + k) % 4 : Nat) : Int) := by rw [Int.tmod_eq_emod_of_nonneg (by omega)]; rfl
          have c1 := brow_cell r1 (j := k + 4 * ((c + k) % 4)) (by omega)
          have hfv : gb (shiftL (subL l)) (4 * c + k) = sb (l.getD (k + 4 * ((c + k) % 4)) 0#8) := by
            rw [gb, shiftL_get _ (by omega), subL_get _ (by omega), show (4 * c + k) % 4 = k by omega, show (4 * c + k) / 4 = c by omega]
          have c2 := brow_cell r0 (j := (l.getD (k + 4 * ((c + k) % 4)) 0#8).toNat) (by rw [sbl_len]; exact (l.getD (k + 4 * ((c + k) % 4)) 0#8).isLt)
          rw [sbl_get, ← hfv] at c2
          have hset := hide (pt_set (gb (shiftL (subL l))) 16 (4 * c + k) (by omega))
          have n1 := bv_nat (l.getD (k + 4 * ((c + k) % 4)) 0#8)
          have b1 := bnd (l.getD (k + 4 * ((c + k) % 4)) 0#8)
          clear hfv
          generalize l.getD (k + 4 * ((c + k) % 4)) 0#8 = x1 at *
          generalize gb (shiftL (subL l)) (4 * c + k) = x2 at *
          have cw := brow_cell r3 (j := 4 * c + k) (by rw [pt_len]; omega)
          have hf := row_frozen r3 (4 * c + k)
          have hcm : k + 4 * c = 4 * c + k := by omega
          go_wp2
          refine ⟨⟨k + 1, by omega, by go_num, heap_other r0 (by omega), heap_other r1 (by omega), heap_other r2 (by omega), by rw [← Nat.add_assoc, ← hset.out]; exact brow_set r3 (4 * c + k) x2, hw.setCell (show w.heap.size ≤ w.heap.size + 1 + 1 + 1 by omega) _⟩, by simp [intOf]; omega⟩
        · obtain rfl : k = 4 := by omega
          have hd : decide ((4 : Int) < 4) = false := by decide
          go_wp2
          refine ⟨⟨c + 1, by omega, by go_num, r0, r1, r2, r3, hw⟩, by simp [intOf]; omega⟩
    · obtain rfl : c = 4 := by omega
      have hd : decide ((4 : Int) < 4) = false := by decide
      rw [show pt (gb (shiftL (subL l))) 16 (4 * 4) = shiftL (subL l) from pt_self _ (shiftL_len _)] at r3
      clear hc hlc
      have hi9 := info_bl infoR (shiftL (subL l)) (shiftL_len _)
      have hfi : (irow .u8 (bl (pt (gb (shiftL (subL l))) 16 (0)))).size = (irow .u8 (bl (shiftL (subL l)))).size := by rw [irow_size, irow_size, bl_len, bl_len, shiftL_len, pt_len]
      go_wp2_with (first | (refine wpList_load_want rfl 31 _ rfl (w.heap.size + 1 + 1 + 1) rfl 31 (irow .u8 (bl (shiftL (subL l)))) (0, 0) _ r3 Try.underlying31 rfl hi9 ?_) | (refine wpList_store_row rfl 31 _ _ rfl (w.heap.size + 1 + 1) (irow .u8 (bl (shiftL (subL l)))) rfl rfl 31 _ r2 hi9 hfi (irow_one _ _) ?_) | fail)
      replace r2 := setRow_heap wr (w.heap.size + 1 + 1) _ (irow .u8 (bl (shiftL (subL l)))) _ _ r2
      replace hw := below_setRow hw (show w.heap.size ≤ w.heap.size + 1 + 1 by omega) (irow .u8 (bl (shiftL (subL l))))
      generalize wr.setRow (w.heap.size + 1 + 1) (irow .u8 (bl (shiftL (subL l)))) = w9 at *
      exact bodyPost_ret (v := .agg (irow .u8 (bl (shiftL (subL l))))) (results_cell_row Try.results60 _ _ (w.heap.size + 1 + 1) _ _ _ _ rfl r2 Try.underlying31 rfl hi9) rfl ⟨rfl, hw⟩


set_option maxRecDepth 100000 in
set_option maxHeartbeats 4000000 in
theorem r_mix (l : List B) (hl : l.length = 16) : Gives 59 #[.agg (irow .u8 (bl (l)))] (.agg (irow .u8 (bl (mixL l)))) := by
  intro w
  have hz : ∀ W : World, (Instr.alloc 31 true (.tuple #[])).run Try.prog W = .ok (.pointer (some ⟨W.heap.size, 0, none⟩)) (W.alloc (.cells (irow .u8 (bl (pt (gb (mixL l)) 16 (0)))) 31)) := by rw [← zr_pt]; exact zR
  have R0 := hp3_0 w (.cells (irow .u8 (bl (l))) 31) (.cells (irow .u8 (bl (pt (gb (mixL l)) 16 (0)))) 31) (.cells (irow .u8 (bl (pt (gb (mixL l)) 16 (0)))) 31)
  have R1 := hp3_1 w (.cells (irow .u8 (bl (l))) 31) (.cells (irow .u8 (bl (pt (gb (mixL l)) 16 (0)))) 31) (.cells (irow .u8 (bl (pt (gb (mixL l)) 16 (0)))) 31)
  have R2 := hp3_2 w (.cells (irow .u8 (bl (l))) 31) (.cells (irow .u8 (bl (pt (gb (mixL l)) 16 (0)))) 31) (.cells (irow .u8 (bl (pt (gb (mixL l)) 16 (0)))) 31)
  have hw : Below w.heap.size w (((w.alloc (.cells (irow .u8 (bl (l))) 31)).alloc (.cells (irow .u8 (bl (pt (gb (mixL l)) 16 (0)))) 31)).alloc (.cells (irow .u8 (bl (pt (gb (mixL l)) 16 (0)))) 31)) := ((((Below.refl _ _).alloc (Nat.le_refl _) _).alloc (by simp) _).alloc (by simp; omega) _)

  go_enter Try.func59, Try.ntmps59
  go_wp2_with (first | (refine wpList_box rfl 31 _ rfl _ rfl (bR _) ?_) | (refine wpList_alloc rfl 31 rfl (irow .u8 (bl (pt (gb (mixL l)) 16 (0)))) hz ?_) | fail)
  try simp only [size_alloc1, Act.put, List.setIfInBounds_toArray, List.set_cons_succ, List.set_cons_zero]
  clear hz
  generalize World.alloc _ _ = w0 at *
  go_loopw [4] (fun i wr => ∃ c : Nat, c ≤ 4 ∧ i = .int .i64 c ∧ wr.heap[w.heap.size]? = some (.cells (irow .u8 (bl (l))) 31 (0, 0)) ∧ wr.heap[w.heap.size + 1]? = some (.cells (irow .u8 (bl (pt (gb (mixL l)) 16 (0)))) 31 (0, 0)) ∧ wr.heap[w.heap.size + 1 + 1]? = some (.cells (irow .u8 (bl (pt (gb (mixL l)) 16 (4 * c)))) 31 (0, 0)) ∧ Below w.heap.size w wr) (fun i _ => 4 - (intOf i).toNat)
  case atStart => exact ⟨0, by omega, rfl, R0, R1, R2, hw⟩
  case round =>
    clear R0 R1 R2 hw
    obtain ⟨c, hc, rfl, r0, r1, r2, hw⟩ := hrel
    by_cases hlc : c < 4
    · have hd : decide ((c : Int) < 4) = true := by simp; omega
      go_wp2_with (fail)
      go_loopw [5] (fun i wr => ∃ k : Nat, k ≤ 4 ∧ i = .int .i64 k ∧ wr.heap[w.heap.size]? = some (.cells (irow .u8 (bl (l))) 31 (0, 0)) ∧ wr.heap[w.heap.size + 1]? = some (.cells (irow .u8 (bl (pt (gb (mixL l)) 16 (0)))) 31 (0, 0)) ∧ wr.heap[w.heap.size + 1 + 1]? = some (.cells (irow .u8 (bl (pt (gb (mixL l)) 16 (4 * c + k)))) 31 (0, 0)) ∧ Below w.heap.size w wr) (fun i _ => 4 - (intOf i).toNat)
      case atStart => exact ⟨0, by omega, rfl, r0, r1, r2, hw⟩
      case round =>
        clear r0 r1 r2 hw
        obtain ⟨k, hk, rfl, r0, r1, r2, hw⟩ := hrel
        by_cases hlt : k < 4
        · have hd : decide ((k : Int) < 4) = true := by simp; omega
          have hr1 : ((k : Int) + 1).tmod 4 = (((k + 1) % 4 : Nat) : Int) := by rw [Int.tmod_eq_emod_of_nonneg (by omega)]; rfl
          have hr2 : ((k : Int) + 2).tmod 4 = (((k + 2) % 4 : Nat) : Int) := by rw [Int.tmod_eq_emod_of_nonneg (by omega)]; rfl
          have hr3 : ((k : Int) + 3).tmod 4 = (((k + 3) % 4 : Nat) : Int) := by rw [Int.tmod_eq_emod_of_nonneg (by omega)]; rfl
          have hfv : gb (mixL l) (4 * c + k) = dbl (l.getD (4 * c + k) 0#8) ^^^ dbl (l.getD (4 * c + (k + 1) % 4) 0#8) ^^^ l.getD (4 * c + (k + 1) % 4) 0#8 ^^^ l.getD (4 * c + (k + 2) % 4) 0#8 ^^^ l.getD (4 * c + (k + 3) % 4) 0#8 := by
            have h1 : gb (mixL l) (4 * c + k) = mg (mixL l) c k := by unfold gb mg; rw [Nat.mod_eq_of_lt hlt]
            rw [h1, mg_mix _ _ _ hlc]
            unfold mg
            rw [Nat.mod_eq_of_lt hlt]
          have q0 := brow_cell r0 (j := 4 * c + k) (by omega)
          have q1 := brow_cell r0 (j := 4 * c + (k + 1) % 4) (by omega)
          have q2 := brow_cell r0 (j := 4 * c + (k + 2) % 4) (by omega)
          have q3 := brow_cell r0 (j := 4 * c + (k + 3) % 4) (by omega)
          have hset := hide (pt_set (gb (mixL l)) 16 (4 * c + k) (by omega))
          rw [hfv] at hset
          clear hfv
          have hq2 : Hid (∀ W : World, W.heap[w.heap.size]? = some (.cells (irow .u8 (bl (l))) 31 (0, 0)) → W.cell? ⟨w.heap.size, 4 * c + (k + 2) % 4, none⟩ = some (.int .u8 (bv (l.getD (4 * c + (k + 2) % 4) 0#8)))) := hide (fun W h => brow_cell h (by omega))
          have hq3 : Hid (∀ W : World, W.heap[w.heap.size]? = some (.cells (irow .u8 (bl (l))) 31 (0, 0)) → W.cell? ⟨w.heap.size, 4 * c + (k + 3) % 4, none⟩ = some (.int .u8 (bv (l.getD (4 * c + (k + 3) % 4) 0#8)))) := hide (fun W h => brow_cell h (by omega))
          generalize l.getD (4 * c + k) 0#8 = x0 at *
          generalize l.getD (4 * c + (k + 1) % 4) 0#8 = x1 at *
          generalize l.getD (4 * c + (k + 2) % 4) 0#8 = x2 at *
          generalize l.getD (4 * c + (k + 3) % 4) 0#8 = x3 at *
          have d0 := r_double x0
          have d1 := r_double x1
          have e1 := xor8 (dbl x0) (dbl x1)
          have e2 := xor8 (dbl x0 ^^^ dbl x1) x1
          have e3 := xor8 (dbl x0 ^^^ dbl x1 ^^^ x1) x2
          have e4 := xor8 (dbl x0 ^^^ dbl x1 ^^^ x1 ^^^ x2) x3
          generalize dbl x0 ^^^ dbl x1 ^^^ x1 ^^^ x2 ^^^ x3 = y4 at *
          generalize dbl x0 ^^^ dbl x1 ^^^ x1 ^^^ x2 = y3 at *
          generalize dbl x0 ^^^ dbl x1 ^^^ x1 = y2 at *
          generalize dbl x0 ^^^ dbl x1 = y1 at *
          go_wp2_with (fail)
          have k0 : ∀ p : Regrown, (grow (redrawn wr p.d) p.os).cell? ⟨w.heap.size, 4 * c + k, none⟩ = some (.int .u8 (bv x0)) := fun p => cell_regrown (q0) p.d p.os
          have k1 : ∀ p : Regrown, (grow (redrawn wr p.d) p.os).cell? ⟨w.heap.size, 4 * c + (k + 1) % 4, none⟩ = some (.int .u8 (bv x1)) := fun p => cell_regrown (q1) p.d p.os
          refine wp_region_quiet_below (by kernel_rfl) (by kernel_rfl) ?_
          go_big_quiet_step (fail)
          go_big_quiet_step (fail)
          go_big_quiet_step (fail)
          go_big_quiet_step (fail)
          go_big_quiet_step (fail)
          go_big_quiet_step (fail)
          go_big_quiet_step (fail)
          go_big_quiet_step (fail)
          go_big_quiet_step (fail)
          go_big_quiet_step (fail)
          go_big_quiet_step (fail)
          go_big_quiet_step (fail)
          go_big_quiet_step (fail)
          go_big_quiet_step (fail)
          go_big_quiet_step (fail)
          go_big_quiet_step (fail)
          refine wpQuiet_nil ?_
          rintro _ ⟨p, rfl⟩
          have hb := below_regrown wr p.d p.os
          generalize grow (redrawn wr p.d) p.os = w1 at *
          clear k0 k1
          replace r0 := keep hb r0
          replace r1 := keep hb r1
          replace r2 := keep hb r2
          replace hw := Below.after hw hb
          clear hb

          have q4 : w1.cell? ⟨w.heap.size, 4 * c + (k + 2) % 4, none⟩ = some (.int .u8 (bv x2)) := hq2.out w1 r0
          have q5 : w1.cell? ⟨w.heap.size, 4 * c + (k + 3) % 4, none⟩ = some (.int .u8 (bv x3)) := hq3.out w1 r0
          clear q0 q1 q2 q3
          go_wp2_with (fail)
          have k2 : ∀ p : Regrown, (grow (redrawn w1 p.d) p.os).cell? ⟨w.heap.size, 4 * c + (k + 2) % 4, none⟩ = some (.int .u8 (bv x2)) := fun p => cell_regrown (q4) p.d p.os
          have k3 : ∀ p : Regrown, (grow (redrawn w1 p.d) p.os).cell? ⟨w.heap.size, 4 * c + (k + 3) % 4, none⟩ = some (.int .u8 (bv x3)) := fun p => cell_regrown (q5) p.d p.os
          refine wp_region_tail (C := fun w' => ∃ p : Regrown, w' = grow (redrawn w1 p.d) p.os) 30 _ rfl rfl rfl (by kernel_rfl) (by kernel_rfl) (by kernel_rfl) (by kernel_rfl) ⟨⟨w1.drawn + 1, #[]⟩, by rw [grow_empty]; rfl⟩ ?_
          dsimp only [List.set, idle]
          go_big_quiet_step (fail)
          go_big_quiet_step (fail)
          go_big_quiet_step (fail)
          go_big_quiet_step (fail)
          go_big_quiet_step (fail)
          go_big_quiet_step (exact d0.re)
          go_big_quiet_step (fail)
          go_big_quiet_step (exact d1.re)
          go_big_quiet_step (fail)
          go_big_quiet_step (fail)
          go_big_quiet_step (fail)
          go_big_quiet_step (fail)
          go_big_quiet_step (fail)
          go_big_quiet_step (fail)
          go_big_quiet_step (fail)
          go_big_quiet_step (fail)
          go_big_quiet_step (fail)
          go_big_quiet_step (fail)
          go_big_quiet_step (fail)
          go_big_quiet_step (fail)
          go_big_quiet_step (fail)
          go_big_quiet_step (fail)
          go_big_quiet_step (fail)
          go_big_quiet_step (fail)
          go_big_quiet_step (fail)
          go_big_quiet_step (fail)
          go_big_quiet_step (fail)
          go_big_quiet_step (fail)
          go_big_quiet_step (fail)
          go_big_quiet_step (fail)
          refine wpQuiet_idle rfl rfl rfl ?_
          rintro _ ⟨p, rfl⟩
          have hb := below_regrown w1 p.d p.os
          generalize grow (redrawn w1 p.d) p.os = w2 at *
          clear k2 k3
          replace r0 := keep hb r0
          replace r1 := keep hb r1
          replace r2 := keep hb r2
          replace hw := Below.after hw hb
          clear hb

          have cw := brow_cell r2 (j := 4 * c + k) (by rw [pt_len]; omega)
          have hf := row_frozen r2 (4 * c + k)
          clear q4 q5 hq2 hq3
          go_wp2
          refine ⟨⟨k + 1, by omega, by go_num, heap_other r0 (by omega), heap_other r1 (by omega), by rw [← Nat.add_assoc, ← hset.out]; exact brow_set r2 (4 * c + k) _, hw.setCell (show w.heap.size ≤ w.heap.size + 1 + 1 by omega) _⟩, by simp [intOf]; omega⟩
        · obtain rfl : k = 4 := by omega
          have hd : decide ((4 : Int) < 4) = false := by decide
          go_wp2
          refine ⟨⟨c + 1, by omega, by go_num, r0, r1, r2, hw⟩, by simp [intOf]; omega⟩
    · obtain rfl : c = 4 := by omega
      have hd : decide ((4 : Int) < 4) = false := by decide
      rw [show pt (gb (mixL l)) 16 (4 * 4) = mixL l from pt_self _ (mix_len _)] at r2
      clear hc hlc
      have hi9 := info_bl infoR (mixL l) (mix_len _)
      have hfi : (irow .u8 (bl (pt (gb (mixL l)) 16 (0)))).size = (irow .u8 (bl (mixL l))).size := by rw [irow_size, irow_size, bl_len, bl_len, mix_len, pt_len]
      go_wp2_with (first | (refine wpList_load_want rfl 31 _ rfl (w.heap.size + 1 + 1) rfl 31 (irow .u8 (bl (mixL l))) (0, 0) _ r2 Try.underlying31 rfl hi9 ?_) | (refine wpList_store_row rfl 31 _ _ rfl (w.heap.size + 1) (irow .u8 (bl (mixL l))) rfl rfl 31 _ r1 hi9 hfi (irow_one _ _) ?_) | fail)
      replace r1 := setRow_heap wr (w.heap.size + 1) _ (irow .u8 (bl (mixL l))) _ _ r1
      replace hw := below_setRow hw (show w.heap.size ≤ w.heap.size + 1 by omega) (irow .u8 (bl (mixL l)))
      generalize wr.setRow (w.heap.size + 1) (irow .u8 (bl (mixL l))) = w9 at *
      exact bodyPost_ret (v := .agg (irow .u8 (bl (mixL l)))) (results_cell_row Try.results59 _ _ (w.heap.size + 1) _ _ _ _ rfl r1 Try.underlying31 rfl hi9) rfl ⟨rfl, hw⟩


set_option maxRecDepth 100000 in
set_option maxHeartbeats 4000000 in
theorem r_unmix (l : List B) (hl : l.length = 16) : Gives 47 #[.agg (irow .u8 (bl (l)))] (.agg (irow .u8 (bl (unmixL l)))) := by
  intro w
  have R0 := hp2_0 w (.cells (irow .u8 (bl (l))) 31) (.cells (irow .u8 (zr 16)) 31)
  have R1 := hp2_1 w (.cells (irow .u8 (bl (l))) 31) (.cells (irow .u8 (zr 16)) 31)
  have hw : Below w.heap.size w ((w.alloc (.cells (irow .u8 (bl (l))) 31)).alloc (.cells (irow .u8 (zr 16)) 31)) := (((Below.refl _ _).alloc (Nat.le_refl _) _).alloc (by simp) _)

  have hi0 := info_bl infoR l hl
  have hi9 := info_bl infoR (unmixL l) (unmix_len _)
  have hfi : (irow .u8 (zr 16)).size = (irow .u8 (bl (unmixL l))).size := by rw [irow_size, irow_size, bl_len, unmix_len, zr_len]
  have c1 := r_mix l hl
  have c2 := r_mix (mixL l) (mix_len _)
  have c3 := r_mix (mixL (mixL l)) (mix_len _)
  go_enter Try.func47, Try.ntmps47
  go_wp2_with (first | (refine wpList_box rfl 31 _ rfl _ rfl (bR _) ?_) | (refine wpList_alloc rfl 31 rfl (irow .u8 (zr 16)) zR ?_) | (refine wpList_load_want rfl 31 _ rfl (w.heap.size) rfl 31 (irow .u8 (bl (l))) (0, 0) _ R0 Try.underlying31 rfl hi0 ?_) | fail)
  try simp only [size_alloc1, Act.put, List.setIfInBounds_toArray, List.set_cons_succ, List.set_cons_zero]
  generalize World.alloc _ _ = w0 at *
  refine (c1.at _).mono ?_
  rintro e_ w1 ⟨rfl, hb⟩
  replace R1 := keep hb R1
  replace hw := Below.after hw hb
  clear hb

  go_wp2_with (fail)
  refine (c2.at _).mono ?_
  rintro e_ w2 ⟨rfl, hb⟩
  replace R1 := keep hb R1
  replace hw := Below.after hw hb
  clear hb

  go_wp2_with (fail)
  refine (c3.at _).mono ?_
  rintro e_ w3 ⟨rfl, hb⟩
  replace R1 := keep hb R1
  replace hw := Below.after hw hb
  clear hb

  go_wp2_with (first | (refine wpList_store_row rfl 31 _ _ rfl (w.heap.size + 1) (irow .u8 (bl (unmixL l))) rfl rfl 31 _ R1 hi9 hfi (irow_one _ _) ?_) | fail)
  replace R1 := setRow_heap w3 (w.heap.size + 1) _ (irow .u8 (bl (unmixL l))) _ _ R1
  replace hw := below_setRow hw (show w.heap.size ≤ w.heap.size + 1 by omega) (irow .u8 (bl (unmixL l)))
  generalize w3.setRow (w.heap.size + 1) (irow .u8 (bl (unmixL l))) = w9 at *
  exact bodyPost_ret (v := .agg (irow .u8 (bl (unmixL l)))) (results_cell_row Try.results47 _ _ (w.heap.size + 1) _ _ _ _ rfl R1 Try.underlying31 rfl hi9) rfl ⟨rfl, hw⟩

end Go.Proofs.Ytmldmlbmfbdjoaa


namespace Go.Proofs.Ytmldmlbmfbdjoaa
open Go Go.RowKit Go.Sort
attribute [local go_sem] setCell_drewN alloc_drewN


/-! A column written byte by byte. -/
def xc (x : B × B × B × B) : Nat → B
  | 0 => x.1
  | 1 => x.2.1
  | 2 => x.2.2.1
  | _ => x.2.2.2
def pj (l : List B) (i : Nat) (x : B × B × B × B) : Nat → List B
  | 0 => l
  | j + 1 => (pj l i x j).set (4 * i + j) (xc x j)
theorem pj_len (l : List B) (i : Nat) (x : B × B × B × B) (j : Nat) : (pj l i x j).length = l.length := by
  induction j with
  | zero => rfl
  | succ j ih => rw [pj, List.length_set, ih]
theorem pj_four (l : List B) (i : Nat) (x : B × B × B × B) : pj l i x 4 = put4 l i x := rfl
theorem pj_low (l : List B) (i : Nat) (x : B × B × B × B) (j n : Nat) (h : n < 4 * i) : (pj l i x j).getD n 0#8 = l.getD n 0#8 := by
  induction j with
  | zero => rfl
  | succ j ih => rw [pj, List.getD_eq_getElem?_getD, List.getElem?_set, if_neg (by omega), ← List.getD_eq_getElem?_getD, ih]
theorem col_get (l : List B) (i j : Nat) (h : j < 4) : l.getD (4 * i + j) 0#8 = xc (colOf l i) j := by
  rcases (show j = 0 ∨ j = 1 ∨ j = 2 ∨ j = 3 by omega) with rfl | rfl | rfl | rfl <;> rfl
theorem xc_xor (x y : B × B × B × B) (j : Nat) (h : j < 4) : xc (xorC x y) j = xc x j ^^^ xc y j := by
  rcases (show j = 0 ∨ j = 1 ∨ j = 2 ∨ j = 3 by omega) with rfl | rfl | rfl | rfl <;> rfl
def L4 (x : B × B × B × B) : List B := [x.1, x.2.1, x.2.2.1, x.2.2.2]
theorem L4_len (x : B × B × B × B) : (L4 x).length = 4 := rfl
theorem L4_get (x : B × B × B × B) (j : Nat) (h : j < 4) : (L4 x).getD j 0#8 = xc x j := by
  rcases (show j = 0 ∨ j = 1 ∨ j = 2 ∨ j = 3 by omega) with rfl | rfl | rfl | rfl <;> rfl
theorem bl_col (l : List B) (hl : l.length = 240) (i : Nat) (h : i < 60) : (irow .u8 (bl (l))).extract (i * 4) (i * 4 + (irow .u8 (bl (L4 (colOf l i)))).size) = (irow .u8 (bl (L4 (colOf l i)))) := by
  apply Array.ext_getElem?
  intro j
  rw [irow_size, bl_len, L4_len, Array.getElem?_extract]
  by_cases hj : j < 4
  · rw [if_pos (by rw [irow_size, bl_len, hl]; omega), irow_get _ _ _ (by rw [bl_len, hl]; omega), irow_get _ _ _ (by rw [bl_len]; exact hj), bl_get, bl_get, L4_get _ _ hj, ← col_get l i j hj, Nat.mul_comm i 4]
  · rw [if_neg (by omega), Array.getElem?_eq_none (by rw [irow_size, bl_len, L4_len]; omega)]
theorem mrk_low (k : Nat) (h : k < 8) : mrk (k + 1) = mrk k := by
  unfold mrk; rw [show (k + 1 - 1) / 8 = (k - 1) / 8 by omega]
theorem ks_lown (key : List B) (k : Nat) (h : k < 8) : ks key (k + 1) = put4 (ks key k) k (colOf key k) := by
  rw [ks, colK, if_pos h]
theorem pt_selfn (l : List B) (n : Nat) (hl : l.length = n) : pt (gb l) n n = l := by
  apply List.ext_getElem (by rw [pt_len, hl])
  intro i h1 h2
  have e := pt_get (gb l) n n (j := i) (by omega) (by omega)
  rw [List.getD_eq_getElem?_getD, List.getElem?_eq_getElem h1] at e
  rw [gb, List.getD_eq_getElem?_getD, List.getElem?_eq_getElem h2] at e
  exact e
theorem z83 (W : World) : (Instr.alloc 83 true (.tuple #[])).run Try.prog W = .ok (.pointer (some ⟨W.heap.size, 0, none⟩)) (W.alloc (.cells (irow .u8 (zr 240)) 83)) := by kernel_rfl
theorem z32 (W : World) : (Instr.alloc 32 true (.tuple #[])).run Try.prog W = .ok (.pointer (some ⟨W.heap.size, 0, none⟩)) (W.alloc (.cells (irow .u8 (zr 240)) 32)) := by kernel_rfl
theorem z82 (W : World) : (Instr.alloc 82 true (.tuple #[])).run Try.prog W = .ok (.pointer (some ⟨W.heap.size, 0, none⟩)) (W.alloc (.cells (irow .u8 (zr 4)) 82)) := by kernel_rfl
theorem info82 : (Try.prog.info? 82).map (·.size) = some 4 := by kernel_rfl
theorem info32 : (Try.prog.info? 32).map (·.size) = some 240 := by kernel_rfl
theorem built82 (a b c d : Int) : Try.prog.built 82 [(0, .int .u8 a), (1, .int .u8 b), (2, .int .u8 c), (3, .int .u8 d)] = some #[.int .u8 a, .int .u8 b, .int .u8 c, .int .u8 d] := by kernel_rfl
theorem built_L4 (a b c d : B) (T : B × B × B × B) (h : T = (a, b, c, d)) : Try.prog.built 82 [(0, .int .u8 (bv a)), (1, .int .u8 (bv b)), (2, .int .u8 (bv c)), (3, .int .u8 (bv d))] = some (irow .u8 (bl (L4 T))) := by
  subst h; exact built82 _ _ _ _

set_option maxRecDepth 100000 in
set_option maxHeartbeats 8000000 in
theorem r_keysBy (key : List B) (hl : key.length = 32) : Gives 35 #[.agg (irow .u8 (bl (sbl))), .agg (irow .u8 (bl (key)))] (.agg (irow .u8 (bl (ks key 60)))) := by
  intro w
  have hz : ∀ W : World, (Instr.alloc 83 true (.tuple #[])).run Try.prog W = .ok (.pointer (some ⟨W.heap.size, 0, none⟩)) (W.alloc (.cells (irow .u8 (bl (ks key 0))) 83)) := by rw [ks, bl_zr]; exact z83
  have R0 := hp4_0 w (.cells (irow .u8 (bl (sbl))) 55) (.cells (irow .u8 (bl (key))) 26) (.cells (irow .u8 (zr 240)) 32) (.cells (irow .u8 (bl (ks key 0))) 83)
  have R1 := hp4_1 w (.cells (irow .u8 (bl (sbl))) 55) (.cells (irow .u8 (bl (key))) 26) (.cells (irow .u8 (zr 240)) 32) (.cells (irow .u8 (bl (ks key 0))) 83)
  have R2 := hp4_2 w (.cells (irow .u8 (bl (sbl))) 55) (.cells (irow .u8 (bl (key))) 26) (.cells (irow .u8 (zr 240)) 32) (.cells (irow .u8 (bl (ks key 0))) 83)
  have R3 := hp4_3 w (.cells (irow .u8 (bl (sbl))) 55) (.cells (irow .u8 (bl (key))) 26) (.cells (irow .u8 (zr 240)) 32) (.cells (irow .u8 (bl (ks key 0))) 83)
  have hw : Below w.heap.size w ((((w.alloc (.cells (irow .u8 (bl (sbl))) 55)).alloc (.cells (irow .u8 (bl (key))) 26)).alloc (.cells (irow .u8 (zr 240)) 32)).alloc (.cells (irow .u8 (bl (ks key 0))) 83)) := (((((Below.refl _ _).alloc (Nat.le_refl _) _).alloc (by simp) _).alloc (by simp; omega) _).alloc (by simp; omega) _)

  go_enter Try.func35, Try.ntmps35
  go_wp2_with (first | (refine wpList_box rfl 55 _ rfl _ rfl (b256 _) ?_) | (refine wpList_box rfl 26 _ rfl _ rfl (bKey _) ?_) | (refine wpList_alloc rfl 32 rfl (irow .u8 (zr 240)) z32 ?_) | (refine wpList_alloc rfl 83 rfl (irow .u8 (bl (ks key 0))) hz ?_) | fail)
  try simp only [size_alloc1, Act.put, List.setIfInBounds_toArray, List.set_cons_succ, List.set_cons_zero]
  clear hz
  generalize World.alloc _ _ = w0 at *
  go_loopw [6, 7] (fun m i wr => ∃ k : Nat, k ≤ 60 ∧ i = .int .i64 k ∧ m = .int .u8 (bv (mrk k)) ∧ wr.heap[w.heap.size]? = some (.cells (irow .u8 (bl (sbl))) 55 (0, 0)) ∧ wr.heap[w.heap.size + 1]? = some (.cells (irow .u8 (bl (key))) 26 (0, 0)) ∧ wr.heap[w.heap.size + 1 + 1]? = some (.cells (irow .u8 (zr 240)) 32 (0, 0)) ∧ wr.heap[w.heap.size + 1 + 1 + 1]? = some (.cells (irow .u8 (bl (ks key k))) 83 (0, 0)) ∧ Below w.heap.size w wr) (fun _ i _ => 60 - (intOf i).toNat)
  case atStart => exact ⟨0, by omega, rfl, rfl, R0, R1, R2, R3, hw⟩
  case round =>
    clear R0 R1 R2 R3 hw
    obtain ⟨k, hk, rfl, rfl, r0, r1, r2, r3, hw⟩ := hrel
    by_cases hlt : k < 60
    · have hd : decide ((k : Int) < 60) = true := by simp; omega
      by_cases h8 : k < 8
      · have hd8 : decide ((k : Int) < 8) = true := by simp; omega
        have hmn := hide (mrk_low k h8)
        have hkn := hide (ks_lown key k h8)
        go_wp2_with (fail)
        go_loopw [8] (fun i wr => ∃ j : Nat, j ≤ 4 ∧ i = .int .i64 j ∧ wr.heap[w.heap.size]? = some (.cells (irow .u8 (bl (sbl))) 55 (0, 0)) ∧ wr.heap[w.heap.size + 1]? = some (.cells (irow .u8 (bl (key))) 26 (0, 0)) ∧ wr.heap[w.heap.size + 1 + 1]? = some (.cells (irow .u8 (zr 240)) 32 (0, 0)) ∧ wr.heap[w.heap.size + 1 + 1 + 1]? = some (.cells (irow .u8 (bl (pj (ks key k) k (colOf key k) j))) 83 (0, 0)) ∧ Below w.heap.size w wr) (fun i _ => 4 - (intOf i).toNat)
        case atStart => exact ⟨0, by omega, rfl, r0, r1, r2, r3, hw⟩
        case round =>
          clear r0 r1 r2 r3 hw
          obtain ⟨j, hj, rfl, r0, r1, r2, r3, hw⟩ := hrel
          by_cases hj4 : j < 4
          · have hdj : decide ((j : Int) < 4) = true := by simp; omega
            have c1 := brow_cell r1 (j := 4 * k + j) (by omega)
            rw [col_get _ _ _ hj4] at c1
            have hset : Hid (pj (ks key k) k (colOf key k) (j + 1) = (pj (ks key k) k (colOf key k) j).set (4 * k + j) (xc (colOf key k) j)) := hide rfl
            generalize xc (colOf key k) j = x1 at *
            go_wp2_with (fail)
            have k1 : ∀ p : Regrown, (grow (redrawn wr p.d) p.os).cell? ⟨w.heap.size + 1, 4 * k + j, none⟩ = some (.int .u8 (bv x1)) := fun p => cell_regrown (c1) p.d p.os
            refine wp_region_tail (C := fun w' => ∃ p : Regrown, w' = grow (redrawn wr p.d) p.os) 10 _ rfl rfl rfl (by kernel_rfl) (by kernel_rfl) (by kernel_rfl) (by kernel_rfl) ⟨⟨wr.drawn + 1, #[]⟩, by rw [grow_empty]; rfl⟩ ?_
            dsimp only [List.set, idle]
            go_big_quiet_step (fail)
            go_big_quiet_step (fail)
            go_big_quiet_step (fail)
            go_big_quiet_step (fail)
            go_big_quiet_step (fail)
            go_big_quiet_step (fail)
            go_big_quiet_step (fail)
            go_big_quiet_step (fail)
            go_big_quiet_step (fail)
            go_big_quiet_step (fail)
            refine wpQuiet_idle rfl rfl rfl ?_
            rintro _ ⟨p, rfl⟩
            have hb := below_regrown wr p.d p.os
            generalize grow (redrawn wr p.d) p.os = w8 at *
            clear k1
            replace r0 := keep hb r0
            replace r1 := keep hb r1
            replace r2 := keep hb r2
            replace r3 := keep hb r3
            replace hw := Below.after hw hb
            clear hb

            have cw := brow_cell r3 (j := 4 * k + j) (by rw [pj_len, ks_len]; omega)
            have hf := row_frozen r3 (4 * k + j)
            rw [Nat.mul_comm 4 k] at cw hf
            clear c1
            go_wp2
            refine ⟨⟨j + 1, by omega, by go_num, heap_other r0 (by omega), heap_other r1 (by omega), heap_other r2 (by omega), by rw [hset.out, Nat.mul_comm 4 k]; exact brow_set r3 (k * 4 + j) _, hw.setCell (show w.heap.size ≤ w.heap.size + 1 + 1 + 1 by omega) _⟩, by simp [intOf]; omega⟩
          · obtain rfl : j = 4 := by omega
            have hdj : decide ((4 : Int) < 4) = false := by decide
            rw [pj_four, ← hkn.out] at r3
            clear hj hj4
            go_wp2
            refine ⟨⟨k + 1, by omega, by go_num, by rw [hmn.out], r0, r1, r2, r3, hw⟩, by simp [intOf]; omega⟩
      · have hd8 : decide ((k : Int) < 8) = false := by simp; omega
        have hk8 : 8 ≤ k := by omega
        have hm8 : (k : Int).tmod 8 = ((k % 8 : Nat) : Int) := by rw [Int.tmod_eq_emod_of_nonneg (by omega)]; rfl
        have hm4 : (k : Int).tmod 4 = ((k % 4 : Nat) : Int) := by rw [Int.tmod_eq_emod_of_nonneg (by omega)]; rfl
        have hpart := bl_col (ks key k) (ks_len _ _) (k - 1) (by omega)
        have hkn := hide (ks_next key k hk8)
        have hmn := hide (mrk_next k hk8)
        obtain ⟨E, hE0⟩ : ∃ E, E = colOf (ks key k) (k - 8) := ⟨_, rfl⟩
        have hE : Hid (∀ j < 4, (ks key k).getD (4 * (k - 8) + j) 0#8 = xc E j) := hide (fun j h => by rw [hE0]; exact col_get _ _ _ h)
        rw [← hE0] at hkn
        clear hE0
        obtain ⟨xa, xb, xc_, xd, hx4⟩ : ∃ a b c d, colOf (ks key k) (k - 1) = (a, b, c, d) := ⟨_, _, _, _, rfl⟩
        rw [hx4] at hpart hkn
        clear hx4
        have hiX := info_bl info82 (L4 (xa, xb, xc_, xd)) (L4_len _)
        have RX := hp1_0 wr (.cells (irow .u8 (zr 4)) 82)
        have HB : Below wr.heap.size wr (wr.alloc (.cells (irow .u8 (zr 4)) 82)) := (Below.refl _ _).alloc (Nat.le_refl _) _
        have hfX : (irow .u8 (zr 4)).size = (irow .u8 (bl (L4 (xa, xb, xc_, xd)))).size := by rw [irow_size, irow_size, zr_len, bl_len, L4_len]
        have bm := bnd (mrk k)
        go_wp2_with (first | (refine wpList_load_part rfl 82 _ rfl (w.heap.size + 1 + 1 + 1) ((k - 1) * 4) rfl 83 (irow .u8 (bl (ks key k))) (0, 0) (irow .u8 (bl (L4 (xa, xb, xc_, xd)))) _ r3 hpart Try.underlying82 rfl hiX ?_) | (refine wpList_alloc rfl 82 rfl (irow .u8 (zr 4)) z82 ?_) | (refine wpList_store_row rfl 82 _ _ rfl (wr.heap.size) (irow .u8 (bl (L4 (xa, xb, xc_, xd)))) rfl rfl 82 _ RX hiX hfX (irow_one _ _) ?_; refine wpList_stay ?_) | fail)
        unfold WpStay
        have l0 := lt_of_row r0
        have l1 := lt_of_row r1
        have l2 := lt_of_row r2
        have l3 := lt_of_row r3
        have hsz := hw.size
        replace r0 := (setRow_other _ (wr.heap.size) (w.heap.size) (irow .u8 (bl (L4 (xa, xb, xc_, xd)))) (by omega)).trans (keep HB r0)
        replace r1 := (setRow_other _ (wr.heap.size) (w.heap.size + 1) (irow .u8 (bl (L4 (xa, xb, xc_, xd)))) (by omega)).trans (keep HB r1)
        replace r2 := (setRow_other _ (wr.heap.size) (w.heap.size + 1 + 1) (irow .u8 (bl (L4 (xa, xb, xc_, xd)))) (by omega)).trans (keep HB r2)
        replace r3 := (setRow_other _ (wr.heap.size) (w.heap.size + 1 + 1 + 1) (irow .u8 (bl (L4 (xa, xb, xc_, xd)))) (by omega)).trans (keep HB r3)
        have rX := setRow_heap _ (wr.heap.size) _ (irow .u8 (bl (L4 (xa, xb, xc_, xd)))) _ _ RX
        replace hw := below_setRow (Below.after hw HB) hsz (irow .u8 (bl (L4 (xa, xb, xc_, xd))))
        clear RX HB hfX hiX hpart hsz
        generalize World.setRow _ (wr.heap.size) (irow .u8 (bl (L4 (xa, xb, xc_, xd)))) = w1 at *
        generalize wr.heap.size = gX at *
        by_cases h80 : k % 8 = 0
        · have hd80 : decide (((k % 8 : Nat) : Int) = 0) = true := by rw [h80]; rfl
          rw [if_pos h80] at hmn
          obtain ⟨T, hT⟩ : ∃ T, T = turnC k (xa, xb, xc_, xd) := ⟨_, rfl⟩
          rw [← hT] at hkn
          have hTT : T = (sb xb ^^^ mrk k, sb xc_, sb xd, sb xa) := by rw [hT, turnC, if_pos h80]
          clear hT
          have d0 := brow_cell rX (j := 0) (by rw [L4_len]; omega)
          have d1 := brow_cell rX (j := 1) (by rw [L4_len]; omega)
          have d2 := brow_cell rX (j := 2) (by rw [L4_len]; omega)
          have d3 := brow_cell rX (j := 3) (by rw [L4_len]; omega)
          rw [L4_get _ _ (by omega)] at d0 d1 d2 d3
          simp only [xc] at d0 d1 d2 d3
          have s0 := brow_cell r0 (j := xa.toNat) (by rw [sbl_len]; exact xa.isLt)
          have s1 := brow_cell r0 (j := xb.toNat) (by rw [sbl_len]; exact xb.isLt)
          have s2 := brow_cell r0 (j := xc_.toNat) (by rw [sbl_len]; exact xc_.isLt)
          have s3 := brow_cell r0 (j := xd.toNat) (by rw [sbl_len]; exact xd.isLt)
          rw [sbl_get] at s0 s1 s2 s3
          have n0 := bv_nat xa
          have n1 := bv_nat xb
          have n2 := bv_nat xc_
          have n3 := bv_nat xd
          have b0 := bnd xa
          have b1 := bnd xb
          have b2 := bnd xc_
          have b3 := bnd xd

          have hxm := xor8 (sb xb) (mrk k)
          have tw := r_double (mrk k)
          go_wp2_with (fail)
          have k0 : ∀ p : Regrown, (grow (redrawn w1 p.d) p.os).cell? ⟨gX, 0, none⟩ = some (.int .u8 (bv xa)) := fun p => cell_regrown (d0) p.d p.os
          have t0 : ∀ p : Regrown, (grow (redrawn w1 p.d) p.os).cell? ⟨w.heap.size, xa.toNat, none⟩ = some (.int .u8 (bv (sb xa))) := fun p => cell_regrown (s0) p.d p.os
          have k1 : ∀ p : Regrown, (grow (redrawn w1 p.d) p.os).cell? ⟨gX, 1, none⟩ = some (.int .u8 (bv xb)) := fun p => cell_regrown (d1) p.d p.os
          have t1 : ∀ p : Regrown, (grow (redrawn w1 p.d) p.os).cell? ⟨w.heap.size, xb.toNat, none⟩ = some (.int .u8 (bv (sb xb))) := fun p => cell_regrown (s1) p.d p.os
          have k2 : ∀ p : Regrown, (grow (redrawn w1 p.d) p.os).cell? ⟨gX, 2, none⟩ = some (.int .u8 (bv xc_)) := fun p => cell_regrown (d2) p.d p.os
          have t2 : ∀ p : Regrown, (grow (redrawn w1 p.d) p.os).cell? ⟨w.heap.size, xc_.toNat, none⟩ = some (.int .u8 (bv (sb xc_))) := fun p => cell_regrown (s2) p.d p.os
          have k3 : ∀ p : Regrown, (grow (redrawn w1 p.d) p.os).cell? ⟨gX, 3, none⟩ = some (.int .u8 (bv xd)) := fun p => cell_regrown (d3) p.d p.os
          have t3 : ∀ p : Regrown, (grow (redrawn w1 p.d) p.os).cell? ⟨w.heap.size, xd.toNat, none⟩ = some (.int .u8 (bv (sb xd))) := fun p => cell_regrown (s3) p.d p.os
          refine wp_region_tail (C := fun w' => ∃ p : Regrown, w' = grow (redrawn w1 p.d) p.os) 19 _ rfl rfl rfl (by kernel_rfl) (by kernel_rfl) (by kernel_rfl) (by kernel_rfl) ⟨⟨w1.drawn + 1, #[]⟩, by rw [grow_empty]; rfl⟩ ?_
          dsimp only [List.set, idle]
          go_big_quiet_step (fail)
          go_big_quiet_step (fail)
          go_big_quiet_step (fail)
          go_big_quiet_step (fail)
          go_big_quiet_step (fail)
          go_big_quiet_step (fail)
          go_big_quiet_step (fail)
          go_big_quiet_step (fail)
          go_big_quiet_step (fail)
          go_big_quiet_step (fail)
          go_big_quiet_step (fail)
          go_big_quiet_step (fail)
          go_big_quiet_step (fail)
          go_big_quiet_step (fail)
          go_big_quiet_step (fail)
          go_big_quiet_step (fail)
          go_big_quiet_step (fail)
          go_big_quiet_step (fail)
          refine wpQuiet_build rfl 82 _ rfl _ rfl (irow .u8 (bl (L4 T))) (built_L4 _ _ _ _ T hTT) ?_
          simp only [Act.put, List.setIfInBounds_toArray, List.set_cons_succ, List.set_cons_zero]
          refine wpQuiet_idle rfl rfl rfl ?_
          rintro _ ⟨p, rfl⟩
          have hb := below_regrown w1 p.d p.os
          generalize grow (redrawn w1 p.d) p.os = w2 at *
          clear k0 t0 k1 t1 k2 t2 k3 t3
          replace r0 := keep hb r0
          replace r1 := keep hb r1
          replace r2 := keep hb r2
          replace r3 := keep hb r3
          replace rX := keep hb rX
          replace hw := Below.after hw hb
          clear hb

          have hiT := info_bl info82 (L4 T) (L4_len _)
          refine wpList_store_row rfl 82 _ _ rfl (gX) (irow .u8 (bl (L4 T))) rfl rfl 82 _ rX hiT (by rw [irow_size, irow_size, bl_len, bl_len, L4_len, L4_len]) (irow_one _ _) ?_
          simp only [Act.put]
          replace r0 := (setRow_other w2 gX (w.heap.size) (irow .u8 (bl (L4 T))) (by omega)).trans r0
          replace r1 := (setRow_other w2 gX (w.heap.size + 1) (irow .u8 (bl (L4 T))) (by omega)).trans r1
          replace r2 := (setRow_other w2 gX (w.heap.size + 1 + 1) (irow .u8 (bl (L4 T))) (by omega)).trans r2
          replace r3 := (setRow_other w2 gX (w.heap.size + 1 + 1 + 1) (irow .u8 (bl (L4 T))) (by omega)).trans r3
          replace rX := setRow_heap w2 gX _ (irow .u8 (bl (L4 T))) _ _ rX
          replace hw := below_setRow hw (show w.heap.size ≤ gX by omega) (irow .u8 (bl (L4 T)))
          generalize w2.setRow gX (irow .u8 (bl (L4 T))) = w3 at *
          clear d0 d1 d2 d3 s0 s1 s2 s3 hiT

          go_wp2_with (fail)
          refine (tw.at _).mono ?_
          rintro e_ w4 ⟨rfl, hb⟩
          replace r0 := keep hb r0
          replace r1 := keep hb r1
          replace r2 := keep hb r2
          replace r3 := keep hb r3
          replace hw := Below.after hw hb

          replace rX := keep hb rX
          clear hb tw
          go_wp2_with (fail)
          go_loopw [10] (fun i wr => ∃ j : Nat, j ≤ 4 ∧ i = .int .i64 j ∧ wr.heap[w.heap.size]? = some (.cells (irow .u8 (bl (sbl))) 55 (0, 0)) ∧ wr.heap[w.heap.size + 1]? = some (.cells (irow .u8 (bl (key))) 26 (0, 0)) ∧ wr.heap[w.heap.size + 1 + 1]? = some (.cells (irow .u8 (zr 240)) 32 (0, 0)) ∧ wr.heap[w.heap.size + 1 + 1 + 1]? = some (.cells (irow .u8 (bl (pj (ks key k) k (xorC E T) j))) 83 (0, 0)) ∧ Below w.heap.size w wr ∧ wr.heap[gX]? = some (.cells (irow .u8 (bl (L4 T))) 82 (0, 0))) (fun i _ => 4 - (intOf i).toNat)
          case atStart => exact ⟨0, by omega, rfl, r0, r1, r2, r3, hw, rX⟩
          case round =>
            clear r0 r1 r2 r3 hw rX
            obtain ⟨j, hj, rfl, r0, r1, r2, r3, hw, rX⟩ := hrel
            by_cases hj4 : j < 4
            · have hdj : decide ((j : Int) < 4) = true := by simp; omega
              have c1 := brow_cell r3 (j := 4 * (k - 8) + j) (by rw [pj_len, ks_len]; omega)
              rw [pj_low _ _ _ _ _ (by omega), hE.out j hj4, show 4 * (k - 8) + j = (k - 8) * 4 + j by omega] at c1
              have c2 := brow_cell rX (j := j) (by rw [L4_len]; exact hj4)
              rw [L4_get _ _ hj4] at c2
              have hx := xor8 (xc E j) (xc T j)
              have hset : Hid (pj (ks key k) k (xorC E T) (j + 1) = (pj (ks key k) k (xorC E T) j).set (4 * k + j) (xc E j ^^^ xc T j)) := hide (by rw [pj, xc_xor _ _ _ hj4])
              generalize xc E j = x1 at *
              generalize xc T j = x2 at *
              go_wp2_with (fail)
              have k1 : ∀ p : Regrown, (grow (redrawn wr p.d) p.os).cell? ⟨w.heap.size + 1 + 1 + 1, (k - 8) * 4 + j, none⟩ = some (.int .u8 (bv x1)) := fun p => cell_regrown (c1) p.d p.os
              have k2 : ∀ p : Regrown, (grow (redrawn wr p.d) p.os).cell? ⟨gX, j, none⟩ = some (.int .u8 (bv x2)) := fun p => cell_regrown (c2) p.d p.os
              refine wp_region_tail (C := fun w' => ∃ p : Regrown, w' = grow (redrawn wr p.d) p.os) 14 _ rfl rfl rfl (by kernel_rfl) (by kernel_rfl) (by kernel_rfl) (by kernel_rfl) ⟨⟨wr.drawn + 1, #[]⟩, by rw [grow_empty]; rfl⟩ ?_
              dsimp only [List.set, idle]
              go_big_quiet_step (fail)
              go_big_quiet_step (fail)
              go_big_quiet_step (fail)
              go_big_quiet_step (fail)
              go_big_quiet_step (fail)
              go_big_quiet_step (fail)
              go_big_quiet_step (fail)
              go_big_quiet_step (fail)
              go_big_quiet_step (fail)
              go_big_quiet_step (fail)
              go_big_quiet_step (fail)
              go_big_quiet_step (fail)
              go_big_quiet_step (fail)
              go_big_quiet_step (fail)
              refine wpQuiet_idle rfl rfl rfl ?_
              rintro _ ⟨p, rfl⟩
              have hb := below_regrown wr p.d p.os
              generalize grow (redrawn wr p.d) p.os = w8 at *
              clear k1 k2
              replace r0 := keep hb r0
              replace r1 := keep hb r1
              replace r2 := keep hb r2
              replace r3 := keep hb r3
              replace rX := keep hb rX
              replace hw := Below.after hw hb
              clear hb

              have cw := brow_cell r3 (j := 4 * k + j) (by rw [pj_len, ks_len]; omega)
              have hf := row_frozen r3 (4 * k + j)
              rw [Nat.mul_comm 4 k] at cw hf
              clear c1 c2
              go_wp2
              refine ⟨⟨j + 1, by omega, by go_num, heap_other r0 (by omega), heap_other r1 (by omega), heap_other r2 (by omega), by rw [hset.out, Nat.mul_comm 4 k]; exact brow_set r3 (k * 4 + j) _, hw.setCell (show w.heap.size ≤ w.heap.size + 1 + 1 + 1 by omega) _, heap_other rX (by omega)⟩, by simp [intOf]; omega⟩
            · obtain rfl : j = 4 := by omega
              have hdj : decide ((4 : Int) < 4) = false := by decide
              rw [pj_four, ← hkn.out] at r3
              clear hj hj4
              go_wp2
              refine ⟨⟨k + 1, by omega, by go_num, by rw [hmn.out], r0, r1, r2, r3, hw⟩, by simp [intOf]; omega⟩

        · have hd80 : decide (((k % 8 : Nat) : Int) = 0) = false := by simp; omega
          rw [if_neg h80] at hmn
          by_cases h40 : k % 4 = 0
          · have hd40 : decide (((k % 4 : Nat) : Int) = 0) = true := by rw [h40]; rfl
            obtain ⟨T, hT⟩ : ∃ T, T = turnC k (xa, xb, xc_, xd) := ⟨_, rfl⟩
            rw [← hT] at hkn
            have hTT : T = (sb xa, sb xb, sb xc_, sb xd) := by rw [hT, turnC, if_neg h80, if_pos h40]
            clear hT
            have d0 := brow_cell rX (j := 0) (by rw [L4_len]; omega)
            have d1 := brow_cell rX (j := 1) (by rw [L4_len]; omega)
            have d2 := brow_cell rX (j := 2) (by rw [L4_len]; omega)
            have d3 := brow_cell rX (j := 3) (by rw [L4_len]; omega)
            rw [L4_get _ _ (by omega)] at d0 d1 d2 d3
            simp only [xc] at d0 d1 d2 d3
            have s0 := brow_cell r0 (j := xa.toNat) (by rw [sbl_len]; exact xa.isLt)
            have s1 := brow_cell r0 (j := xb.toNat) (by rw [sbl_len]; exact xb.isLt)
            have s2 := brow_cell r0 (j := xc_.toNat) (by rw [sbl_len]; exact xc_.isLt)
            have s3 := brow_cell r0 (j := xd.toNat) (by rw [sbl_len]; exact xd.isLt)
            rw [sbl_get] at s0 s1 s2 s3
            have n0 := bv_nat xa
            have n1 := bv_nat xb
            have n2 := bv_nat xc_
            have n3 := bv_nat xd
            have b0 := bnd xa
            have b1 := bnd xb
            have b2 := bnd xc_
            have b3 := bnd xd

            go_wp2_with (fail)
            have k0 : ∀ p : Regrown, (grow (redrawn w1 p.d) p.os).cell? ⟨gX, 0, none⟩ = some (.int .u8 (bv xa)) := fun p => cell_regrown (d0) p.d p.os
            have t0 : ∀ p : Regrown, (grow (redrawn w1 p.d) p.os).cell? ⟨w.heap.size, xa.toNat, none⟩ = some (.int .u8 (bv (sb xa))) := fun p => cell_regrown (s0) p.d p.os
            have k1 : ∀ p : Regrown, (grow (redrawn w1 p.d) p.os).cell? ⟨gX, 1, none⟩ = some (.int .u8 (bv xb)) := fun p => cell_regrown (d1) p.d p.os
            have t1 : ∀ p : Regrown, (grow (redrawn w1 p.d) p.os).cell? ⟨w.heap.size, xb.toNat, none⟩ = some (.int .u8 (bv (sb xb))) := fun p => cell_regrown (s1) p.d p.os
            have k2 : ∀ p : Regrown, (grow (redrawn w1 p.d) p.os).cell? ⟨gX, 2, none⟩ = some (.int .u8 (bv xc_)) := fun p => cell_regrown (d2) p.d p.os
            have t2 : ∀ p : Regrown, (grow (redrawn w1 p.d) p.os).cell? ⟨w.heap.size, xc_.toNat, none⟩ = some (.int .u8 (bv (sb xc_))) := fun p => cell_regrown (s2) p.d p.os
            have k3 : ∀ p : Regrown, (grow (redrawn w1 p.d) p.os).cell? ⟨gX, 3, none⟩ = some (.int .u8 (bv xd)) := fun p => cell_regrown (d3) p.d p.os
            have t3 : ∀ p : Regrown, (grow (redrawn w1 p.d) p.os).cell? ⟨w.heap.size, xd.toNat, none⟩ = some (.int .u8 (bv (sb xd))) := fun p => cell_regrown (s3) p.d p.os
            refine wp_region_tail (C := fun w' => ∃ p : Regrown, w' = grow (redrawn w1 p.d) p.os) 17 _ rfl rfl rfl (by kernel_rfl) (by kernel_rfl) (by kernel_rfl) (by kernel_rfl) ⟨⟨w1.drawn + 1, #[]⟩, by rw [grow_empty]; rfl⟩ ?_
            dsimp only [List.set, idle]
            go_big_quiet_step (fail)
            go_big_quiet_step (fail)
            go_big_quiet_step (fail)
            go_big_quiet_step (fail)
            go_big_quiet_step (fail)
            go_big_quiet_step (fail)
            go_big_quiet_step (fail)
            go_big_quiet_step (fail)
            go_big_quiet_step (fail)
            go_big_quiet_step (fail)
            go_big_quiet_step (fail)
            go_big_quiet_step (fail)
            go_big_quiet_step (fail)
            go_big_quiet_step (fail)
            go_big_quiet_step (fail)
            go_big_quiet_step (fail)
            refine wpQuiet_build rfl 82 _ rfl _ rfl (irow .u8 (bl (L4 T))) (built_L4 _ _ _ _ T hTT) ?_
            simp only [Act.put, List.setIfInBounds_toArray, List.set_cons_succ, List.set_cons_zero]
            refine wpQuiet_idle rfl rfl rfl ?_
            rintro _ ⟨p, rfl⟩
            have hb := below_regrown w1 p.d p.os
            generalize grow (redrawn w1 p.d) p.os = w2 at *
            clear k0 t0 k1 t1 k2 t2 k3 t3
            replace r0 := keep hb r0
            replace r1 := keep hb r1
            replace r2 := keep hb r2
            replace r3 := keep hb r3
            replace rX := keep hb rX
            replace hw := Below.after hw hb
            clear hb

            have hiT := info_bl info82 (L4 T) (L4_len _)
            refine wpList_store_row rfl 82 _ _ rfl (gX) (irow .u8 (bl (L4 T))) rfl rfl 82 _ rX hiT (by rw [irow_size, irow_size, bl_len, bl_len, L4_len, L4_len]) (irow_one _ _) ?_
            simp only [Act.put]
            replace r0 := (setRow_other w2 gX (w.heap.size) (irow .u8 (bl (L4 T))) (by omega)).trans r0
            replace r1 := (setRow_other w2 gX (w.heap.size + 1) (irow .u8 (bl (L4 T))) (by omega)).trans r1
            replace r2 := (setRow_other w2 gX (w.heap.size + 1 + 1) (irow .u8 (bl (L4 T))) (by omega)).trans r2
            replace r3 := (setRow_other w2 gX (w.heap.size + 1 + 1 + 1) (irow .u8 (bl (L4 T))) (by omega)).trans r3
            replace rX := setRow_heap w2 gX _ (irow .u8 (bl (L4 T))) _ _ rX
            replace hw := below_setRow hw (show w.heap.size ≤ gX by omega) (irow .u8 (bl (L4 T)))
            generalize w2.setRow gX (irow .u8 (bl (L4 T))) = w3 at *
            clear d0 d1 d2 d3 s0 s1 s2 s3 hiT

            go_wp2_with (fail)
            go_loopw [10] (fun i wr => ∃ j : Nat, j ≤ 4 ∧ i = .int .i64 j ∧ wr.heap[w.heap.size]? = some (.cells (irow .u8 (bl (sbl))) 55 (0, 0)) ∧ wr.heap[w.heap.size + 1]? = some (.cells (irow .u8 (bl (key))) 26 (0, 0)) ∧ wr.heap[w.heap.size + 1 + 1]? = some (.cells (irow .u8 (zr 240)) 32 (0, 0)) ∧ wr.heap[w.heap.size + 1 + 1 + 1]? = some (.cells (irow .u8 (bl (pj (ks key k) k (xorC E T) j))) 83 (0, 0)) ∧ Below w.heap.size w wr ∧ wr.heap[gX]? = some (.cells (irow .u8 (bl (L4 T))) 82 (0, 0))) (fun i _ => 4 - (intOf i).toNat)
            case atStart => exact ⟨0, by omega, rfl, r0, r1, r2, r3, hw, rX⟩
            case round =>
              clear r0 r1 r2 r3 hw rX
              obtain ⟨j, hj, rfl, r0, r1, r2, r3, hw, rX⟩ := hrel
              by_cases hj4 : j < 4
              · have hdj : decide ((j : Int) < 4) = true := by simp; omega
                have c1 := brow_cell r3 (j := 4 * (k - 8) + j) (by rw [pj_len, ks_len]; omega)
                rw [pj_low _ _ _ _ _ (by omega), hE.out j hj4, show 4 * (k - 8) + j = (k - 8) * 4 + j by omega] at c1
                have c2 := brow_cell rX (j := j) (by rw [L4_len]; exact hj4)
                rw [L4_get _ _ hj4] at c2
                have hx := xor8 (xc E j) (xc T j)
                have hset : Hid (pj (ks key k) k (xorC E T) (j + 1) = (pj (ks key k) k (xorC E T) j).set (4 * k + j) (xc E j ^^^ xc T j)) := hide (by rw [pj, xc_xor _ _ _ hj4])
                generalize xc E j = x1 at *
                generalize xc T j = x2 at *
                go_wp2_with (fail)
                have k1 : ∀ p : Regrown, (grow (redrawn wr p.d) p.os).cell? ⟨w.heap.size + 1 + 1 + 1, (k - 8) * 4 + j, none⟩ = some (.int .u8 (bv x1)) := fun p => cell_regrown (c1) p.d p.os
                have k2 : ∀ p : Regrown, (grow (redrawn wr p.d) p.os).cell? ⟨gX, j, none⟩ = some (.int .u8 (bv x2)) := fun p => cell_regrown (c2) p.d p.os
                refine wp_region_tail (C := fun w' => ∃ p : Regrown, w' = grow (redrawn wr p.d) p.os) 14 _ rfl rfl rfl (by kernel_rfl) (by kernel_rfl) (by kernel_rfl) (by kernel_rfl) ⟨⟨wr.drawn + 1, #[]⟩, by rw [grow_empty]; rfl⟩ ?_
                dsimp only [List.set, idle]
                go_big_quiet_step (fail)
                go_big_quiet_step (fail)
                go_big_quiet_step (fail)
                go_big_quiet_step (fail)
                go_big_quiet_step (fail)
                go_big_quiet_step (fail)
                go_big_quiet_step (fail)
                go_big_quiet_step (fail)
                go_big_quiet_step (fail)
                go_big_quiet_step (fail)
                go_big_quiet_step (fail)
                go_big_quiet_step (fail)
                go_big_quiet_step (fail)
                go_big_quiet_step (fail)
                refine wpQuiet_idle rfl rfl rfl ?_
                rintro _ ⟨p, rfl⟩
                have hb := below_regrown wr p.d p.os
                generalize grow (redrawn wr p.d) p.os = w8 at *
                clear k1 k2
                replace r0 := keep hb r0
                replace r1 := keep hb r1
                replace r2 := keep hb r2
                replace r3 := keep hb r3
                replace rX := keep hb rX
                replace hw := Below.after hw hb
                clear hb

                have cw := brow_cell r3 (j := 4 * k + j) (by rw [pj_len, ks_len]; omega)
                have hf := row_frozen r3 (4 * k + j)
                rw [Nat.mul_comm 4 k] at cw hf
                clear c1 c2
                go_wp2
                refine ⟨⟨j + 1, by omega, by go_num, heap_other r0 (by omega), heap_other r1 (by omega), heap_other r2 (by omega), by rw [hset.out, Nat.mul_comm 4 k]; exact brow_set r3 (k * 4 + j) _, hw.setCell (show w.heap.size ≤ w.heap.size + 1 + 1 + 1 by omega) _, heap_other rX (by omega)⟩, by simp [intOf]; omega⟩
              · obtain rfl : j = 4 := by omega
                have hdj : decide ((4 : Int) < 4) = false := by decide
                rw [pj_four, ← hkn.out] at r3
                clear hj hj4
                go_wp2
                refine ⟨⟨k + 1, by omega, by go_num, by rw [hmn.out], r0, r1, r2, r3, hw⟩, by simp [intOf]; omega⟩

          · have hd40 : decide (((k % 4 : Nat) : Int) = 0) = false := by simp; omega
            rw [turnC, if_neg h80, if_neg h40] at hkn
            generalize (xa, xb, xc_, xd) = T at *
            go_wp2_with (fail)
            go_loopw [10] (fun i wr => ∃ j : Nat, j ≤ 4 ∧ i = .int .i64 j ∧ wr.heap[w.heap.size]? = some (.cells (irow .u8 (bl (sbl))) 55 (0, 0)) ∧ wr.heap[w.heap.size + 1]? = some (.cells (irow .u8 (bl (key))) 26 (0, 0)) ∧ wr.heap[w.heap.size + 1 + 1]? = some (.cells (irow .u8 (zr 240)) 32 (0, 0)) ∧ wr.heap[w.heap.size + 1 + 1 + 1]? = some (.cells (irow .u8 (bl (pj (ks key k) k (xorC E T) j))) 83 (0, 0)) ∧ Below w.heap.size w wr ∧ wr.heap[gX]? = some (.cells (irow .u8 (bl (L4 T))) 82 (0, 0))) (fun i _ => 4 - (intOf i).toNat)
            case atStart => exact ⟨0, by omega, rfl, r0, r1, r2, r3, hw, rX⟩
            case round =>
              clear r0 r1 r2 r3 hw rX
              obtain ⟨j, hj, rfl, r0, r1, r2, r3, hw, rX⟩ := hrel
              by_cases hj4 : j < 4
              · have hdj : decide ((j : Int) < 4) = true := by simp; omega
                have c1 := brow_cell r3 (j := 4 * (k - 8) + j) (by rw [pj_len, ks_len]; omega)
                rw [pj_low _ _ _ _ _ (by omega), hE.out j hj4, show 4 * (k - 8) + j = (k - 8) * 4 + j by omega] at c1
                have c2 := brow_cell rX (j := j) (by rw [L4_len]; exact hj4)
                rw [L4_get _ _ hj4] at c2
                have hx := xor8 (xc E j) (xc T j)
                have hset : Hid (pj (ks key k) k (xorC E T) (j + 1) = (pj (ks key k) k (xorC E T) j).set (4 * k + j) (xc E j ^^^ xc T j)) := hide (by rw [pj, xc_xor _ _ _ hj4])
                generalize xc E j = x1 at *
                generalize xc T j = x2 at *
                go_wp2_with (fail)
                have k1 : ∀ p : Regrown, (grow (redrawn wr p.d) p.os).cell? ⟨w.heap.size + 1 + 1 + 1, (k - 8) * 4 + j, none⟩ = some (.int .u8 (bv x1)) := fun p => cell_regrown (c1) p.d p.os
                have k2 : ∀ p : Regrown, (grow (redrawn wr p.d) p.os).cell? ⟨gX, j, none⟩ = some (.int .u8 (bv x2)) := fun p => cell_regrown (c2) p.d p.os
                refine wp_region_tail (C := fun w' => ∃ p : Regrown, w' = grow (redrawn wr p.d) p.os) 14 _ rfl rfl rfl (by kernel_rfl) (by kernel_rfl) (by kernel_rfl) (by kernel_rfl) ⟨⟨wr.drawn + 1, #[]⟩, by rw [grow_empty]; rfl⟩ ?_
                dsimp only [List.set, idle]
                go_big_quiet_step (fail)
                go_big_quiet_step (fail)
                go_big_quiet_step (fail)
                go_big_quiet_step (fail)
                go_big_quiet_step (fail)
                go_big_quiet_step (fail)
                go_big_quiet_step (fail)
                go_big_quiet_step (fail)
                go_big_quiet_step (fail)
                go_big_quiet_step (fail)
                go_big_quiet_step (fail)
                go_big_quiet_step (fail)
                go_big_quiet_step (fail)
                go_big_quiet_step (fail)
                refine wpQuiet_idle rfl rfl rfl ?_
                rintro _ ⟨p, rfl⟩
                have hb := below_regrown wr p.d p.os
                generalize grow (redrawn wr p.d) p.os = w8 at *
                clear k1 k2
                replace r0 := keep hb r0
                replace r1 := keep hb r1
                replace r2 := keep hb r2
                replace r3 := keep hb r3
                replace rX := keep hb rX
                replace hw := Below.after hw hb
                clear hb

                have cw := brow_cell r3 (j := 4 * k + j) (by rw [pj_len, ks_len]; omega)
                have hf := row_frozen r3 (4 * k + j)
                rw [Nat.mul_comm 4 k] at cw hf
                clear c1 c2
                go_wp2
                refine ⟨⟨j + 1, by omega, by go_num, heap_other r0 (by omega), heap_other r1 (by omega), heap_other r2 (by omega), by rw [hset.out, Nat.mul_comm 4 k]; exact brow_set r3 (k * 4 + j) _, hw.setCell (show w.heap.size ≤ w.heap.size + 1 + 1 + 1 by omega) _, heap_other rX (by omega)⟩, by simp [intOf]; omega⟩
              · obtain rfl : j = 4 := by omega
                have hdj : decide ((4 : Int) < 4) = false := by decide
                rw [pj_four, ← hkn.out] at r3
                clear hj hj4
                go_wp2
                refine ⟨⟨k + 1, by omega, by go_num, by rw [hmn.out], r0, r1, r2, r3, hw⟩, by simp [intOf]; omega⟩

    · obtain rfl : k = 60 := by omega
      have hd : decide ((60 : Int) < 60) = false := by decide
      obtain ⟨K, hK⟩ : ∃ K, K = ks key 60 := ⟨_, rfl⟩
      rw [← hK] at r3
      have hKl : K.length = 240 := by rw [hK, ks_len]
      replace hK := hide hK
      clear hk hlt
      have hz : ∀ W : World, (Instr.alloc 32 true (.tuple #[])).run Try.prog W = .ok (.pointer (some ⟨W.heap.size, 0, none⟩)) (W.alloc (.cells (irow .u8 (bl (pt (gb K) 240 0))) 32)) := by rw [← zr_pt]; exact z32
      have RX := hp1_0 wr (.cells (irow .u8 (bl (pt (gb K) 240 0))) 32)
      have HB : Below wr.heap.size wr (wr.alloc (.cells (irow .u8 (bl (pt (gb K) 240 0))) 32)) := (Below.refl _ _).alloc (Nat.le_refl _) _
      have l3 := lt_of_row r3
      go_wp2_with (first | (refine wpList_alloc rfl 32 rfl (irow .u8 (bl (pt (gb K) 240 0))) hz ?_) | fail)
      replace r2 := keep HB r2
      replace r3 := keep HB r3
      replace hw := Below.after hw HB
      clear HB hz r0 r1
      generalize World.alloc _ _ = w5 at *
      generalize wr.heap.size = gX at *
      go_loopw [12] (fun i wr => ∃ k : Nat, k ≤ 60 ∧ i = .int .i64 k ∧ wr.heap[w.heap.size + 1 + 1]? = some (.cells (irow .u8 (zr 240)) 32 (0, 0)) ∧ wr.heap[w.heap.size + 1 + 1 + 1]? = some (.cells (irow .u8 (bl (K))) 83 (0, 0)) ∧ wr.heap[gX]? = some (.cells (irow .u8 (bl (pt (gb K) 240 (4 * k)))) 32 (0, 0)) ∧ Below w.heap.size w wr) (fun i _ => 60 - (intOf i).toNat)
      case atStart => exact ⟨0, by omega, rfl, r2, r3, RX, hw⟩
      case round =>
        clear r2 r3 RX hw
        obtain ⟨k, hk, rfl, r2, r3, rX, hw⟩ := hrel
        by_cases hlt : k < 60
        · have hd : decide ((k : Int) < 60) = true := by simp; omega
          go_wp2_with (fail)
          go_loopw [13] (fun i wr => ∃ j : Nat, j ≤ 4 ∧ i = .int .i64 j ∧ wr.heap[w.heap.size + 1 + 1]? = some (.cells (irow .u8 (zr 240)) 32 (0, 0)) ∧ wr.heap[w.heap.size + 1 + 1 + 1]? = some (.cells (irow .u8 (bl (K))) 83 (0, 0)) ∧ wr.heap[gX]? = some (.cells (irow .u8 (bl (pt (gb K) 240 (4 * k + j)))) 32 (0, 0)) ∧ Below w.heap.size w wr) (fun i _ => 4 - (intOf i).toNat)
          case atStart => exact ⟨0, by omega, rfl, r2, r3, rX, hw⟩
          case round =>
            clear r2 r3 rX hw
            obtain ⟨j, hj, rfl, r2, r3, rX, hw⟩ := hrel
            by_cases hj4 : j < 4
            · have hdj : decide ((j : Int) < 4) = true := by simp; omega
              have hq : (k : Int).tdiv 4 = ((k / 4 : Nat) : Int) := by rw [Int.tdiv_eq_ediv_of_nonneg (by omega)]; rfl
              have hr : (k : Int).tmod 4 = ((k % 4 : Nat) : Int) := by rw [Int.tmod_eq_emod_of_nonneg (by omega)]; rfl
              have c1 := brow_cell r3 (j := 4 * k + j) (by omega)
              rw [show K.getD (4 * k + j) 0#8 = gb K (4 * k + j) from rfl] at c1
              have hset := hide (pt_set (gb K) 240 (4 * k + j) (by omega))
              generalize gb K (4 * k + j) = x1 at *
              rw [Nat.mul_comm 4 k] at c1
              go_wp2_with (fail)
              have k1 : ∀ p : Regrown, (grow (redrawn wr p.d) p.os).cell? ⟨w.heap.size + 1 + 1 + 1, k * 4 + j, none⟩ = some (.int .u8 (bv x1)) := fun p => cell_regrown (c1) p.d p.os
              refine wp_region_tail (C := fun w' => ∃ p : Regrown, w' = grow (redrawn wr p.d) p.os) 14 _ rfl rfl rfl (by kernel_rfl) (by kernel_rfl) (by kernel_rfl) (by kernel_rfl) ⟨⟨wr.drawn + 1, #[]⟩, by rw [grow_empty]; rfl⟩ ?_
              dsimp only [List.set, idle]
              go_big_quiet_step (fail)
              go_big_quiet_step (fail)
              go_big_quiet_step (fail)
              go_big_quiet_step (fail)
              go_big_quiet_step (fail)
              go_big_quiet_step (fail)
              go_big_quiet_step (fail)
              go_big_quiet_step (fail)
              go_big_quiet_step (fail)
              go_big_quiet_step (fail)
              go_big_quiet_step (fail)
              go_big_quiet_step (fail)
              go_big_quiet_step (fail)
              go_big_quiet_step (fail)
              refine wpQuiet_idle rfl rfl rfl ?_
              rintro _ ⟨p, rfl⟩
              have hb := below_regrown wr p.d p.os
              generalize grow (redrawn wr p.d) p.os = w8 at *
              clear k1
              replace r2 := keep hb r2
              replace r3 := keep hb r3
              replace rX := keep hb rX
              replace hw := Below.after hw hb
              clear hb

              have cw := brow_cell rX (j := 4 * k + j) (by rw [pt_len]; omega)
              have hf := row_frozen rX (4 * k + j)
              have hof : k / 4 * 16 + (k % 4 * 4 + j) = 4 * k + j := by omega
              clear c1
              go_wp2
              refine ⟨⟨j + 1, by omega, by go_num, heap_other r2 (by omega), heap_other r3 (by omega), by rw [← Nat.add_assoc, ← hset.out]; exact brow_set rX (4 * k + j) x1, hw.setCell (show w.heap.size ≤ gX by omega) _⟩, by simp [intOf]; omega⟩
            · obtain rfl : j = 4 := by omega
              have hdj : decide ((4 : Int) < 4) = false := by decide
              go_wp2
              refine ⟨⟨k + 1, by omega, by go_num, r2, r3, rX, hw⟩, by simp [intOf]; omega⟩
        · obtain rfl : k = 60 := by omega
          have hd : decide ((60 : Int) < 60) = false := by decide
          rw [show pt (gb K) 240 (4 * 60) = K from pt_selfn K 240 hKl] at rX
          have hi9 := info_bl info32 K hKl
          have hfi : (irow .u8 (zr 240)).size = (irow .u8 (bl (K))).size := by rw [irow_size, irow_size, zr_len, bl_len, hKl]
          clear hk hlt
          go_wp2_with (first | (refine wpList_load_want rfl 32 _ rfl (gX) rfl 32 (irow .u8 (bl (K))) (0, 0) _ rX Try.underlying32 rfl hi9 ?_) | (refine wpList_store_row rfl 32 _ _ rfl (w.heap.size + 1 + 1) (irow .u8 (bl (K))) rfl rfl 32 _ r2 hi9 hfi (irow_one _ _) ?_) | fail)
          replace r2 := setRow_heap wr (w.heap.size + 1 + 1) _ (irow .u8 (bl (K))) _ _ r2
          replace hw := below_setRow hw (show w.heap.size ≤ w.heap.size + 1 + 1 by omega) (irow .u8 (bl (K)))
          generalize wr.setRow (w.heap.size + 1 + 1) (irow .u8 (bl (K))) = w9 at *
          exact bodyPost_ret (v := .agg (irow .u8 (bl (K)))) (results_cell_row Try.results35 _ _ (w.heap.size + 1 + 1) _ _ _ _ rfl r2 Try.underlying32 rfl hi9) rfl ⟨by rw [hK.out], hw⟩

end Go.Proofs.Ytmldmlbmfbdjoaa


namespace Go.Proofs.Ytmldmlbmfbdjoaa
open Go Go.RowKit Go.Sort
attribute [local go_sem] setCell_drewN alloc_drewN


theorem b32 (cs : Array Value) (W : World) : (Instr.box 32 (.agg cs)).run Try.prog W = .ok (.pointer (some ⟨W.heap.size, 0, none⟩)) (W.alloc (.cells cs 32)) := by kernel_rfl
theorem kr_len (K : List B) (r : Nat) : (kr K r).length = 16 := mk16_len _
theorem bl_kr (K : List B) (hK : K.length = 240) (r : Nat) (h : r < 15) : (irow .u8 (bl (K))).extract (r * 16) (r * 16 + (irow .u8 (bl (kr K r))).size) = (irow .u8 (bl (kr K r))) := by
  apply Array.ext_getElem?
  intro j
  rw [irow_size, bl_len, kr_len, Array.getElem?_extract]
  by_cases hj : j < 16
  · rw [if_pos (by rw [irow_size, bl_len, hK]; omega), irow_get _ _ _ (by rw [bl_len, hK]; omega), irow_get _ _ _ (by rw [bl_len, kr_len]; exact hj), bl_get, bl_get, kr, mk16_get _ hj, Nat.mul_comm r 16]
  · rw [if_neg (by omega), Array.getElem?_eq_none (by rw [irow_size, bl_len, kr_len]; omega)]

set_option maxRecDepth 100000 in
set_option maxHeartbeats 4000000 in
theorem r_keys (key : List B) (hl : key.length = 32) : Gives 16 #[.agg (irow .u8 (bl (key)))] (.agg (irow .u8 (bl (ks key 60)))) := by
  intro w
  have R0 := hp2_0 w (.cells (irow .u8 (bl (key))) 26) (.cells (irow .u8 (zr 240)) 32)
  have R1 := hp2_1 w (.cells (irow .u8 (bl (key))) 26) (.cells (irow .u8 (zr 240)) 32)
  have hw : Below w.heap.size w ((w.alloc (.cells (irow .u8 (bl (key))) 26)).alloc (.cells (irow .u8 (zr 240)) 32)) := (((Below.refl _ _).alloc (Nat.le_refl _) _).alloc (by simp) _)

  have hi0 := info_bl infoKy key hl
  have hi9 := info_bl info32 (ks key 60) (ks_len _ _)
  have hfi : (irow .u8 (zr 240)).size = (irow .u8 (bl (ks key 60))).size := by rw [irow_size, irow_size, zr_len, bl_len, ks_len]
  have ct := r_table
  have ck := r_keysBy key hl
  go_enter Try.func16, Try.ntmps16
  go_wp2_with (first | (refine wpList_box rfl 26 _ rfl _ rfl (bKey _) ?_) | (refine wpList_alloc rfl 32 rfl (irow .u8 (zr 240)) z32 ?_) | fail)
  try simp only [size_alloc1, Act.put, List.setIfInBounds_toArray, List.set_cons_succ, List.set_cons_zero]
  generalize World.alloc _ _ = w0 at *
  have HR0 := keepr R0
  refine wp_region_tail (C := fun w' => ∃ p : Regrown, w' = grow (redrawn w0 p.d) p.os) 3 _ rfl rfl rfl (by kernel_rfl) (by kernel_rfl) (by kernel_rfl) (by kernel_rfl) ⟨⟨w0.drawn + 1, #[]⟩, by rw [grow_empty]; rfl⟩ ?_
  dsimp only [List.set, idle]
  go_big_quiet_step (exact ct.re)
  refine wpQuiet_load_row rfl 26 _ rfl (w.heap.size) rfl 26 (irow .u8 (bl (key))) (0, 0) _ HR0.out Try.underlying26 rfl hi0 ?_
  simp only [Act.put, List.setIfInBounds_toArray, List.set_cons_succ, List.set_cons_zero]
  go_big_quiet_step (exact ck.re)
  refine wpQuiet_idle rfl rfl rfl ?_
  rintro _ ⟨p, rfl⟩
  have hb := below_regrown w0 p.d p.os
  generalize grow (redrawn w0 p.d) p.os = w1 at *
  replace R0 := keep hb R0
  replace R1 := keep hb R1
  replace hw := Below.after hw hb
  clear hb

  refine wpList_store_row rfl 32 _ _ rfl (w.heap.size + 1) (irow .u8 (bl (ks key 60))) rfl rfl 32 _ R1 hi9 hfi (irow_one _ _) ?_
  simp only [Act.put]
  replace R1 := setRow_heap w1 (w.heap.size + 1) _ (irow .u8 (bl (ks key 60))) _ _ R1
  replace hw := below_setRow hw (show w.heap.size ≤ w.heap.size + 1 by omega) (irow .u8 (bl (ks key 60)))
  generalize w1.setRow (w.heap.size + 1) (irow .u8 (bl (ks key 60))) = w9 at *
  go_wp2_with (fail)
  exact bodyPost_ret (v := .agg (irow .u8 (bl (ks key 60)))) (results_cell_row Try.results16 _ _ (w.heap.size + 1) _ _ _ _ rfl R1 Try.underlying32 rfl hi9) rfl ⟨rfl, hw⟩

set_option maxRecDepth 100000 in
set_option maxHeartbeats 4000000 in
theorem r_encryptBy (K l : List B) (hK : K.length = 240) (hl : l.length = 16) : Gives 42 #[.agg (irow .u8 (bl (sbl))), .agg (irow .u8 (bl (K))), .agg (irow .u8 (bl (l)))] (.agg (irow .u8 (bl (enc K l)))) := by
  intro w
  have R0 := hp4_0 w (.cells (irow .u8 (bl (sbl))) 55) (.cells (irow .u8 (bl (K))) 32) (.cells (irow .u8 (bl (l))) 31) (.cells (irow .u8 (zr 16)) 31)
  have R1 := hp4_1 w (.cells (irow .u8 (bl (sbl))) 55) (.cells (irow .u8 (bl (K))) 32) (.cells (irow .u8 (bl (l))) 31) (.cells (irow .u8 (zr 16)) 31)
  have R2 := hp4_2 w (.cells (irow .u8 (bl (sbl))) 55) (.cells (irow .u8 (bl (K))) 32) (.cells (irow .u8 (bl (l))) 31) (.cells (irow .u8 (zr 16)) 31)
  have R3 := hp4_3 w (.cells (irow .u8 (bl (sbl))) 55) (.cells (irow .u8 (bl (K))) 32) (.cells (irow .u8 (bl (l))) 31) (.cells (irow .u8 (zr 16)) 31)
  have hw : Below w.heap.size w ((((w.alloc (.cells (irow .u8 (bl (sbl))) 55)).alloc (.cells (irow .u8 (bl (K))) 32)).alloc (.cells (irow .u8 (bl (l))) 31)).alloc (.cells (irow .u8 (zr 16)) 31)) := (((((Below.refl _ _).alloc (Nat.le_refl _) _).alloc (by simp) _).alloc (by simp; omega) _).alloc (by simp; omega) _)

  have hiT := info256 sbl sbl_len
  have hi0 := info_bl infoR l hl
  have hik0 := info_bl infoR (kr K 0) (kr_len _ _)
  have cx := r_xor l (kr K 0) hl (kr_len _ _)
  go_enter Try.func42, Try.ntmps42
  go_wp2_with (first | (refine wpList_box rfl 55 _ rfl _ rfl (b256 _) ?_) | (refine wpList_box rfl 32 _ rfl _ rfl (b32 _) ?_) | (refine wpList_box rfl 31 _ rfl _ rfl (bR _) ?_) | (refine wpList_alloc rfl 31 rfl (irow .u8 (zr 16)) zR ?_) | ((try simp only [size_alloc1]); refine wpList_load_want rfl 31 _ rfl (w.heap.size + 1 + 1) rfl 31 (irow .u8 (bl (l))) (0, 0) _ R2 Try.underlying31 rfl hi0 ?_) | (refine wpList_load_part rfl 31 _ rfl (w.heap.size + 1) 0 rfl 32 (irow .u8 (bl (K))) (0, 0) (irow .u8 (bl (kr K 0))) _ R1 (bl_kr K hK 0 (by omega)) Try.underlying31 rfl hik0 ?_) | fail)
  try simp only [size_alloc1, Act.put, List.setIfInBounds_toArray, List.set_cons_succ, List.set_cons_zero]
  generalize World.alloc _ _ = w0 at *
  refine (cx.at _).mono ?_
  rintro e_ w1 ⟨rfl, hb⟩
  replace R0 := keep hb R0
  replace R1 := keep hb R1
  replace R2 := keep hb R2
  replace R3 := keep hb R3
  replace hw := Below.after hw hb
  clear hb cx
  go_wp2_with (first | (refine wpList_store_row rfl 31 _ _ rfl (w.heap.size + 1 + 1) (irow .u8 (bl (rnd K l 0))) rfl rfl 31 _ R2 (info_bl infoR _ (rnd_len _ _ _)) (by rw [irow_size, irow_size, bl_len, bl_len, rnd_len, hl]) (irow_one _ _) ?_; refine wpList_stay ?_) | fail)
  unfold WpStay
  replace R0 := (setRow_other w1 (w.heap.size + 1 + 1) (w.heap.size) (irow .u8 (bl (rnd K l 0))) (by omega)).trans R0
  replace R1 := (setRow_other w1 (w.heap.size + 1 + 1) (w.heap.size + 1) (irow .u8 (bl (rnd K l 0))) (by omega)).trans R1
  replace R3 := (setRow_other w1 (w.heap.size + 1 + 1) (w.heap.size + 1 + 1 + 1) (irow .u8 (bl (rnd K l 0))) (by omega)).trans R3
  replace R2 := setRow_heap w1 (w.heap.size + 1 + 1) _ (irow .u8 (bl (rnd K l 0))) _ _ R2
  replace hw := below_setRow hw (show w.heap.size ≤ w.heap.size + 1 + 1 by omega) (irow .u8 (bl (rnd K l 0)))
  generalize w1.setRow (w.heap.size + 1 + 1) (irow .u8 (bl (rnd K l 0))) = w2 at *
  go_wp2_with (fail)
  go_loopw [7] (fun i wr => ∃ n : Nat, n ≤ 13 ∧ i = .int .i64 ((n : Int) + 1) ∧ wr.heap[w.heap.size]? = some (.cells (irow .u8 (bl (sbl))) 55 (0, 0)) ∧ wr.heap[w.heap.size + 1]? = some (.cells (irow .u8 (bl (K))) 32 (0, 0)) ∧ wr.heap[w.heap.size + 1 + 1]? = some (.cells (irow .u8 (bl (rnd K l n))) 31 (0, 0)) ∧ wr.heap[w.heap.size + 1 + 1 + 1]? = some (.cells (irow .u8 (zr 16)) 31 (0, 0)) ∧ Below w.heap.size w wr) (fun i _ => 14 - (intOf i).toNat)
  case atStart => exact ⟨0, by omega, rfl, R0, R1, R2, R3, hw⟩
  case round =>
    clear R0 R1 R2 R3 hw
    obtain ⟨n, hn, rfl, r0, r1, r2, r3, hw⟩ := hrel
    by_cases hlt : n < 13
    · have hd : decide ((n : Int) + 1 < 14) = true := by simp; omega
      have hiB := info_bl infoR (rnd K l n) (rnd_len _ _ _)
      have hik := info_bl infoR (kr K (n + 1)) (kr_len _ _)
      have hpk := bl_kr K hK (n + 1) (by omega)
      have cs1 := r_subShift (rnd K l n) (rnd_len _ _ _)
      have cs2 := r_mix (shiftL (subL (rnd K l n))) (shiftL_len _)
      have cs3 := r_xor (mixL (shiftL (subL (rnd K l n)))) (kr K (n + 1)) (mix_len _) (kr_len _ _)
      go_wp2_with (fail)
      have HR0 := keepr r0
      have HR1 := keepr r1
      have HR2 := keepr r2
      refine wp_region_tail (C := fun w' => ∃ p : Regrown, w' = grow (redrawn wr p.d) p.os) 8 _ rfl rfl rfl (by kernel_rfl) (by kernel_rfl) (by kernel_rfl) (by kernel_rfl) ⟨⟨wr.drawn + 1, #[]⟩, by rw [grow_empty]; rfl⟩ ?_
      dsimp only [List.set, idle]
      refine wpQuiet_load_row rfl 55 _ rfl (w.heap.size) rfl 55 (irow .u8 (bl (sbl))) (0, 0) _ HR0.out Try.underlying55 rfl hiT ?_
      simp only [Act.put, List.setIfInBounds_toArray, List.set_cons_succ, List.set_cons_zero]
      refine wpQuiet_load_row rfl 31 _ rfl (w.heap.size + 1 + 1) rfl 31 (irow .u8 (bl (rnd K l n))) (0, 0) _ HR2.out Try.underlying31 rfl hiB ?_
      simp only [Act.put, List.setIfInBounds_toArray, List.set_cons_succ, List.set_cons_zero]
      go_big_quiet_step (exact cs1.re)
      go_big_quiet_step (exact cs2.re)
      go_big_quiet_step (fail)
      go_big_quiet_step (fail)
      refine wpQuiet_load_part rfl 31 _ rfl (w.heap.size + 1) ((n + 1) * 16) rfl 32 (irow .u8 (bl (K))) (0, 0) (irow .u8 (bl (kr K (n + 1)))) _ HR1.out hpk Try.underlying31 rfl hik ?_
      simp only [Act.put, List.setIfInBounds_toArray, List.set_cons_succ, List.set_cons_zero]
      go_big_quiet_step (exact cs3.re)
      refine wpQuiet_idle rfl rfl rfl ?_
      rintro _ ⟨p, rfl⟩
      have hb := below_regrown wr p.d p.os
      generalize grow (redrawn wr p.d) p.os = w3 at *
      replace r0 := keep hb r0
      replace r1 := keep hb r1
      replace r2 := keep hb r2
      replace r3 := keep hb r3
      replace hw := Below.after hw hb
      clear hb

      refine wpList_store_row rfl 31 _ _ rfl (w.heap.size + 1 + 1) (irow .u8 (bl (rnd K l (n + 1)))) rfl rfl 31 _ r2 (info_bl infoR _ (rnd_len _ _ _)) (by rw [irow_size, irow_size, bl_len, bl_len, rnd_len, rnd_len]) (irow_one _ _) ?_
      simp only [Act.put]
      replace r0 := (setRow_other w3 (w.heap.size + 1 + 1) (w.heap.size) (irow .u8 (bl (rnd K l (n + 1)))) (by omega)).trans r0
      replace r1 := (setRow_other w3 (w.heap.size + 1 + 1) (w.heap.size + 1) (irow .u8 (bl (rnd K l (n + 1)))) (by omega)).trans r1
      replace r3 := (setRow_other w3 (w.heap.size + 1 + 1) (w.heap.size + 1 + 1 + 1) (irow .u8 (bl (rnd K l (n + 1)))) (by omega)).trans r3
      replace r2 := setRow_heap w3 (w.heap.size + 1 + 1) _ (irow .u8 (bl (rnd K l (n + 1)))) _ _ r2
      replace hw := below_setRow hw (show w.heap.size ≤ w.heap.size + 1 + 1 by omega) (irow .u8 (bl (rnd K l (n + 1))))
      generalize w3.setRow (w.heap.size + 1 + 1) (irow .u8 (bl (rnd K l (n + 1)))) = w4 at *

      clear HR0 HR1 HR2 cs1 cs2 cs3 hpk
      go_wp2
      refine ⟨⟨n + 1, by omega, by go_num, r0, r1, r2, r3, hw⟩, by simp [intOf]; omega⟩
    · obtain rfl : n = 13 := by omega
      have hd : decide (((13 : Nat) : Int) + 1 < 14) = false := by decide
      have hiB := info_bl infoR (rnd K l 13) (rnd_len _ _ _)
      have hik := info_bl infoR (kr K 14) (kr_len _ _)
      have hpk := bl_kr K hK 14 (by omega)
      have cs1 := r_subShift (rnd K l 13) (rnd_len _ _ _)
      have cs3 := r_xor (shiftL (subL (rnd K l 13))) (kr K 14) (shiftL_len _) (kr_len _ _)
      have hi9 := info_bl infoR (enc K l) (enc_len _ _)
      clear hn hlt
      go_wp2_with (fail)
      have HR0 := keepr r0
      have HR1 := keepr r1
      have HR2 := keepr r2
      refine wp_region_tail (C := fun w' => ∃ p : Regrown, w' = grow (redrawn wr p.d) p.os) 6 _ rfl rfl rfl (by kernel_rfl) (by kernel_rfl) (by kernel_rfl) (by kernel_rfl) ⟨⟨wr.drawn + 1, #[]⟩, by rw [grow_empty]; rfl⟩ ?_
      dsimp only [List.set, idle]
      refine wpQuiet_load_row rfl 55 _ rfl (w.heap.size) rfl 55 (irow .u8 (bl (sbl))) (0, 0) _ HR0.out Try.underlying55 rfl hiT ?_
      simp only [Act.put, List.setIfInBounds_toArray, List.set_cons_succ, List.set_cons_zero]
      refine wpQuiet_load_row rfl 31 _ rfl (w.heap.size + 1 + 1) rfl 31 (irow .u8 (bl (rnd K l 13))) (0, 0) _ HR2.out Try.underlying31 rfl hiB ?_
      simp only [Act.put, List.setIfInBounds_toArray, List.set_cons_succ, List.set_cons_zero]
      go_big_quiet_step (exact cs1.re)
      go_big_quiet_step (fail)
      refine wpQuiet_load_part rfl 31 _ rfl (w.heap.size + 1) (14 * 16) rfl 32 (irow .u8 (bl (K))) (0, 0) (irow .u8 (bl (kr K 14))) _ HR1.out hpk Try.underlying31 rfl hik ?_
      simp only [Act.put, List.setIfInBounds_toArray, List.set_cons_succ, List.set_cons_zero]
      go_big_quiet_step (exact cs3.re)
      refine wpQuiet_idle rfl rfl rfl ?_
      rintro _ ⟨p, rfl⟩
      have hb := below_regrown wr p.d p.os
      generalize grow (redrawn wr p.d) p.os = w3 at *
      replace r0 := keep hb r0
      replace r1 := keep hb r1
      replace r2 := keep hb r2
      replace r3 := keep hb r3
      replace hw := Below.after hw hb
      clear hb

      refine wpList_store_row rfl 31 _ _ rfl (w.heap.size + 1 + 1 + 1) (irow .u8 (bl (enc K l))) rfl rfl 31 _ r3 hi9 (by rw [irow_size, irow_size, zr_len, bl_len, enc_len]) (irow_one _ _) ?_
      simp only [Act.put]
      replace r3 := setRow_heap w3 (w.heap.size + 1 + 1 + 1) _ (irow .u8 (bl (enc K l))) _ _ r3
      replace hw := below_setRow hw (show w.heap.size ≤ w.heap.size + 1 + 1 + 1 by omega) (irow .u8 (bl (enc K l)))
      generalize w3.setRow (w.heap.size + 1 + 1 + 1) (irow .u8 (bl (enc K l))) = w4 at *

      go_wp2_with (fail)
      exact bodyPost_ret (v := .agg (irow .u8 (bl (enc K l)))) (results_cell_row Try.results42 _ _ (w.heap.size + 1 + 1 + 1) _ _ _ _ rfl r3 Try.underlying31 rfl hi9) rfl ⟨rfl, hw⟩

end Go.Proofs.Ytmldmlbmfbdjoaa


namespace Go.Proofs.Ytmldmlbmfbdjoaa
open Go Go.RowKit Go.Sort
attribute [local go_sem] setCell_drewN alloc_drewN


theorem ovw_all : ∀ (vs : List Value) (cs : Array Value) (o : Nat), o + vs.length ≤ cs.size → (ovw cs o vs).toList = cs.toList.take o ++ vs ++ cs.toList.drop (o + vs.length)
  | [], cs, o, _ => by simp [ovw]
  | v :: r, cs, o, h => by
    have h' : o < cs.toList.length := by simp at h ⊢; omega
    rw [ovw, ovw_all r _ _ (by simp at h ⊢; omega), Array.toList_setIfInBounds, List.set_eq_take_append_cons_drop, if_pos h']
    have e : (cs.toList.take o).length = o := by rw [List.length_take]; omega
    rw [List.take_append, List.drop_append, e, List.take_take, show min (o + 1) o = o by omega, show o + 1 - o = 1 by omega, List.drop_eq_nil_of_le (show (cs.toList.take o).length ≤ o + 1 + r.length by omega), show o + 1 + r.length - o = r.length + 1 by omega, List.drop_succ_cons, List.drop_drop, List.length_cons, show o + 1 + r.length = o + (r.length + 1) by omega]
    simp
/-- A cipher's cells under way. -/
def cpx (a s b : List Int) : Array Value := irow .u32 a ++ (irow .u8 s ++ irow .u8 b)
theorem cpx_size (a s b : List Int) : (cpx a s b).size = a.length + (s.length + b.length) := by
  rw [cpx, Array.size_append, Array.size_append, irow_size, irow_size, irow_size]
theorem cpx_list (a s b : List Int) : (cpx a s b).toList = a.map (Value.int .u32) ++ (s.map (Value.int .u8) ++ b.map (Value.int .u8)) := by simp [cpx, irow]
theorem cpx_sub (a s b t : List Int) (ha : a.length = 60) (hs : s.length = 256) (ht : t.length = 256) : ovw (cpx a s b) 60 (irow .u8 t).toList = cpx a t b := by
  apply Array.ext'
  rw [ovw_all _ _ _ (by rw [cpx_size]; simp [irow]; omega), cpx_list, cpx_list]
  have h1 : (a.map (Value.int .u32)).length = 60 := by simp [ha]
  have h2 : (s.map (Value.int .u8)).length = 256 := by simp [hs]
  have h3 : (irow .u8 t).toList = t.map (Value.int .u8) := by simp [irow]
  rw [h3, List.length_map, ht, List.take_append_of_le_length (by omega), List.take_of_length_le (by omega), List.drop_append, h1, List.drop_of_length_le (by omega), List.drop_append, h2, List.drop_of_length_le (by omega)]
  simp
theorem cpx_back (a s b t : List Int) (ha : a.length = 60) (hs : s.length = 256) (hb : b.length = 256) (ht : t.length = 256) : ovw (cpx a s b) 316 (irow .u8 t).toList = cpx a s t := by
  apply Array.ext'
  rw [ovw_all _ _ _ (by rw [cpx_size]; simp [irow]; omega), cpx_list, cpx_list]
  have h1 : (a.map (Value.int .u32)).length = 60 := by simp [ha]
  have h2 : (s.map (Value.int .u8)).length = 256 := by simp [hs]
  have h4 : (b.map (Value.int .u8)).length = 256 := by simp [hb]
  have h3 : (irow .u8 t).toList = t.map (Value.int .u8) := by simp [irow]
  rw [h3, List.length_map, ht, ← List.append_assoc, List.take_append_of_le_length (by simp; omega), List.take_of_length_le (by simp; omega), List.drop_of_length_le (by simp; omega)]
  simp
theorem cpx_keys (a s b t : List Int) (ha : a.length = 60) (ht : t.length = 60) : ovw (cpx a s b) 0 (irow .u32 t).toList = cpx t s b := by
  apply Array.ext'
  rw [ovw_all _ _ _ (by rw [cpx_size]; simp [irow]; omega), cpx_list, cpx_list]
  have h1 : (a.map (Value.int .u32)).length = 60 := by simp [ha]
  have h3 : (irow .u32 t).toList = t.map (Value.int .u32) := by simp [irow]
  rw [h3, List.length_map, ht, Nat.zero_add, List.drop_append, h1, List.drop_of_length_le (by omega)]
  simp
theorem builtC : Try.prog.built 65 [] = some (cpx (zr 60) (zr 256) (zr 256)) := by kernel_rfl
theorem bCi (cs : Array Value) (W : World) : (Instr.box 65 (.agg cs)).run Try.prog W = .ok (.pointer (some ⟨W.heap.size, 0, none⟩)) (W.alloc (.cells cs 65)) := by kernel_rfl
theorem cpx_cell {W : World} {g : Nat} {a b : List Int} {t : TypeId} (h : W.heap[g]? = some (.cells (cpx a (bl sbl) b) t (0, 0))) (ha : a.length = 60) (x : B) : W.cell? ⟨g, 60 + x.toNat, none⟩ = some (.int .u8 (bv (sb x))) := by
  have hx := x.isLt
  rw [cell_of_row W g _ _ _ (0, 0) h, cpx, Array.getElem?_append_right (by rw [irow_size, ha]; omega), Array.getElem?_append_left (by rw [irow_size, irow_size, ha, bl_len, sbl_len]; omega), irow_size, ha, show 60 + x.toNat - 60 = x.toNat by omega, irow_get _ _ _ (by rw [bl_len, sbl_len]; exact hx), bl_get, sbl_get]

set_option maxRecDepth 100000 in
set_option maxHeartbeats 4000000 in
theorem a_new (key : List B) (hl : key.length = 32) (w : World) : Calls Try.prog 17 #[.agg (irow .u8 (bl (key)))] w fun e w' => ∃ v, e = .returned v ∧ ∃ g, v = .pointer (some ⟨g, 0, none⟩) ∧ w.heap.size ≤ g ∧ Cph w' g (ks key 60) ∧ Below w.heap.size w w' := by
  have R0 := hp2_0 w (.cells (irow .u8 (bl (key))) 26) (.cells (cpx (zr 60) (zr 256) (zr 256)) 65)
  have R1 := hp2_1 w (.cells (irow .u8 (bl (key))) 26) (.cells (cpx (zr 60) (zr 256) (zr 256)) 65)
  have hw : Below w.heap.size w ((w.alloc (.cells (irow .u8 (bl (key))) 26)).alloc (.cells (cpx (zr 60) (zr 256) (zr 256)) 65)) := (((Below.refl _ _).alloc (Nat.le_refl _) _).alloc (by simp) _)

  have hi0 := info_bl infoKy key hl
  have hi1 := info256 sbl sbl_len
  have hi2 := info256 bkl bkl_len
  have cb := a_boxes
  go_enter Try.func17, Try.ntmps17
  go_wp2_with (first | (refine wpList_box rfl 26 _ rfl _ rfl (bKey _) ?_) | (refine wpList_build_as rfl 65 _ rfl [] rfl (cpx (zr 60) (zr 256) (zr 256)) builtC ?_) | (refine wpList_box rfl 65 _ rfl _ rfl (bCi _) ?_) | fail)
  try simp only [size_alloc1, Act.put, List.setIfInBounds_toArray, List.set_cons_succ, List.set_cons_zero]
  generalize World.alloc _ _ = w0 at *
  refine (cb.at _).mono ?_
  rintro e_ w1 ⟨rfl, hb⟩
  replace R0 := keep hb R0
  replace R1 := keep hb R1
  replace hw := Below.after hw hb
  clear hb cb
  go_wp2_with (first | (refine wpList_store_part rfl 55 _ _ rfl (w.heap.size + 1) 60 (irow .u8 (bl (sbl))) rfl rfl 65 (cpx (zr 60) (zr 256) (zr 256)) (cpx (zr 60) (bl sbl) (zr 256)) R1 (by rw [cpx_size, irow_size, bl_len, sbl_len, zr_len, zr_len]; omega) (cpx_sub _ _ _ _ (zr_len _) (zr_len _) (by rw [bl_len, sbl_len])) hi1 (irow_one _ _) ?_; refine wpList_stay ?_) | fail)
  unfold WpStay
  replace R0 := (setRow_other w1 (w.heap.size + 1) (w.heap.size) (cpx (zr 60) (bl sbl) (zr 256)) (by omega)).trans R0
  replace R1 := setRow_heap w1 (w.heap.size + 1) _ (cpx (zr 60) (bl sbl) (zr 256)) _ _ R1
  replace hw := below_setRow hw (show w.heap.size ≤ w.heap.size + 1 by omega) (cpx (zr 60) (bl sbl) (zr 256))
  generalize w1.setRow (w.heap.size + 1) (cpx (zr 60) (bl sbl) (zr 256)) = w2 at *
  go_wp2_with (first | (refine wpList_store_part rfl 55 _ _ rfl (w.heap.size + 1) 316 (irow .u8 (bl (bkl))) rfl rfl 65 (cpx (zr 60) (bl sbl) (zr 256)) (cpx (zr 60) (bl sbl) (bl bkl)) R1 (by rw [cpx_size, irow_size, bl_len, bl_len, bkl_len, sbl_len, zr_len, zr_len]; omega) (cpx_back _ _ _ _ (zr_len _) (by rw [bl_len, sbl_len]) (zr_len _) (by rw [bl_len, bkl_len])) hi2 (irow_one _ _) ?_; refine wpList_stay ?_) | fail)
  unfold WpStay
  replace R0 := (setRow_other w2 (w.heap.size + 1) (w.heap.size) (cpx (zr 60) (bl sbl) (bl bkl)) (by omega)).trans R0
  replace R1 := setRow_heap w2 (w.heap.size + 1) _ (cpx (zr 60) (bl sbl) (bl bkl)) _ _ R1
  replace hw := below_setRow hw (show w.heap.size ≤ w.heap.size + 1 by omega) (cpx (zr 60) (bl sbl) (bl bkl))
  generalize w2.setRow (w.heap.size + 1) (cpx (zr 60) (bl sbl) (bl bkl)) = w3 at *
  go_wp2_with (fail)
  have HR0 := keepr R0
  have HR1 := keepr R1
  refine wp_region_tail (C := fun w' => ∃ p : Regrown, w' = grow (redrawn w3 p.d) p.os) 8 _ rfl rfl rfl (by kernel_rfl) (by kernel_rfl) (by kernel_rfl) (by kernel_rfl) ⟨⟨w3.drawn + 1, #[]⟩, by rw [grow_empty]; rfl⟩ ?_
  dsimp only [List.set, idle]
  go_big_quiet_step (fail)
  refine wpQuiet_load_row rfl 26 _ rfl (w.heap.size) rfl 26 (irow .u8 (bl (key))) (0, 0) _ HR0.out Try.underlying26 rfl hi0 ?_
  simp only [Act.put, List.setIfInBounds_toArray, List.set_cons_succ, List.set_cons_zero]
  go_big_quiet_step (fail)
  go_big_quiet_step (fail)
  go_big_quiet_step (fail)
  go_big_quiet_step (exact Calls.regrown_of (a_roundKeys key hl (w.heap.size + 1) 60 _ (lt_of_row (HR1.out _ ⟨_, rfl⟩)) (fun x => cpx_cell (HR1.out _ ⟨_, rfl⟩) (zr_len 60) x)))
  go_big_quiet_step (fail)
  go_big_quiet_step (fail)
  refine wpQuiet_idle rfl rfl rfl ?_
  rintro _ ⟨p, rfl⟩
  have hb := below_regrown w3 p.d p.os
  generalize grow (redrawn w3 p.d) p.os = w4 at *
  replace R0 := keep hb R0
  replace R1 := keep hb R1
  replace hw := Below.after hw hb
  clear hb

  have hi5 := info_wl info15 (wos (ks key 60) 60) (wos_len _ _)
  refine wpList_store_part rfl 63 _ _ rfl (w.heap.size + 1) 0 (irow .u32 (wl (wos (ks key 60) 60))) rfl rfl 65 (cpx (zr 60) (bl sbl) (bl bkl)) (cph (ks key 60)) R1 (by rw [cpx_size, irow_size, wl_len, wos_len, zr_len]; omega) (cpx_keys _ _ _ _ (zr_len _) (by rw [wl_len, wos_len])) hi5 (irow_one _ _) ?_
  simp only [Act.put]
  replace R1 := setRow_heap w4 (w.heap.size + 1) _ (cph (ks key 60)) _ _ R1
  replace hw := below_setRow hw (show w.heap.size ≤ w.heap.size + 1 by omega) (cph (ks key 60))
  generalize w4.setRow (w.heap.size + 1) (cph (ks key 60)) = w5 at *
  clear HR0 HR1
  go_wp2
  go_ret
  exact ⟨_, rfl, w.heap.size + 1, rfl, by omega, R1, hw⟩

end Go.Proofs.Ytmldmlbmfbdjoaa


namespace Go.Proofs.Ytmldmlbmfbdjoaa
open Go Go.RowKit Go.Sort
attribute [local go_sem] setCell_drewN alloc_drewN


theorem b16 (cs : Array Value) (W : World) : (Instr.box 27 (.agg cs)).run Try.prog W = .ok (.pointer (some ⟨W.heap.size, 0, none⟩)) (W.alloc (.cells cs 27)) := by kernel_rfl
theorem info16 : (Try.prog.info? 27).map (·.size) = some 16 := by kernel_rfl
theorem bl_inj {a b : List B} (h : bl a = bl b) : a = b := by
  apply List.map_inj_right (f := bv) (fun x y => bv_inj.1) |>.1 h
theorem eqB (a b : List B) (ha : a.length = 16) (hb : b.length = 16) (W : World) : (Op.equalIn 10000 28 (.agg (irow .u8 (bl (a)))) (.agg (irow .u8 (bl (b))))).run Try.prog W = .ok (decide (a = b)) W := by
  obtain ⟨i0, hi⟩ : ∃ i, Try.prog.info? 5 = some i := ⟨_, rfl⟩
  have h := run_equal_ints (P := Try.prog) W Try.underlying28 Try.underlying5 hi (by kernel_rfl) (bl a) (bl b) (by rw [bl_len, ha]) (by rw [bl_len, hb])
  have e : decide (bl a = bl b) = decide (a = b) := by
    by_cases q : a = b
    · rw [q]; simp
    · rw [decide_eq_false q, decide_eq_false (fun h => q (bl_inj h))]
  rw [← e]
  exact h

theorem a_decrypt_enc (l K : List B) (hl : l.length = 16) (g : Nat) (w : World) (hC : Cph w g K) : Calls Try.prog 20 #[.pointer (some ⟨g, 0, none⟩), .agg (irow .u8 (bl (enc K l)))] w fun e w' => e = .returned (.agg (irow .u8 (bl (l)))) ∧ Below w.heap.size w w' := by
  have := a_decrypt (enc K l) K (enc_len _ _) g w hC
  rwa [dec_enc K l hl] at this
theorem a_encrypt_dec (l K : List B) (hl : l.length = 16) (g : Nat) (w : World) (hC : Cph w g K) : Calls Try.prog 18 #[.pointer (some ⟨g, 0, none⟩), .agg (irow .u8 (bl (dec K l)))] w fun e w' => e = .returned (.agg (irow .u8 (bl (l)))) ∧ Below w.heap.size w w' := by
  have := a_encrypt (dec K l) K (dec_len _ _) g w hC
  rwa [enc_dec K l hl] at this
set_option maxRecDepth 100000 in
set_option maxHeartbeats 4000000 in
theorem back_any (key l : List B) (hk : key.length = 32) (hl : l.length = 16) (x : B) : Gives 7 #[.agg (irow .u8 (bl (key))), .agg (irow .u8 (bl (l))), .int .u8 (bv x)] (.bool true) := by
  intro w
  have R0 := hp2_0 w (.cells (irow .u8 (bl (key))) 26) (.cells (irow .u8 (bl (l))) 27)
  have R1 := hp2_1 w (.cells (irow .u8 (bl (key))) 26) (.cells (irow .u8 (bl (l))) 27)
  have hw : Below w.heap.size w ((w.alloc (.cells (irow .u8 (bl (key))) 26)).alloc (.cells (irow .u8 (bl (l))) 27)) := (((Below.refl _ _).alloc (Nat.le_refl _) _).alloc (by simp) _)

  have hiK := info_bl infoKy key hk
  have hi6 := info_bl info16 l hl
  have hiB := info_bl infoB l hl
  have s0 : Gives 11 #[.int .u8 0] (.int .u8 99) := by have := a_sub 0#8; rw [show sb 0#8 = 99#8 by decide +kernel] at this; exact this
  have s1 : Gives 13 #[.int .u8 99] (.int .u8 0) := by have := a_back 99#8; rw [show bk 99#8 = 0#8 by decide +kernel] at this; exact this
  have s2 := a_sub x
  have s3 := a_back (sb x)
  rw [bk_sb] at s3
  have s4 := a_back x
  have s5 := a_sub (bk x)
  rw [sb_bk] at s5
  have cn := a_new key hk
  generalize ks key 60 = K at *
  go_enter Try.func7, Try.ntmps7
  go_wp2_with (first | (refine wpList_box rfl 26 _ rfl _ rfl (bKey _) ?_) | (refine wpList_box rfl 27 _ rfl _ rfl (b16 _) ?_) | (refine wpList_load_want rfl 26 _ rfl (w.heap.size) rfl 26 (irow .u8 (bl (key))) (0, 0) _ R0 Try.underlying26 rfl hiK ?_) | fail)
  try simp only [size_alloc1, Act.put, List.setIfInBounds_toArray, List.set_cons_succ, List.set_cons_zero]
  generalize World.alloc _ _ = w0 at *
  refine (cn _).mono ?_
  rintro _ w1 ⟨_, rfl, g, rfl, hg, hC, hb⟩
  replace R1 := keep hb R1
  replace hw := Below.after hw hb
  clear hb hg cn R0
  go_wp2_with (fail)
  refine (s0.at _).mono ?_
  rintro e_ w2 ⟨rfl, hb⟩
  replace R1 := keep hb R1
  replace hC := hC.keep hb
  replace hw := Below.after hw hb
  clear hb

  go_wp2_with (fail)
  refine (s1.at _).mono ?_
  rintro e_ w3 ⟨rfl, hb⟩
  replace R1 := keep hb R1
  replace hC := hC.keep hb
  replace hw := Below.after hw hb
  clear hb

  have R9 := hp1_0 w3 (.cells (irow .u8 (zr 16)) 28)
  have HB : Below w3.heap.size w3 (w3.alloc (.cells (irow .u8 (zr 16)) 28)) := (Below.refl _ _).alloc (Nat.le_refl _) _
  have hf9 : (irow .u8 (zr 16)).size = (irow .u8 (bl (l))).size := by rw [irow_size, irow_size, zr_len, bl_len, hl]
  go_wp2_with (first | (refine wpList_load_want rfl 27 _ rfl (w.heap.size + 1) rfl 27 (irow .u8 (bl (l))) (0, 0) _ R1 Try.underlying27 rfl hi6 ?_) | (refine wpList_alloc rfl 28 rfl (irow .u8 (zr 16)) zBl ?_) | (refine wpList_store_row rfl 28 _ _ rfl (w3.heap.size) (irow .u8 (bl (l))) rfl rfl 28 _ R9 hiB hf9 (irow_one _ _) ?_; refine wpList_stay ?_) | fail)
  unfold WpStay
  have hsz := hw.size
  have lC := lt_of_row hC
  replace hC : Cph _ g K := (setRow_other _ (w3.heap.size) g (irow .u8 (bl (l))) (Nat.ne_of_lt lC)).trans (keep HB hC)
  replace R9 := setRow_heap _ (w3.heap.size) _ (irow .u8 (bl (l))) _ _ R9
  replace hw := below_setRow (Below.after hw HB) hsz (irow .u8 (bl (l)))
  clear HB hf9
  generalize World.setRow _ (w3.heap.size) (irow .u8 (bl (l))) = w4 at *
  generalize w3.heap.size = gP at *
  have rp := R9
  clear R9

  clear R1
  have q1 := fun W => eqB l l hl hl W
  simp only [decide_true] at q1
  go_wp2_with (fail)
  have Hrp := keepr rp
  have HC := keepr hC
  refine wp_region_quiet_below (by kernel_rfl) (by kernel_rfl) ?_
  go_big_quiet_step (fail)
  go_big_quiet_step (fail)
  refine wpQuiet_load_part rfl 28 _ rfl (gP) 0 rfl 28 (irow .u8 (bl (l))) (0, 0) (irow .u8 (bl (l))) _ Hrp.out (by simp) Try.underlying28 rfl hiB ?_
  simp only [Act.put, List.setIfInBounds_toArray, List.set_cons_succ, List.set_cons_zero]
  go_big_quiet_step (exact Calls.regrown_of (a_encrypt l K hl g _ (HC.out _ ⟨_, rfl⟩)))
  go_big_quiet_step (exact Calls.regrown_of (a_decrypt_enc l K hl g _ (HC.out _ ⟨_, rfl⟩)))
  refine wpQuiet_load_part rfl 28 _ rfl (gP) 0 rfl 28 (irow .u8 (bl (l))) (0, 0) (irow .u8 (bl (l))) _ Hrp.out (by simp) Try.underlying28 rfl hiB ?_
  simp only [Act.put, List.setIfInBounds_toArray, List.set_cons_succ, List.set_cons_zero]
  go_big_quiet_step (fail)
  go_big_quiet_step (fail)
  go_big_quiet_step (fail)
  go_big_quiet_step (fail)
  refine wpQuiet_load_part rfl 28 _ rfl (gP) 0 rfl 28 (irow .u8 (bl (l))) (0, 0) (irow .u8 (bl (l))) _ Hrp.out (by simp) Try.underlying28 rfl hiB ?_
  simp only [Act.put, List.setIfInBounds_toArray, List.set_cons_succ, List.set_cons_zero]
  go_big_quiet_step (exact Calls.regrown_of (a_decrypt l K hl g _ (HC.out _ ⟨_, rfl⟩)))
  go_big_quiet_step (exact Calls.regrown_of (a_encrypt_dec l K hl g _ (HC.out _ ⟨_, rfl⟩)))
  refine wpQuiet_load_part rfl 28 _ rfl (gP) 0 rfl 28 (irow .u8 (bl (l))) (0, 0) (irow .u8 (bl (l))) _ Hrp.out (by simp) Try.underlying28 rfl hiB ?_
  simp only [Act.put, List.setIfInBounds_toArray, List.set_cons_succ, List.set_cons_zero]
  go_big_quiet_step (fail)
  go_big_quiet_step (fail)
  refine wpQuiet_nil ?_
  rintro _ ⟨p, rfl⟩
  have hb := below_regrown w4 p.d p.os
  generalize grow (redrawn w4 p.d) p.os = w5 at *
  clear HC Hrp
  replace rp := keep hb rp
  replace hC := hC.keep hb
  replace hw := Below.after hw hb
  clear hb

  have R9 := hp1_0 w5 (.cells (irow .u8 (zr 16)) 28)
  have HB : Below w5.heap.size w5 (w5.alloc (.cells (irow .u8 (zr 16)) 28)) := (Below.refl _ _).alloc (Nat.le_refl _) _
  have hf9 : (irow .u8 (zr 16)).size = (irow .u8 (bl (l))).size := by rw [irow_size, irow_size, zr_len, bl_len, hl]
  go_wp2_with (first | (refine wpList_load_want rfl 28 _ rfl (gP) rfl 28 (irow .u8 (bl (l))) (0, 0) _ rp Try.underlying28 rfl hiB ?_) | (refine wpList_alloc rfl 28 rfl (irow .u8 (zr 16)) zBl ?_) | (refine wpList_store_row rfl 28 _ _ rfl (w5.heap.size) (irow .u8 (bl (l))) rfl rfl 28 _ R9 hiB hf9 (irow_one _ _) ?_; refine wpList_stay ?_) | fail)
  unfold WpStay
  have hsz := hw.size
  have lC := lt_of_row hC
  have lrp := lt_of_row rp
  replace rp := (setRow_other _ (w5.heap.size) _ (irow .u8 (bl (l))) (Nat.ne_of_lt lrp)).trans (keep HB rp)
  replace hC : Cph _ g K := (setRow_other _ (w5.heap.size) g (irow .u8 (bl (l))) (Nat.ne_of_lt lC)).trans (keep HB hC)
  replace R9 := setRow_heap _ (w5.heap.size) _ (irow .u8 (bl (l))) _ _ R9
  replace hw := below_setRow (Below.after hw HB) hsz (irow .u8 (bl (l)))
  clear HB hf9
  generalize World.setRow _ (w5.heap.size) (irow .u8 (bl (l))) = w6 at *
  generalize w5.heap.size = gO at *
  have ro := R9
  clear R9

  have c0 := brow_cell ro (j := 0) (by omega)
  have hf0 := row_frozen ro 0
  have hx := xor8 (l.getD 0 0#8) 1#8
  rw [show bv 1#8 = 1 from rfl] at hx
  have hne : Hid (l.set 0 (l.getD 0 0#8 ^^^ 1#8) ≠ l) := hide (fun h => by
    have := congrArg (fun m => List.getD m 0 0#8) h
    simp only [List.getD_eq_getElem?_getD, List.getElem?_set, hl] at this
    revert this
    generalize l[0]?.getD 0#8 = z
    simp only [if_true]
    exact (by decide +kernel : ∀ z : B, z ^^^ 1#8 = z → False) z)
  have hro := brow_set ro 0 (l.getD 0 0#8 ^^^ 1#8)
  have hlo : (l.set 0 (l.getD 0 0#8 ^^^ 1#8)).length = 16 := by rw [List.length_set, hl]
  generalize l.set 0 (l.getD 0 0#8 ^^^ 1#8) = lo at *
  generalize l.getD 0 0#8 ^^^ 1#8 = z1 at *
  generalize l.getD 0 0#8 = z0 at *
  go_wp2_with (fail)
  replace rp := heap_other (j := 0) (v := .int .u8 (bv z1)) rp (Nat.ne_of_lt lrp)
  replace hC : Cph _ g K := heap_other (j := 0) (v := .int .u8 (bv z1)) hC (Nat.ne_of_lt lC)
  replace hw : Below w.heap.size w (w6.setCell ⟨gO, 0, none⟩ (.int .u8 (bv z1))) := hw.setCell hsz _
  replace ro := hro
  clear hro c0 hf0 hx
  generalize w6.setCell ⟨gO, 0, none⟩ (.int .u8 (bv z1)) = w7 at *
  have q2 := fun W => eqB (enc K lo) (enc K l) (enc_len _ _) (enc_len _ _) W
  rw [decide_eq_false (fun h => hne.out (enc_inj K lo l hlo hl h))] at q2
  have hiO := info_bl infoB lo hlo
  have Hrp := keepr rp
  have Hro := keepr ro
  have HC := keepr hC
  refine wp_region_quiet_below (by kernel_rfl) (by kernel_rfl) ?_
  go_big_quiet_step (fail)
  refine wpQuiet_load_part rfl 28 _ rfl (gO) 0 rfl 28 (irow .u8 (bl (lo))) (0, 0) (irow .u8 (bl (lo))) _ Hro.out (by simp) Try.underlying28 rfl hiO ?_
  simp only [Act.put, List.setIfInBounds_toArray, List.set_cons_succ, List.set_cons_zero]
  go_big_quiet_step (exact Calls.regrown_of (a_encrypt lo K hlo g _ (HC.out _ ⟨_, rfl⟩)))
  go_big_quiet_step (fail)
  refine wpQuiet_load_part rfl 28 _ rfl (gP) 0 rfl 28 (irow .u8 (bl (l))) (0, 0) (irow .u8 (bl (l))) _ Hrp.out (by simp) Try.underlying28 rfl hiB ?_
  simp only [Act.put, List.setIfInBounds_toArray, List.set_cons_succ, List.set_cons_zero]
  go_big_quiet_step (exact Calls.regrown_of (a_encrypt l K hl g _ (HC.out _ ⟨_, rfl⟩)))
  go_big_quiet_step (fail)
  refine wpQuiet_nil ?_
  rintro _ ⟨p, rfl⟩
  have hb := below_regrown w7 p.d p.os
  generalize grow (redrawn w7 p.d) p.os = w8 at *
  clear HC Hrp Hro
  replace rp := keep hb rp
  replace ro := keep hb ro
  replace hC := hC.keep hb
  replace hw := Below.after hw hb
  clear hb

  go_wp2_with (fail)
  refine (s2.at _).mono ?_
  rintro e_ w10 ⟨rfl, hb⟩
  replace hw := Below.after hw hb
  clear hb
  go_wp2_with (fail)
  refine (s3.at _).mono ?_
  rintro e_ w11 ⟨rfl, hb⟩
  replace hw := Below.after hw hb
  clear hb
  go_wp2_with (fail)
  refine (s4.at _).mono ?_
  rintro e_ w12 ⟨rfl, hb⟩
  replace hw := Below.after hw hb
  clear hb
  go_wp2_with (fail)
  refine (s5.at _).mono ?_
  rintro e_ w13 ⟨rfl, hb⟩
  replace hw := Below.after hw hb
  clear hb

  go_wp2
  go_ret
  exact ⟨rfl, hw⟩

end Go.Proofs.Ytmldmlbmfbdjoaa

