import Derived.Test.YtgfeacnhdlgpoaaDoorProg
import Derived.WalkKit
import Derived.WalkSpells
import Derived.WalkLawsBesides
import Derived.Lib.QuietBelow
import Derived.BigQuiet
import Derived.Test.YtgfeacnhdlgpoaaDoorKa
import Derived.Test.YtgfeacnhdlgpoaaDoorHc
namespace Go.Proofs.YtgfeacnhdlgpoaaDoor
set_option maxRecDepth 100000
open Go Go.RowKit Go.Sort
attribute [local go_sem] setCell_drewN alloc_drewN

/-- Words added, the first k of eight. -/
def sums (h e : List Int) (k : Nat) : List Int := (List.range 8).map fun j => if j < k then (h.getD j 0 + e.getD j 0) % 4294967296 else h.getD j 0
theorem sums_len (h e : List Int) (k : Nat) : (sums h e k).length = 8 := by simp [sums]
theorem sums_zero (h e : List Int) (hl : h.length = 8) : sums h e 0 = h := by
  apply List.ext_getElem
  · rw [sums_len, hl]
  · intro i h1 h2
    simp [sums, h2]
theorem sums_get (h e : List Int) (k : Nat) (hk : k < 8) : (sums h e k).getD k 0 = h.getD k 0 := by
  simp [sums, List.getD_eq_getElem?_getD, hk]
theorem sums_set (h e : List Int) (k : Nat) (hk : k < 8) : (sums h e k).set k ((h.getD k 0 + e.getD k 0) % 4294967296) = sums h e (k + 1) := by
  apply List.ext_getElem?
  intro j
  rw [List.getElem?_set]
  by_cases c : k = j
  · subst c
    rw [if_pos rfl, if_pos (by rw [sums_len]; exact hk)]
    simp [sums, hk]
  · rw [if_neg c]
    simp only [sums, List.getElem?_map]
    by_cases hj : j < 8
    · simp only [List.getElem?_range hj, Option.map_some]
      by_cases h1 : j < k
      · rw [if_pos h1, if_pos (by omega)]
      · rw [if_neg h1, if_neg (by omega)]
    · rw [List.getElem?_eq_none (by simp; omega)]; rfl
/-- What a block comes to. -/
def blk (h b : List Int) : List Int := sums h (rs h (wds b) 64).list 8
theorem blk_len (h b : List Int) : (blk h b).length = 8 := sums_len _ _ _
theorem sums_bd (h e : List Int) (x : Int) (hx : x ∈ sums h e 8) : 0 ≤ x ∧ x < 4294967296 := by
  simp only [sums, List.mem_map, List.mem_range] at hx
  obtain ⟨j, hj, rfl⟩ := hx
  rw [if_pos hj]
  omega
theorem info23 (l : List Int) (hl : l.length = 8) : (Tryd.prog.info? 99).map (·.size) = some (irow .u32 l).size := by
  rw [irow_size, hl]; kernel_rfl
theorem info24 (l : List Int) (hl : l.length = 64) : (Tryd.prog.info? 104).map (·.size) = some (irow .u8 l).size := by
  rw [irow_size, hl]; kernel_rfl
theorem fit8 (l m : List Int) (hl : l.length = 8) (hm : m.length = 8) : (irow .u32 l).size = (irow .u32 m).size := by
  rw [irow_size, irow_size, hl, hm]
theorem fit64 (l m : List Int) (hl : l.length = 64) (hm : m.length = 64) : (irow .u8 l).size = (irow .u8 m).size := by
  rw [irow_size, irow_size, hl, hm]
theorem list_len (s : St8) : s.list.length = 8 := rfl
set_option maxRecDepth 100000 in
set_option maxHeartbeats 4000000 in
theorem a_block (h b : List Int) (hl : h.length = 8) (hb : b.length = 64) (hz : ∀ z ∈ b, 0 ≤ z ∧ z < 256) : Gives1 64 #[.agg (irow .u32 h), .agg (irow .u8 b)] (.agg (irow .u32 (blk h b))) := by
  intro w hK
  have cS := a_spread b hb hz
  have cM := a_mixed h hl (wds b)
  have ib := info24 b hb
  clear hz
  have r0 := hp3_0 w (.cells (irow .u32 h) 99) (.cells (irow .u8 b) 104) (.cells (irow .u32 (zr 8)) 99)
  have r1 := hp3_1 w (.cells (irow .u32 h) 99) (.cells (irow .u8 b) 104) (.cells (irow .u32 (zr 8)) 99)
  have r2 := hp3_2 w (.cells (irow .u32 h) 99) (.cells (irow .u8 b) 104) (.cells (irow .u32 (zr 8)) 99)
  have hw : Below w.heap.size w (((w.alloc (.cells (irow .u32 h) 99)).alloc (.cells (irow .u8 b) 104)).alloc (.cells (irow .u32 (zr 8)) 99)) := ((((Below.refl _ _).alloc (Nat.le_refl _) _).alloc (by simp) _).alloc (by simp; omega) _)

  have f4 := hK.below hw
  clear hK
  go_enter Tryd.func64, Tryd.ntmps64
  go_wp2_with (first | (refine wpList_box rfl 99 _ rfl _ rfl (b23 _) ?_) | (refine wpList_box rfl 104 _ rfl _ rfl (b24 _) ?_) | (refine wpList_alloc rfl 99 rfl (irow .u32 (zr 8)) z23 ?_) | fail)
  simp only [size_alloc1, Act.put, List.setIfInBounds_toArray, List.set_cons_succ, List.set_cons_zero]
  generalize (((w.alloc (.cells (irow .u32 h) 99)).alloc (.cells (irow .u8 b) 104)).alloc (.cells (irow .u32 (zr 8)) 99)) = w0 at *
  have hfin : blk h b = sums h (rs h (wds b) 64).list 8 := rfl
  have he := list_len (rs h (wds b) 64)
  generalize (rs h (wds b) 64).list = e at *
  refine wp_region_alloc_ex 4 5 [5] (fun _ => .cells (irow .u32 (zr 8)) 99 (0, 0)) (by kernel_rfl) (by decide) (by decide) (by kernel_rfl) (by kernel_rfl) (by kernel_rfl) (by kernel_rfl) (by kernel_rfl) (by kernel_rfl) (by kernel_rfl) (by kernel_rfl) (by decide) (by decide) ?_ ?_
  · intro s l u
    obtain rfl : s = 4 := by omega
    exact ⟨_, _, rfl, rfl, rfl, rfl, fun a w => by kernel_rfl⟩
  apply Exists.intro
  constructor
  · intro v_ hb
    have Hr0 := keepr (keep hb r0)
    have Hr1 := keepr (keep hb r1)
    have Hr2 := keepr (keep hb r2)
    have F4 := f4.below hb
    clear hb; dsimp only [List.take]
    refine wpQuiet_load_row rfl 99 _ rfl (w.heap.size) rfl 99 (irow .u32 h) (0, 0) _ Hr0.out Tryd.underlying99 rfl (info23 _ hl) ?_
    simp only [Act.put, List.setIfInBounds_toArray, List.set_cons_succ, List.set_cons_zero]
    refine wpQuiet_load_row rfl 104 _ rfl (w.heap.size + 1) rfl 104 (irow .u8 b) (0, 0) _ Hr1.out Tryd.underlying104 rfl ib ?_
    simp only [Act.put, List.setIfInBounds_toArray, List.set_cons_succ, List.set_cons_zero]
    go_big_quiet_step (exact cS.re)
    go_big_quiet_step (exact cM.re F4)
    refine wpQuiet_nil ?_
    rfl
  intro w1 g_ hb hg hd_
  obtain ⟨lg, rg⟩ := hg 5 (by simp)
  replace rg : w1.heap[g_ 5]? = some (.cells (irow .u32 (zr 8)) 99 (0, 0)) := rg
  simp only [List.drop, puts, ptrs, List.map, List.foldl, Act.put, List.setIfInBounds_toArray, List.set_cons_succ, List.set_cons_zero]
  clear hg hd_
  generalize g_ 5 = gE at *
  have lr0 := lt_of_row r0
  have lr1 := lt_of_row r1
  have lr2 := lt_of_row r2
  have hs := hw.size
  replace r0 := keep hb r0
  replace r1 := keep hb r1
  replace r2 := keep hb r2
  have hz_ := f4.sz
  replace f4 := f4.below hb
  replace hw := Below.after hw hb
  clear hb

  refine wpList_store_row rfl 99 _ _ rfl (gE) (irow .u32 e) rfl rfl 99 _ rg (info23 _ he) (fit8 _ _ (zr_len 8) he) (irow_one _ _) ?_
  simp only [Act.put]
  replace r0 := (setRow_other w1 (gE) (w.heap.size) (irow .u32 e) (by omega)).trans r0
  replace r1 := (setRow_other w1 (gE) (w.heap.size + 1) (irow .u32 e) (by omega)).trans r1
  replace r2 := (setRow_other w1 (gE) (w.heap.size + 1 + 1) (irow .u32 e) (by omega)).trans r2
  replace rg := setRow_heap w1 (gE) _ (irow .u32 e) _ _ rg
  replace hw := below_setRow hw (show w.heap.size ≤ gE by omega) (irow .u32 e)
  replace f4 := f4.belowN (n := 1 + 1) (by omega) (below_setRow (Below.refl _ _) (show 1 + 1 ≤ gE by omega) (irow .u32 e))
  generalize w1.setRow (gE) (irow .u32 e) = w2 at *

  have y0 : w.heap.size + 1 + 1 < gE := by omega
  clear hs hz_ lr0 lr1 lr2 lg r1 f4 cS cM
  rw [← sums_zero h e hl] at r0
  go_wp2
  go_loopw [11] (fun i wr => ∃ k : Nat, k ≤ 8 ∧ i = .int .i64 k ∧ wr.heap[w.heap.size]? = some (.cells (irow .u32 (sums h e k)) 99 (0, 0)) ∧ wr.heap[w.heap.size + 1 + 1]? = some (.cells (irow .u32 (zr 8)) 99 (0, 0)) ∧ wr.heap[gE]? = some (.cells (irow .u32 e) 99 (0, 0)) ∧ Below w.heap.size w wr) (fun i _ => 8 - (intOf i).toNat)
  case atStart => exact ⟨0, by omega, rfl, r0, r2, rg, hw⟩
  case round =>
    clear r0 r2 rg hw
    obtain ⟨k, hk, rfl, r0, r2, rg, hw⟩ := hrel
    by_cases hlt : k < 8
    · have hd : decide ((k : Int) < 8) = true := by simp; omega
      have dh := irow_cell r0 (j := k) (by rw [sums_len]; exact hlt)
      have de := irow_cell rg (j := k) (by rw [he]; exact hlt)
      rw [sums_get _ _ _ hlt] at dh
      have hset := sums_set h e k hlt
      have hpl := sums_len h e k
      generalize h.getD k 0 = x at *
      generalize e.getD k 0 = y at *
      replace hset := hide hset
      go_wp2
      have k0 : ∀ p : Regrown, (grow (redrawn wr p.d) p.os).cell? ⟨w.heap.size, k, none⟩ = some (.int .u32 x) := fun p => cell_regrown (dh) p.d p.os
      have k1 : ∀ p : Regrown, (grow (redrawn wr p.d) p.os).cell? ⟨gE, k, none⟩ = some (.int .u32 y) := fun p => cell_regrown (de) p.d p.os
      refine wp_region_tail (C := fun w' => ∃ p : Regrown, w' = grow (redrawn wr p.d) p.os) 8 _ rfl rfl rfl (by kernel_rfl) (by kernel_rfl) (by kernel_rfl) (by kernel_rfl) ⟨⟨wr.drawn + 1, #[]⟩, by rw [grow_empty]; rfl⟩ ?_
      dsimp only [List.set, idle]
      go_big_quiet_step (fail)
      go_big_quiet_step (fail)
      go_big_quiet_step (fail)
      go_big_quiet_step (fail)
      go_big_quiet_step (fail)
      go_big_quiet_step (fail)
      go_big_quiet_step (fail)
      go_big_quiet_step (fail)
      refine wpQuiet_idle rfl rfl rfl ?_
      rintro _ ⟨p, rfl⟩
      have hb := below_regrown wr p.d p.os
      generalize grow (redrawn wr p.d) p.os = w3 at *
      clear k0 k1
      replace r0 := keep hb r0
      replace r2 := keep hb r2
      replace rg := keep hb rg
      replace hw := Below.after hw hb
      clear hb

      have cz := irow_cell r0 (j := k) (by omega)
      have hf := row_frozen r0 k
      clear dh de
      go_wp2
      go_roundw
      case rel => exact ⟨k + 1, by omega, by go_num, by rw [← hset.out]; exact irow_set r0 k _, heap_other r2 (by omega), heap_other rg (by omega), hw.setCell (show w.heap.size ≤ w.heap.size by omega) _⟩
      case measure => simp [intOf]; omega
    · obtain rfl : k = 8 := by omega
      have hd : decide ((8 : Int) < 8) = false := by decide
      have hq := sums_len h e 8
      rw [← hfin] at r0 hq
      go_wp2_with (first | (refine wpList_load_want rfl 99 _ rfl (w.heap.size) rfl 99 (irow .u32 (blk h b)) (0, 0) _ r0 Tryd.underlying99 rfl (info23 _ hq) ?_) | (refine wpList_store_row rfl 99 _ _ rfl (w.heap.size + 1 + 1) (irow .u32 (blk h b)) rfl rfl 99 _ r2 (info23 _ hq) (fit8 _ _ (zr_len 8) hq) (irow_one _ _) ?_) | fail)
      replace r2 := setRow_heap wr (w.heap.size + 1 + 1) _ (irow .u32 (blk h b)) _ _ r2
      replace hw := below_setRow hw (show w.heap.size ≤ w.heap.size + 1 + 1 by omega) (irow .u32 (blk h b))
      generalize wr.setRow (w.heap.size + 1 + 1) (irow .u32 (blk h b)) = w9 at *
      exact bodyPost_ret (v := .agg (irow .u32 (blk h b))) (results_cell_row Tryd.results64 _ _ (w.heap.size + 1 + 1) _ _ _ _ rfl r2 Tryd.underlying99 rfl (info23 _ hq)) rfl ⟨rfl, hw⟩

end Go.Proofs.YtgfeacnhdlgpoaaDoor

