import Derived.Test.YtamieopjigjfiaaDoorProg
import Derived.WalkKit
import Derived.WalkSpells
import Derived.WalkLawsBesides
import Derived.Lib.QuietBelow
import Derived.BigQuiet
import Derived.Test.YtamieopjigjfiaaDoorS0
import Derived.Test.YtamieopjigjfiaaDoorS1
namespace Go.Proofs.YtamieopjigjfiaaDoor
set_option maxRecDepth 100000
open Go Go.RowKit Go.Sort
attribute [local go_sem] setCell_drewN alloc_drewN

/-- Words added, the first k of eight. -/
def sums (h e : List Int) (k : Nat) : List Int := (List.range 8).map fun j => if j < k then (h.getD j 0 + e.getD j 0) % 4294967296 else h.getD j 0
theorem sums_len (h e : List Int) (k : Nat) : (sums h e k).length = 8 := by simp [sums]
theorem sums_zero (h e : List Int) (hl : h.length = 8) : sums h e 0 = h := by
  apply List.ext_getElem
  · rw [sums_len, hl]
  · intro i h1 h2
    simp [sums, h2]
theorem sums_get (h e : List Int) (k : Nat) (hk : k < 8) : (sums h e k).getD k 0 = h.getD k 0 := by
  simp [sums, List.getD_eq_getElem?_getD, hk]
theorem sums_set (h e : List Int) (k : Nat) (hk : k < 8) : (sums h e k).set k ((h.getD k 0 + e.getD k 0) % 4294967296) = sums h e (k + 1) := by
  apply List.ext_getElem?
  intro j
  rw [List.getElem?_set]
  by_cases c : k = j
  · subst c
    rw [if_pos rfl, if_pos (by rw [sums_len]; exact hk)]
    simp [sums, hk]
  · rw [if_neg c]
    simp only [sums, List.getElem?_map]
    by_cases hj : j < 8
    · simp only [List.getElem?_range hj, Option.map_some]
      by_cases h1 : j < k
      · rw [if_pos h1, if_pos (by omega)]
      · rw [if_neg h1, if_neg (by omega)]
    · rw [List.getElem?_eq_none (by simp; omega)]; rfl
/-- What a block comes to. -/
def blk (h b : List Int) : List Int := sums h (rs h (wds b) 64).list 8
theorem blk_len (h b : List Int) : (blk h b).length = 8 := sums_len _ _ _
theorem sums_bd (h e : List Int) (x : Int) (hx : x ∈ sums h e 8) : 0 ≤ x ∧ x < 4294967296 := by
  simp only [sums, List.mem_map, List.mem_range] at hx
  obtain ⟨j, hj, rfl⟩ := hx
  rw [if_pos hj]
  omega
theorem info23 (l : List Int) (hl : l.length = 8) : (Tryd.prog.info? 71).map (·.size) = some (irow .u32 l).size := by
  rw [irow_size, hl]; kernel_rfl
theorem info24 (l : List Int) (hl : l.length = 64) : (Tryd.prog.info? 68).map (·.size) = some (irow .u8 l).size := by
  rw [irow_size, hl]; kernel_rfl
theorem fit8 (l m : List Int) (hl : l.length = 8) (hm : m.length = 8) : (irow .u32 l).size = (irow .u32 m).size := by
  rw [irow_size, irow_size, hl, hm]
theorem fit64 (l m : List Int) (hl : l.length = 64) (hm : m.length = 64) : (irow .u8 l).size = (irow .u8 m).size := by
  rw [irow_size, irow_size, hl, hm]
theorem list_len (s : St8) : s.list.length = 8 := rfl
set_option maxRecDepth 100000 in
set_option maxHeartbeats 4000000 in
theorem a_block (h b : List Int) (hl : h.length = 8) (hb : b.length = 64) (hz : ∀ z ∈ b, 0 ≤ z ∧ z < 256) : Gives1 73 #[.agg (irow .u32 h), .agg (irow .u8 b)] (.agg (irow .u32 (blk h b))) := by
  intro w hK
  have cS := a_spread b hb hz
  have cM := a_mixed h hl (wds b)
  have ib := info24 b hb
  clear hz
  have r0 := hp3_0 w (.cells (irow .u32 h) 71) (.cells (irow .u8 b) 68) (.cells (irow .u32 (zr 8)) 71)
  have r1 := hp3_1 w (.cells (irow .u32 h) 71) (.cells (irow .u8 b) 68) (.cells (irow .u32 (zr 8)) 71)
  have r2 := hp3_2 w (.cells (irow .u32 h) 71) (.cells (irow .u8 b) 68) (.cells (irow .u32 (zr 8)) 71)
  have hw : Below w.heap.size w (((w.alloc (.cells (irow .u32 h) 71)).alloc (.cells (irow .u8 b) 68)).alloc (.cells (irow .u32 (zr 8)) 71)) := ((((Below.refl _ _).alloc (Nat.le_refl _) _).alloc (by simp) _).alloc (by simp; omega) _)

  have f4 := hK.below hw
  clear hK
  go_enter Tryd.func73, Tryd.ntmps73
  go_wp2_with (first | (refine wpList_box rfl 71 _ rfl _ rfl (b23 _) ?_) | (refine wpList_box rfl 68 _ rfl _ rfl (b24 _) ?_) | (refine wpList_alloc rfl 71 rfl (irow .u32 (zr 8)) z23 ?_) | fail)
  simp only [size_alloc1, Act.put, List.setIfInBounds_toArray, List.set_cons_succ, List.set_cons_zero]
  generalize (((w.alloc (.cells (irow .u32 h) 71)).alloc (.cells (irow .u8 b) 68)).alloc (.cells (irow .u32 (zr 8)) 71)) = w0 at *
  have hfin : blk h b = sums h (rs h (wds b) 64).list 8 := rfl
  have he := list_len (rs h (wds b) 64)
  generalize (rs h (wds b) 64).list = e at *
  refine wp_region_alloc_ex 4 5 [5] (fun _ => .cells (irow .u32 (zr 8)) 71 (0, 0)) (by kernel_rfl) (by decide) (by decide) (by kernel_rfl) (by kernel_rfl) (by kernel_rfl) (by kernel_rfl) (by kernel_rfl) (by kernel_rfl) (by kernel_rfl) (by kernel_rfl) (by decide) (by decide) ?_ ?_
  · intro s l u
    obtain rfl : s = 4 := by omega
    exact ⟨_, _, rfl, rfl, rfl, rfl, fun a w => by kernel_rfl⟩
  apply Exists.intro
  constructor
  · intro v_ hb
    have Hr0 := keepr (keep hb r0)
    have Hr1 := keepr (keep hb r1)
    have Hr2 := keepr (keep hb r2)
    have F4 := f4.below hb
    clear hb; dsimp only [List.take]
    refine wpQuiet_load_row rfl 71 _ rfl (w.heap.size) rfl 71 (irow .u32 h) (0, 0) _ Hr0.out Tryd.underlying71 rfl (info23 _ hl) ?_
    simp only [Act.put, List.setIfInBounds_toArray, List.set_cons_succ, List.set_cons_zero]
    refine wpQuiet_load_row rfl 68 _ rfl (w.heap.size + 1) rfl 68 (irow .u8 b) (0, 0) _ Hr1.out Tryd.underlying68 rfl ib ?_
    simp only [Act.put, List.setIfInBounds_toArray, List.set_cons_succ, List.set_cons_zero]
    go_big_quiet_step (exact cS.re)
    go_big_quiet_step (exact cM.re F4)
    refine wpQuiet_nil ?_
    rfl
  intro w1 g_ hb hg hd_
  obtain ⟨lg, rg⟩ := hg 5 (by simp)
  replace rg : w1.heap[g_ 5]? = some (.cells (irow .u32 (zr 8)) 71 (0, 0)) := rg
  simp only [List.drop, puts, ptrs, List.map, List.foldl, Act.put, List.setIfInBounds_toArray, List.set_cons_succ, List.set_cons_zero]
  clear hg hd_
  generalize g_ 5 = gE at *
  have lr0 := lt_of_row r0
  have lr1 := lt_of_row r1
  have lr2 := lt_of_row r2
  have hs := hw.size
  replace r0 := keep hb r0
  replace r1 := keep hb r1
  replace r2 := keep hb r2
  have hz_ := f4.sz
  replace f4 := f4.below hb
  replace hw := Below.after hw hb
  clear hb

  refine wpList_store_row rfl 71 _ _ rfl (gE) (irow .u32 e) rfl rfl 71 _ rg (info23 _ he) (fit8 _ _ (zr_len 8) he) (irow_one _ _) ?_
  simp only [Act.put]
  replace r0 := (setRow_other w1 (gE) (w.heap.size) (irow .u32 e) (by omega)).trans r0
  replace r1 := (setRow_other w1 (gE) (w.heap.size + 1) (irow .u32 e) (by omega)).trans r1
  replace r2 := (setRow_other w1 (gE) (w.heap.size + 1 + 1) (irow .u32 e) (by omega)).trans r2
  replace rg := setRow_heap w1 (gE) _ (irow .u32 e) _ _ rg
  replace hw := below_setRow hw (show w.heap.size ≤ gE by omega) (irow .u32 e)
  replace f4 := f4.belowN (n := 1 + 1) (by omega) (below_setRow (Below.refl _ _) (show 1 + 1 ≤ gE by omega) (irow .u32 e))
  generalize w1.setRow (gE) (irow .u32 e) = w2 at *

  have y0 : w.heap.size + 1 + 1 < gE := by omega
  clear hs hz_ lr0 lr1 lr2 lg r1 f4 cS cM
  rw [← sums_zero h e hl] at r0
  go_wp2
  go_loopw [11] (fun i wr => ∃ k : Nat, k ≤ 8 ∧ i = .int .i64 k ∧ wr.heap[w.heap.size]? = some (.cells (irow .u32 (sums h e k)) 71 (0, 0)) ∧ wr.heap[w.heap.size + 1 + 1]? = some (.cells (irow .u32 (zr 8)) 71 (0, 0)) ∧ wr.heap[gE]? = some (.cells (irow .u32 e) 71 (0, 0)) ∧ Below w.heap.size w wr) (fun i _ => 8 - (intOf i).toNat)
  case atStart => exact ⟨0, by omega, rfl, r0, r2, rg, hw⟩
  case round =>
    clear r0 r2 rg hw
    obtain ⟨k, hk, rfl, r0, r2, rg, hw⟩ := hrel
    by_cases hlt : k < 8
    · have hd : decide ((k : Int) < 8) = true := by simp; omega
      have dh := irow_cell r0 (j := k) (by rw [sums_len]; exact hlt)
      have de := irow_cell rg (j := k) (by rw [he]; exact hlt)
      rw [sums_get _ _ _ hlt] at dh
      have hset := sums_set h e k hlt
      have hpl := sums_len h e k
      generalize h.getD k 0 = x at *
      generalize e.getD k 0 = y at *
      replace hset := hide hset
      go_wp2
      have k0 : ∀ p : Regrown, (grow (redrawn wr p.d) p.os).cell? ⟨w.heap.size, k, none⟩ = some (.int .u32 x) := fun p => cell_regrown (dh) p.d p.os
      have k1 : ∀ p : Regrown, (grow (redrawn wr p.d) p.os).cell? ⟨gE, k, none⟩ = some (.int .u32 y) := fun p => cell_regrown (de) p.d p.os
      refine wp_region_tail (C := fun w' => ∃ p : Regrown, w' = grow (redrawn wr p.d) p.os) 8 _ rfl rfl rfl (by kernel_rfl) (by kernel_rfl) (by kernel_rfl) (by kernel_rfl) ⟨⟨wr.drawn + 1, #[]⟩, by rw [grow_empty]; rfl⟩ ?_
      dsimp only [List.set, idle]
      go_big_quiet_step (fail)
      go_big_quiet_step (fail)
      go_big_quiet_step (fail)
      go_big_quiet_step (fail)
      go_big_quiet_step (fail)
      go_big_quiet_step (fail)
      go_big_quiet_step (fail)
      go_big_quiet_step (fail)
      refine wpQuiet_idle rfl rfl rfl ?_
      rintro _ ⟨p, rfl⟩
      have hb := below_regrown wr p.d p.os
      generalize grow (redrawn wr p.d) p.os = w3 at *
      clear k0 k1
      replace r0 := keep hb r0
      replace r2 := keep hb r2
      replace rg := keep hb rg
      replace hw := Below.after hw hb
      clear hb

      have cz := irow_cell r0 (j := k) (by omega)
      have hf := row_frozen r0 k
      clear dh de
      go_wp2
      go_roundw
      case rel => exact ⟨k + 1, by omega, by go_num, by rw [← hset.out]; exact irow_set r0 k _, heap_other r2 (by omega), heap_other rg (by omega), hw.setCell (show w.heap.size ≤ w.heap.size by omega) _⟩
      case measure => simp [intOf]; omega
    · obtain rfl : k = 8 := by omega
      have hd : decide ((8 : Int) < 8) = false := by decide
      have hq := sums_len h e 8
      rw [← hfin] at r0 hq
      go_wp2_with (first | (refine wpList_load_want rfl 71 _ rfl (w.heap.size) rfl 71 (irow .u32 (blk h b)) (0, 0) _ r0 Tryd.underlying71 rfl (info23 _ hq) ?_) | (refine wpList_store_row rfl 71 _ _ rfl (w.heap.size + 1 + 1) (irow .u32 (blk h b)) rfl rfl 71 _ r2 (info23 _ hq) (fit8 _ _ (zr_len 8) hq) (irow_one _ _) ?_) | fail)
      replace r2 := setRow_heap wr (w.heap.size + 1 + 1) _ (irow .u32 (blk h b)) _ _ r2
      replace hw := below_setRow hw (show w.heap.size ≤ w.heap.size + 1 + 1 by omega) (irow .u32 (blk h b))
      generalize wr.setRow (w.heap.size + 1 + 1) (irow .u32 (blk h b)) = w9 at *
      exact bodyPost_ret (v := .agg (irow .u32 (blk h b))) (results_cell_row Tryd.results73 _ _ (w.heap.size + 1 + 1) _ _ _ _ rfl r2 Tryd.underlying71 rfl (info23 _ hq)) rfl ⟨rfl, hw⟩

end Go.Proofs.YtamieopjigjfiaaDoor


namespace Go.Proofs.YtamieopjigjfiaaDoor
set_option maxRecDepth 100000
open Go Go.RowKit Go.Sort
attribute [local go_sem] setCell_drewN alloc_drewN

/-- The first t of thirty-two, then zeros. -/
def pr32 (W : Nat → Int) (t : Nat) : List Int := (List.range 32).map fun j => if j < t then W j else 0
theorem pr32_len (W : Nat → Int) (t : Nat) : (pr32 W t).length = 32 := by simp [pr32]
theorem pr32_set (W : Nat → Int) (t : Nat) (h : t < 32) : (pr32 W t).set t (W t) = pr32 W (t + 1) := by
  apply List.ext_getElem?
  intro j
  rw [List.getElem?_set]
  by_cases e : t = j
  · subst e
    rw [if_pos rfl, if_pos (by rw [pr32_len]; exact h)]
    simp [pr32, h]
  · rw [if_neg e]
    simp only [pr32, List.getElem?_map]
    by_cases hj : j < 32
    · simp only [List.getElem?_range hj, Option.map_some]
      by_cases h1 : j < t
      · rw [if_pos h1, if_pos (by omega)]
      · rw [if_neg h1, if_neg (by omega)]
    · rw [List.getElem?_eq_none (by simp; omega)]; rfl
theorem pr32_zero (W : Nat → Int) : pr32 W 0 = zr 32 := rfl
/-- The bytes of words. -/
def bte (h : List Int) (j : Nat) : Int := h.getD (j / 4) 0 / 2 ^ (24 - 8 * (j % 4)) % 256
def byts (h : List Int) : List Int := pr32 (bte h) 32
theorem byts_len (h : List Int) : (byts h).length = 32 := pr32_len _ _
theorem byts_bd (h : List Int) : ∀ z ∈ byts h, 0 ≤ z ∧ z < 256 := by
  intro z hz
  simp only [byts, pr32, List.mem_map, List.mem_range] at hz
  obtain ⟨j, hj, rfl⟩ := hz
  rw [if_pos hj]
  unfold bte
  omega
theorem infok8 (l : List Int) (hl : l.length = 32) : (Tryd.prog.info? 23).map (·.size) = some (irow .u8 l).size := by
  rw [irow_size, hl]; kernel_rfl
theorem fit32 (l m : List Int) (hl : l.length = 32) (hm : m.length = 32) : (irow .u8 l).size = (irow .u8 m).size := by
  rw [irow_size, irow_size, hl, hm]
set_option maxRecDepth 100000 in
set_option maxHeartbeats 4000000 in
theorem r_bytes (h : List Int) (hl : h.length = 8) (hz : ∀ x ∈ h, 0 ≤ x ∧ x < 4294967296) : Gives 84 #[.agg (irow .u32 h)] (.agg (irow .u8 (byts h))) := by
  intro w
  have r0 := hp3_0 w (.cells (irow .u32 h) 71) (.cells (irow .u8 (zr 32)) 23) (.cells (irow .u8 (zr 32)) 23)
  have r1 := hp3_1 w (.cells (irow .u32 h) 71) (.cells (irow .u8 (zr 32)) 23) (.cells (irow .u8 (zr 32)) 23)
  have r2 := hp3_2 w (.cells (irow .u32 h) 71) (.cells (irow .u8 (zr 32)) 23) (.cells (irow .u8 (zr 32)) 23)
  have hw : Below w.heap.size w (((w.alloc (.cells (irow .u32 h) 71)).alloc (.cells (irow .u8 (zr 32)) 23)).alloc (.cells (irow .u8 (zr 32)) 23)) := ((((Below.refl _ _).alloc (Nat.le_refl _) _).alloc (by simp) _).alloc (by simp; omega) _)

  go_enter Tryd.func84, Tryd.ntmps84
  go_wp2_with (first | (refine wpList_box rfl 71 _ rfl _ rfl (b23 _) ?_) | (refine wpList_alloc rfl 23 rfl (irow .u8 (zr 32)) zkey ?_) | fail)
  try simp only [size_alloc1, Act.put, List.setIfInBounds_toArray, List.set_cons_succ, List.set_cons_zero]
  generalize (((w.alloc (.cells (irow .u32 h) 71)).alloc (.cells (irow .u8 (zr 32)) 23)).alloc (.cells (irow .u8 (zr 32)) 23)) = w0 at *
  rw [← pr32_zero (bte h)] at r2
  go_loopw [4] (fun i wr => ∃ k : Nat, k ≤ 8 ∧ i = .int .i64 k ∧ wr.heap[w.heap.size]? = some (.cells (irow .u32 h) 71 (0, 0)) ∧ wr.heap[w.heap.size + 1]? = some (.cells (irow .u8 (zr 32)) 23 (0, 0)) ∧ wr.heap[w.heap.size + 1 + 1]? = some (.cells (irow .u8 (pr32 (bte h) (4 * k))) 23 (0, 0)) ∧ Below w.heap.size w wr) (fun i _ => 8 - (intOf i).toNat)
  case atStart => exact ⟨0, by omega, rfl, r0, r1, r2, hw⟩
  case round =>
    clear r0 r1 r2 hw
    obtain ⟨k, hk, rfl, r0, r1, r2, hw⟩ := hrel
    by_cases hlt : k < 8
    · have hd : decide ((k : Int) < 8) = true := by simp; omega
      go_wp2
      go_loopw [5] (fun i wr => ∃ j : Nat, j ≤ 4 ∧ i = .int .i64 j ∧ wr.heap[w.heap.size]? = some (.cells (irow .u32 h) 71 (0, 0)) ∧ wr.heap[w.heap.size + 1]? = some (.cells (irow .u8 (zr 32)) 23 (0, 0)) ∧ wr.heap[w.heap.size + 1 + 1]? = some (.cells (irow .u8 (pr32 (bte h) (4 * k + j))) 23 (0, 0)) ∧ Below w.heap.size w wr) (fun i _ => 4 - (intOf i).toNat)
      case atStart => exact ⟨0, by omega, rfl, r0, r1, r2, hw⟩
      case round =>
        clear r0 r1 r2 hw
        obtain ⟨j, hj, rfl, r0, r1, r2, hw⟩ := hrel
        by_cases hlj : j < 4
        · have hdj : decide ((j : Int) < 4) = true := by simp; omega
          have dh := irow_cell r0 (j := k) (by omega)
          have hset := pr32_set (bte h) (4 * k + j) (by omega)
          have hpl := pr32_len (bte h) (4 * k + j)
          have e : bte h (4 * k + j) = h.getD k 0 / 2 ^ (24 - 8 * j) % 256 := by
            unfold bte
            rw [show (4 * k + j) / 4 = k by omega, show (4 * k + j) % 4 = j by omega]
          have hb : 0 ≤ h.getD k 0 ∧ h.getD k 0 < 4294967296 := by
            apply hz
            rw [List.getD_eq_getElem?_getD, List.getElem?_eq_getElem (by omega)]
            exact List.getElem_mem _
          rw [e] at hset
          generalize h.getD k 0 = x at *
          have cz := irow_cell r2 (j := 4 * k + j) (by omega)
          have hf := row_frozen r2 (4 * k + j)
          clear e
          replace hset := hide hset
          go_wp2
          refine ⟨⟨j + 1, by omega, by go_num, heap_other r0 (by omega), heap_other r1 (by omega), by rw [show 4 * k + (j + 1) = 4 * k + j + 1 from rfl, ← hset.out]; exact irow_set r2 _ _, hw.setCell (show w.heap.size ≤ w.heap.size + 1 + 1 by omega) _⟩, ?_⟩
          simp [intOf]; omega
        · obtain rfl : j = 4 := by omega
          have hdj : decide ((4 : Int) < 4) = false := by decide
          go_wp2
          refine ⟨⟨k + 1, by omega, by go_num, r0, r1, r2, hw⟩, ?_⟩
          simp [intOf]; omega
    · obtain rfl : k = 8 := by omega
      have hd : decide ((8 : Int) < 8) = false := by decide
      have hq := byts_len h
      go_wp2_with (first | (refine wpList_load_want rfl 23 _ rfl (w.heap.size + 1 + 1) rfl 23 (irow .u8 (byts h)) (0, 0) _ r2 Tryd.underlying23 rfl (infok8 _ hq) ?_) | (refine wpList_store_row rfl 23 _ _ rfl (w.heap.size + 1) (irow .u8 (byts h)) rfl rfl 23 _ r1 (infok8 _ hq) (fit32 _ _ (zr_len 32) hq) (irow_one _ _) ?_) | fail)
      replace r1 := setRow_heap wr (w.heap.size + 1) _ (irow .u8 (byts h)) _ _ r1
      replace hw := below_setRow hw (show w.heap.size ≤ w.heap.size + 1 by omega) (irow .u8 (byts h))
      generalize wr.setRow (w.heap.size + 1) (irow .u8 (byts h)) = w9 at *
      exact bodyPost_ret (v := .agg (irow .u8 (byts h))) (results_cell_row Tryd.results84 _ _ (w.heap.size + 1) _ _ _ _ rfl r1 Tryd.underlying23 rfl (infok8 _ hq)) rfl ⟨rfl, hw⟩
theorem slice_key (g k : Nat) (hk : k < 8) (W : World) : (Instr.sliceAt 23 (.pointer (some ⟨g, 0, none⟩)) (some (.int .i64 (4 * (k : Int)))) none none).run Tryd.prog W = .ok (.slice (some ⟨g, 4 * k, none⟩) (32 - 4 * k) (32 - 4 * k)) W := by
  have ht : Tryd.prog.underlying 23 = some (.array (Tryd.prog.arrayLen 23) (Tryd.prog.elem 23)) := by kernel_rfl
  have hn : Tryd.prog.arrayLen 23 = 32 := by kernel_rfl
  have hs : (sizeOf (Tryd.prog.elem 23)).run Tryd.prog W = .ok 1 W := by kernel_rfl
  rw [run_sliceAt_array_l W _ _ ht .i64 _ (by omega) (by rw [hn]; omega), hs]
  show Result.ok (slicedAt _ _ _ _ 1) W = _
  have e1 : (4 * (k : Int)).toNat = 4 * k := by omega
  rw [e1, hn, slicedAt, if_neg (by omega), addr_add]
  simp
theorem pr32_four (h : List Int) (k : Nat) (hk : k < 8) : pr32 (bte h) (4 * (k + 1)) = (pr32 (bte h) (4 * k)).take (4 * k) ++ [bte h (4 * k), bte h (4 * k + 1), bte h (4 * k + 2), bte h (4 * k + 3)] ++ (pr32 (bte h) (4 * k)).drop (4 * k + 4) := by
  rw [show 4 * (k + 1) = 4 * k + 3 + 1 by omega, ← pr32_set _ _ (by omega), show 4 * k + 3 = 4 * k + 2 + 1 by omega, ← pr32_set _ _ (by omega), show 4 * k + 2 = 4 * k + 1 + 1 by omega, ← pr32_set _ _ (by omega), ← pr32_set _ _ (by omega)]
  have hl := pr32_len (bte h) (4 * k)
  generalize pr32 (bte h) (4 * k) = l at *
  apply List.ext_getElem?
  intro j
  simp only [List.getElem?_set, List.length_set, hl]
  by_cases h1 : j < 4 * k
  · rw [if_neg (by omega), if_neg (by omega), if_neg (by omega), if_neg (by omega), List.append_assoc, List.getElem?_append_left (by simp; omega), List.getElem?_take_of_lt h1]
  · by_cases h2 : j < 4 * k + 4
    · rw [List.getElem?_append_left (by simp; omega), List.getElem?_append_right (by simp; omega)]
      have e : (l.take (4 * k)).length = 4 * k := by simp; omega
      rw [e]
      rcases (by omega : j = 4 * k ∨ j = 4 * k + 1 ∨ j = 4 * k + 2 ∨ j = 4 * k + 3) with rfl | rfl | rfl | rfl
      · rw [if_neg (by omega), if_neg (by omega), if_neg (by omega), if_pos rfl, if_pos (by omega)]; simp
      · rw [if_neg (by omega), if_neg (by omega), if_pos rfl, if_pos (by omega)]; simp
      · rw [if_neg (by omega), if_pos (by omega), if_pos (by omega)]; simp
      · rw [if_pos (by omega), if_pos (by omega)]; simp
    · rw [if_neg (by omega), if_neg (by omega), if_neg (by omega), if_neg (by omega), List.getElem?_append_right (by simp; omega), List.getElem?_drop]
      congr 1
      simp
      omega
theorem copy_irow {W : World} {g o dLen dCap b off m cap : Nat} {l c : List Int} {t : TypeId} (hg : W.heap[g]? = some (.cells (irow .u8 l) t (0, 0))) (hc : ∀ j, j < c.length → W.cell? ⟨b, off + j, none⟩ = some (.int .u8 (c.getD j 0))) (hn : c.length = Nat.min m dLen) (hfit : o + c.length ≤ l.length) :
    (Builtin.copy_ #[29, 29] 3 #[.slice (some ⟨g, o, none⟩) dLen dCap, .slice (some ⟨b, off, none⟩) m cap]).run Tryd.prog W = .ok (goInt c.length) (W.setRow g (irow .u8 (l.take o ++ c ++ l.drop (o + c.length)))) := by
  have hsrc : ∀ j u, (c.map (Value.int .u8))[j]? = some u → W.cell? ((⟨b, off, none⟩ : Addr).add j) = some u := by
    intro j u hu
    have hj : j < c.length := by have := (List.getElem?_eq_some_iff.1 hu).1; simpa using this
    have : u = .int .u8 (c.getD j 0) := by
      simp only [List.getElem?_map, List.getElem?_eq_getElem hj, Option.map_some, Option.some.injEq] at hu
      rw [← hu, List.getD_eq_getElem?_getD, List.getElem?_eq_getElem hj]; rfl
    rw [this, addr_add]
    exact hc j hj
  have hrun := run_copy_row (P := Tryd.prog) W 29 29 3 5 g o dLen dCap ⟨b, off, none⟩ m cap (irow .u8 l) t (c.map (Value.int .u8)) Tryd.underlying29 (by kernel_rfl) hg (by rw [List.length_map]; exact hn) hsrc (by rw [irow_size, List.length_map]; exact hfit) (ints_one .u8 c)
  rw [List.length_map] at hrun
  rw [hrun]
  congr 2
  apply Array.ext'
  simp [irow, List.map_take, List.map_drop]
theorem index23 (h : List Int) (hl : h.length = 8) (k : Nat) (hk : k < 8) (W : World) : (Instr.index 71 (.agg (irow .u32 h)) (.int .i64 (k : Int))).run Tryd.prog W = .ok (.int .u32 (h.getD k 0)) W := by
  obtain ⟨i0, hi⟩ : ∃ i, Tryd.prog.info? 70 = some i := ⟨_, rfl⟩
  have hs : (sizeOf 70).run Tryd.prog W = .ok 1 W := by kernel_rfl
  have hp := run_part_int (P := Tryd.prog) W Tryd.underlying70 hi h k (by omega)
  have e : h.getD k 0 = h[k]'(by omega) := by simp [List.getD_eq_getElem?_getD, List.getElem?_eq_getElem (show k < h.length by omega)]
  rw [e]
  unfold Instr.index
  have h2 : (0 : Int) ≤ (k : Int) ∧ (k : Int) < ((8 : Nat) : Int) := by omega
  simp only [asIntOf, Sem.run_bind, Sem.run_pure, Result.andThen_ok, run_underlying Tryd.underlying71 W, if_pos h2, hs, Int.toNat_natCast, Nat.mul_one]
  exact hp
set_option maxRecDepth 100000 in
set_option maxHeartbeats 4000000 in
theorem a_told (h : List Int) (hl : h.length = 8) (hz : ∀ x ∈ h, 0 ≤ x ∧ x < 4294967296) : Gives 91 #[.agg (irow .u32 h)] (.agg (irow .u8 (byts h))) := by
  intro w
  have r0 := hp3_0 w (.cells (irow .u32 h) 71) (.cells (irow .u8 (zr 32)) 23) (.cells (irow .u8 (zr 32)) 23)
  have r1 := hp3_1 w (.cells (irow .u32 h) 71) (.cells (irow .u8 (zr 32)) 23) (.cells (irow .u8 (zr 32)) 23)
  have r2 := hp3_2 w (.cells (irow .u32 h) 71) (.cells (irow .u8 (zr 32)) 23) (.cells (irow .u8 (zr 32)) 23)
  have hw : Below w.heap.size w (((w.alloc (.cells (irow .u32 h) 71)).alloc (.cells (irow .u8 (zr 32)) 23)).alloc (.cells (irow .u8 (zr 32)) 23)) := ((((Below.refl _ _).alloc (Nat.le_refl _) _).alloc (by simp) _).alloc (by simp; omega) _)

  go_enter Tryd.func91, Tryd.ntmps91
  go_wp2_with (first | (refine wpList_box rfl 71 _ rfl _ rfl (b23 _) ?_) | (refine wpList_alloc rfl 23 rfl (irow .u8 (zr 32)) zkey ?_) | (refine wpList_load_want rfl 71 _ rfl (w.heap.size) rfl 71 (irow .u32 h) (0, 0) _ r0 Tryd.underlying71 rfl (info23 _ hl) ?_) | fail)
  try simp only [size_alloc1, Act.put, List.setIfInBounds_toArray, List.set_cons_succ, List.set_cons_zero]
  generalize (((w.alloc (.cells (irow .u32 h) 71)).alloc (.cells (irow .u8 (zr 32)) 23)).alloc (.cells (irow .u8 (zr 32)) 23)) = w0 at *
  rw [← pr32_zero (bte h)] at r2
  go_loopw [7] (fun i wr => ∃ k : Nat, k ≤ 8 ∧ i = .int .i64 k ∧ wr.heap[w.heap.size]? = some (.cells (irow .u32 h) 71 (0, 0)) ∧ wr.heap[w.heap.size + 1]? = some (.cells (irow .u8 (zr 32)) 23 (0, 0)) ∧ wr.heap[w.heap.size + 1 + 1]? = some (.cells (irow .u8 (pr32 (bte h) (4 * k))) 23 (0, 0)) ∧ Below w.heap.size w wr) (fun i _ => 8 - (intOf i).toNat)
  case atStart => exact ⟨0, by omega, rfl, r0, r1, r2, hw⟩
  case round =>
    clear r0 r1 r2 hw
    obtain ⟨k, hk, rfl, r0, r1, r2, hw⟩ := hrel
    by_cases hlt : k < 8
    · have hd : decide ((k : Int) < 8) = true := by simp; omega
      have hb : 0 ≤ h.getD k 0 ∧ h.getD k 0 < 4294967296 := by
        apply hz
        rw [List.getD_eq_getElem?_getD, List.getElem?_eq_getElem (by omega)]
        exact List.getElem_mem _
      have hsl := slice_key (w.heap.size + 1 + 1) k hlt
      have hix := index23 h hl k hlt
      have e0 : bte h (4 * k) = h.getD k 0 / 16777216 := by unfold bte; rw [show 4 * k / 4 = k by omega, show 4 * k % 4 = 0 by omega]; show h.getD k 0 / 16777216 % 256 = _; omega
      have e1 : bte h (4 * k + 1) = h.getD k 0 / 65536 % 256 := by unfold bte; rw [show (4 * k + 1) / 4 = k by omega, show (4 * k + 1) % 4 = 1 by omega]; rfl
      have e2 : bte h (4 * k + 2) = h.getD k 0 / 256 % 256 := by unfold bte; rw [show (4 * k + 2) / 4 = k by omega, show (4 * k + 2) % 4 = 2 by omega]; rfl
      have e3 : bte h (4 * k + 3) = h.getD k 0 % 256 := by unfold bte; rw [show (4 * k + 3) / 4 = k by omega, show (4 * k + 3) % 4 = 3 by omega]; simp
      have h4 := pr32_four h k hlt
      rw [e0, e1, e2, e3] at h4
      clear e0 e1 e2 e3
      have hpl := pr32_len (bte h) (4 * k)
      generalize h.getD k 0 = x at *
      generalize hnx : pr32 (bte h) (4 * (k + 1)) = nxt at *
      replace hnx := hide hnx
      have hc : (Builtin.copy_ #[29, 29] 3 #[.slice (some ⟨w.heap.size + 1 + 1, 4 * k, none⟩) (32 - 4 * k) (32 - 4 * k), .slice (some ⟨wr.heap.size, 0, none⟩) 4 4]).run Tryd.prog (wr.alloc (.cells #[.int .u8 (x / 16777216), .int .u8 (x / 65536 % 256), .int .u8 (x / 256 % 256), .int .u8 (x % 256)] 5)) = .ok (goInt 4) ((wr.alloc (.cells #[.int .u8 (x / 16777216), .int .u8 (x / 65536 % 256), .int .u8 (x / 256 % 256), .int .u8 (x % 256)] 5)).setRow (w.heap.size + 1 + 1) (irow .u8 nxt)) := by
        have hn := hp1_0 wr (.cells (irow .u8 [x / 16777216, x / 65536 % 256, x / 256 % 256, x % 256]) 5)
        have hB : Below wr.heap.size wr (wr.alloc (.cells (irow .u8 [x / 16777216, x / 65536 % 256, x / 256 % 256, x % 256]) 5)) := (Below.refl _ _).alloc (Nat.le_refl _) _
        have := copy_irow (dLen := 32 - 4 * k) (dCap := 32 - 4 * k) (o := 4 * k) (m := 4) (cap := 4) (off := 0) (c := [x / 16777216, x / 65536 % 256, x / 256 % 256, x % 256]) (keep hB r2) (fun j hj => by rw [Nat.zero_add]; exact irow_cell hn hj) (show 4 = Nat.min 4 (32 - 4 * k) from (Nat.min_eq_left (by omega)).symm) (show 4 * k + 4 ≤ _ by omega)
        rw [h4]
        exact this
      replace h4 := hide h4
      have hB : Below wr.heap.size wr (wr.alloc (.cells #[.int .u8 (x / 16777216), .int .u8 (x / 65536 % 256), .int .u8 (x / 256 % 256), .int .u8 (x % 256)] 5)) := (Below.refl _ _).alloc (Nat.le_refl _) _
      go_wp2
      replace r0 := keep hB r0
      replace r1 := keep hB r1
      replace r2 := keep hB r2
      replace hw := Below.after hw hB
      clear hc hB
      generalize wr.alloc (.cells #[.int .u8 (x / 16777216), .int .u8 (x / 65536 % 256), .int .u8 (x / 256 % 256), .int .u8 (x % 256)] 5) = w5 at *
      refine ⟨⟨k + 1, by omega, by go_num, (setRow_other w5 (w.heap.size + 1 + 1) (w.heap.size) _ (by omega)).trans r0, (setRow_other w5 (w.heap.size + 1 + 1) (w.heap.size + 1) _ (by omega)).trans r1, by rw [hnx.out]; exact setRow_heap w5 (w.heap.size + 1 + 1) _ _ _ _ r2, below_setRow hw (show w.heap.size ≤ w.heap.size + 1 + 1 by omega) _⟩, ?_⟩
      simp [intOf]; omega
    · obtain rfl : k = 8 := by omega
      have hd : decide ((8 : Int) < 8) = false := by decide
      have hq := byts_len h
      go_wp2_with (first | (refine wpList_load_want rfl 23 _ rfl (w.heap.size + 1 + 1) rfl 23 (irow .u8 (byts h)) (0, 0) _ r2 Tryd.underlying23 rfl (infok8 _ hq) ?_) | (refine wpList_store_row rfl 23 _ _ rfl (w.heap.size + 1) (irow .u8 (byts h)) rfl rfl 23 _ r1 (infok8 _ hq) (fit32 _ _ (zr_len 32) hq) (irow_one _ _) ?_) | fail)
      replace r1 := setRow_heap wr (w.heap.size + 1) _ (irow .u8 (byts h)) _ _ r1
      replace hw := below_setRow hw (show w.heap.size ≤ w.heap.size + 1 by omega) (irow .u8 (byts h))
      generalize wr.setRow (w.heap.size + 1) (irow .u8 (byts h)) = w9 at *
      exact bodyPost_ret (v := .agg (irow .u8 (byts h))) (results_cell_row Tryd.results91 _ _ (w.heap.size + 1) _ _ _ _ rfl r1 Tryd.underlying23 rfl (infok8 _ hq)) rfl ⟨rfl, hw⟩

end Go.Proofs.YtamieopjigjfiaaDoor


namespace Go.Proofs.YtamieopjigjfiaaDoor
set_option maxRecDepth 100000
open Go Go.RowKit Go.Sort
attribute [local go_sem] setCell_drewN alloc_drewN

/-- How long the padding is; what it is, its last k bytes said. -/
def plen (n : Nat) : Nat := 9 + (119 - n % 64) % 64
def pbit (n i : Nat) : Int := ((8 * n % 18446744073709551616 / 2 ^ (8 * i) % 256 : Nat) : Int)
def padP (n k : Nat) : List Int := (List.range (plen n)).map fun j => if j = 0 then 128 else if plen n - k ≤ j then pbit n (plen n - 1 - j) else 0
def padL (n : Nat) : List Int := padP n 8
theorem plen_bd (n : Nat) : 9 ≤ plen n ∧ plen n ≤ 72 := by unfold plen; omega
theorem padP_len (n k : Nat) : (padP n k).length = plen n := by simp [padP]
theorem pbit_bd (n i : Nat) : 0 ≤ pbit n i ∧ pbit n i < 256 := by unfold pbit; omega
theorem padP_zero (n : Nat) : padP n 0 = (zr (plen n)).set 0 128 := by
  have hb := plen_bd n
  apply List.ext_getElem?
  intro j
  simp only [padP, zr, List.getElem?_set, List.getElem?_map, List.length_replicate, List.getElem?_replicate]
  by_cases hj : j < plen n
  · rw [List.getElem?_range hj]
    by_cases h0 : j = 0
    · subst h0; simp; omega
    · rw [if_neg (Ne.symm h0)]; simp [h0, hj]; omega
  · rw [List.getElem?_eq_none (by simp; omega)]
    simp [hj]; omega
theorem padP_set (n k : Nat) (hk : k < 8) : (padP n k).set (plen n - 1 - k) (pbit n k) = padP n (k + 1) := by
  have hb := plen_bd n
  apply List.ext_getElem?
  intro j
  rw [List.getElem?_set]
  by_cases e : plen n - 1 - k = j
  · rw [if_pos e, if_pos (by rw [padP_len]; omega)]
    subst e
    simp only [padP, List.getElem?_map, List.getElem?_range (show plen n - 1 - k < plen n by omega), Option.map_some]
    rw [if_neg (by omega), if_pos (by omega), show plen n - 1 - (plen n - 1 - k) = k by omega]
  · rw [if_neg e]
    simp only [padP, List.getElem?_map]
    by_cases hj : j < plen n
    · simp only [List.getElem?_range hj, Option.map_some]
      by_cases h0 : j = 0
      · rw [if_pos h0, if_pos h0]
      · rw [if_neg h0, if_neg h0]
        by_cases h1 : plen n - k ≤ j
        · rw [if_pos h1, if_pos (by omega)]
        · rw [if_neg h1, if_neg (by omega)]
    · rw [List.getElem?_eq_none (by simp; omega)]; rfl
theorem padL_bd (n : Nat) : ∀ z ∈ padL n, 0 ≤ z ∧ z < 256 := by
  intro z hz
  simp only [padL, padP, List.mem_map] at hz
  obtain ⟨j, _, rfl⟩ := hz
  split
  · omega
  · split
    · exact pbit_bd _ _
    · omega
theorem made_irow (n : Nat) : madeCells #[.int .u8 0] n = irow .u8 (zr n) := by
  apply Array.ext'
  simp only [madeCells, irow, zr, Array.toList_map, Array.toList_range, List.map_replicate]
  apply List.ext_getElem
  · simp
  · intro i h1 h2
    simp [Nat.mod_one]
theorem make_u64 (n : Nat) (h : n ≤ 281474976710656) (W : World) : (Instr.makeSlice 29 (.int .u64 (n : Int)) (.int .u64 (n : Int))).run Tryd.prog W = .ok (.slice (some ⟨W.heap.size, 0, none⟩) n n) (W.alloc (.cells (irow .u8 (zr n)) 5)) := by
  rw [← made_irow]
  exact run_make_row' 29 5 (.int .u8 0) 1 Tryd.underlying29 (by kernel_rfl) rfl .u64 .u64 n (by omega) (by omega) W
theorem make_i64 (n : Nat) (h : n ≤ 281474976710656) (W : World) : (Instr.makeSlice 29 (.int .i64 (n : Int)) (.int .i64 (n : Int))).run Tryd.prog W = .ok (.slice (some ⟨W.heap.size, 0, none⟩) n n) (W.alloc (.cells (irow .u8 (zr n)) 5)) := by
  rw [← made_irow]
  exact run_make_row' 29 5 (.int .u8 0) 1 Tryd.underlying29 (by kernel_rfl) rfl .i64 .i64 n (by omega) (by omega) W
set_option maxHeartbeats 2000000 in
theorem a_pad (n : Nat) (hn : n < 18446744073709551616) (w : World) : Calls Tryd.prog 90 #[.int .u64 (n : Int)] w fun e w' => ∃ v g, e = .returned v ∧ v = .slice (some ⟨g, 0, none⟩) (plen n) (plen n) ∧ w.heap.size ≤ g ∧ w'.heap[g]? = some (.cells (irow .u8 (padL n)) 5 (0, 0)) ∧ Below w.heap.size w w' := by
  have hpb := plen_bd n
  have hpl : 1 + (119 - (n : Int)) % 64 + 8 = (plen n : Int) := by unfold plen; omega
  have hmk := make_u64 (plen n) (by omega) w
  have R0 := hp1_0 w (.cells (irow .u8 (zr (plen n))) 5)
  have HW : Below w.heap.size w (w.alloc (.cells (irow .u8 (zr (plen n))) 5)) := (Below.refl _ _).alloc (Nat.le_refl _) _
  have hc0 := irow_cell R0 (j := 0) (by rw [zr_len]; omega)
  have hf0 := row_frozen R0 0
  have hps := padP_set n
  have hpp := padP_len n
  have hset0 : (irow .u8 (zr (plen n))).setIfInBounds 0 (.int .u8 128) = irow .u8 (padP n 0) := by
    rw [padP_zero n]
    simp [irow, List.map_set]
  replace hset0 := hide hset0
  clear R0 HW
  have hbit : ∀ k : Nat, k < 8 → (8 * (n : Int) % 18446744073709551616) / 2 ^ (8 * k) % 256 = pbit n k := fun k _ => by
    unfold pbit
    rw [Int.natCast_emod, Int.natCast_ediv, Int.natCast_emod, Int.natCast_mul, Int.natCast_pow]
    rfl
  generalize plen n = L at *
  go_enter Tryd.func90, Tryd.ntmps90
  go_wp2
  go_loopw [19] (fun i wr => ∃ k : Nat, k ≤ 8 ∧ i = .int .i64 k ∧ wr.heap[w.heap.size]? = some (.cells (irow .u8 (padP n k)) 5 (0, 0)) ∧ Below w.heap.size w wr) (fun i _ => 8 - (intOf i).toNat)
  case atStart => exact ⟨0, by omega, rfl, by rw [hset0.out]; exact hp1_0 w _, (Below.refl _ _).alloc (Nat.le_refl _) _⟩
  case round =>
    clear hset0 hmk hc0 hf0
    obtain ⟨k, hk, rfl, r0, hw⟩ := hrel
    by_cases hlt : k < 8
    · have hd : decide ((k : Int) < 8) = true := by simp; omega
      have hc := irow_cell r0 (j := L - 1 - k) (by rw [hpp]; omega)
      have hf := row_frozen r0 (L - 1 - k)
      have hs := hps k hlt
      have hb := hbit k hlt
      have hbb := pbit_bd n k
      clear hps hbit
      go_wp2
      refine ⟨⟨k + 1, by omega, by go_num, ?_, hw.setCell (show w.heap.size ≤ w.heap.size from Nat.le_refl _) _⟩, ?_⟩
      · rw [IntKind.wrap_u64, hb, ← hs]
        exact irow_set r0 _ _
      · simp [intOf]; omega
    · obtain rfl : k = 8 := by omega
      have hd : decide ((8 : Int) < 8) = false := by decide
      go_wp2
      go_ret
      exact ⟨_, _, rfl, rfl, Nat.le_refl _, r0, hw⟩

end Go.Proofs.YtamieopjigjfiaaDoor


namespace Go.Proofs.YtamieopjigjfiaaDoor
set_option maxRecDepth 100000
open Go Go.RowKit Go.Sort

/-! Blocks in a row; a hash under way. -/
def wat (bs : List Int) (q i : Nat) : Int := bs.getD (64 * q + i) 0
def chunk (bs : List Int) (k : Nat) : List Int := prt (wat bs k) 64
def fol (h bs : List Int) : Nat → List Int
  | 0 => h
  | k + 1 => blk (fol h bs k) (chunk bs k)
theorem fol_len {h : List Int} (hl : h.length = 8) (bs : List Int) : ∀ k, (fol h bs k).length = 8
  | 0 => hl
  | _ + 1 => blk_len _ _
theorem fol_bd {h : List Int} (hz : ∀ x ∈ h, 0 ≤ x ∧ x < 4294967296) (bs : List Int) : ∀ k, ∀ x ∈ fol h bs k, 0 ≤ x ∧ x < 4294967296
  | 0 => hz
  | _ + 1 => sums_bd _ _
theorem prt_congr {W V : Nat → Int} {t : Nat} (h : ∀ j, j < t → j < 64 → W j = V j) : prt W t = prt V t := by
  unfold prt
  apply List.map_congr_left
  intro j hj
  rw [List.mem_range] at hj
  by_cases e : j < t
  · rw [if_pos e, if_pos e, h j e hj]
  · rw [if_neg e, if_neg e]
theorem chunk_len (bs : List Int) (k : Nat) : (chunk bs k).length = 64 := prt_len _ _
theorem getD_bd {bs : List Int} (hz : ∀ z ∈ bs, 0 ≤ z ∧ z < 256) (j : Nat) : 0 ≤ bs.getD j 0 ∧ bs.getD j 0 < 256 := by
  rw [List.getD_eq_getElem?_getD]
  by_cases h : j < bs.length
  · rw [List.getElem?_eq_getElem h]; exact hz _ (List.getElem_mem _)
  · rw [List.getElem?_eq_none (by omega)]; exact ⟨by decide, by decide⟩
theorem prt_bd {W : Nat → Int} (h : ∀ j, 0 ≤ W j ∧ W j < 256) (t : Nat) : ∀ z ∈ prt W t, 0 ≤ z ∧ z < 256 := by
  intro z hz
  simp only [prt, List.mem_map] at hz
  obtain ⟨j, _, rfl⟩ := hz
  split
  · exact h j
  · omega
theorem wat_bd {bs : List Int} (hz : ∀ z ∈ bs, 0 ≤ z ∧ z < 256) (q : Nat) : ∀ j, 0 ≤ wat bs q j ∧ wat bs q j < 256 := fun _ => getD_bd hz _
theorem chunk_bd {bs : List Int} (hz : ∀ z ∈ bs, 0 ≤ z ∧ z < 256) (k : Nat) : ∀ z ∈ chunk bs k, 0 ≤ z ∧ z < 256 := prt_bd (wat_bd hz k) 64
theorem getD_append_lt (a b : List Int) (j : Nat) (h : j < a.length) : (a ++ b).getD j 0 = a.getD j 0 := by
  rw [List.getD_eq_getElem?_getD, List.getD_eq_getElem?_getD, List.getElem?_append_left h]
theorem getD_append_ge (a b : List Int) (j : Nat) (h : a.length ≤ j) : (a ++ b).getD j 0 = b.getD (j - a.length) 0 := by
  rw [List.getD_eq_getElem?_getD, List.getD_eq_getElem?_getD, List.getElem?_append_right h]
theorem fol_append (h a b : List Int) : ∀ k, 64 * k ≤ a.length → fol h (a ++ b) k = fol h a k
  | 0, _ => rfl
  | k + 1, hk => by
    unfold fol
    rw [fol_append h a b k (by omega)]
    congr 1
    unfold chunk
    apply prt_congr
    intro j _ hj
    exact getD_append_lt a b _ (by omega)
theorem wat_append (a b : List Int) (q r : Nat) (hr : a.length = 64 * q + r) : prt (wat (a ++ b) q) r = prt (wat a q) r := prt_congr fun j hj _ => getD_append_lt a b _ (by omega)
/-- What is copied behind r bytes of a part. -/
theorem part_over (a c : List Int) (q r : Nat) (hr : a.length = 64 * q + r) (hc : r + c.length ≤ 64) : (prt (wat a q) r).take r ++ c ++ (prt (wat a q) r).drop (r + c.length) = prt (wat (a ++ c) q) (r + c.length) := by
  have hl := prt_len (wat a q) r
  apply List.ext_getElem?
  intro j
  by_cases h1 : j < r
  · rw [List.append_assoc, List.getElem?_append_left (by simp; omega), List.getElem?_take_of_lt h1]
    simp only [prt, List.getElem?_map, List.getElem?_range (show j < 64 by omega), Option.map_some, if_pos h1, if_pos (show j < r + c.length by omega)]
    rw [wat, wat, getD_append_lt a c _ (by omega)]
  · by_cases h2 : j < r + c.length
    · rw [List.getElem?_append_left (by simp; omega), List.getElem?_append_right (by simp; omega)]
      have e : ((prt (wat a q) r).take r).length = r := by simp; omega
      rw [e]
      simp only [prt, List.getElem?_map, List.getElem?_range (show j < 64 by omega), Option.map_some, if_pos h2]
      rw [wat, getD_append_ge a c _ (by omega), List.getElem?_eq_getElem (by omega), List.getD_eq_getElem?_getD, show 64 * q + j - a.length = j - r by omega, List.getElem?_eq_getElem (by omega)]
      rfl
    · rw [List.getElem?_append_right (by simp; omega), List.getElem?_drop]
      have e : r + c.length + (j - ((prt (wat a q) r).take r ++ c).length) = j := by simp; omega
      rw [e]
      by_cases hj : j < 64
      · simp only [prt, List.getElem?_map, List.getElem?_range hj, Option.map_some, if_neg h1, if_neg h2]
      · rw [List.getElem?_eq_none (by omega), List.getElem?_eq_none (by rw [prt_len]; omega)]
/-- The cells of a hash. -/
def hcells (ws ps : List Int) (sz : Int) : Array Value := (ws.map (Value.int .u32) ++ (ps.map (Value.int .u8) ++ [Value.int .u64 sz])).toArray
def hwords (bs : List Int) : List Int := fol sl bs (bs.length / 64)
def hpart (bs : List Int) : List Int := prt (wat bs (bs.length / 64)) (bs.length % 64)
def hst (bs : List Int) : Array Value := hcells (hwords bs) (hpart bs) (bs.length : Int)
theorem hwords_len (bs : List Int) : (hwords bs).length = 8 := fol_len rfl _ _
theorem hpart_len (bs : List Int) : (hpart bs).length = 64 := prt_len _ _
theorem sl_bd : ∀ x ∈ sl, 0 ≤ x ∧ x < 4294967296 := by decide
theorem hwords_bd (bs : List Int) : ∀ x ∈ hwords bs, 0 ≤ x ∧ x < 4294967296 := fol_bd sl_bd _ _
theorem hpart_bd {bs : List Int} (hz : ∀ z ∈ bs, 0 ≤ z ∧ z < 256) : ∀ z ∈ hpart bs, 0 ≤ z ∧ z < 256 := prt_bd (wat_bd hz _) _
theorem hst_nil : hst [] = hcells sl (zr 64) 0 := rfl
/-- Bytes behind, the block not full. -/
theorem hst_less (a c : List Int) (h : a.length % 64 + c.length < 64) : hst (a ++ c) = hcells (hwords a) (prt (wat (a ++ c) (a.length / 64)) (a.length % 64 + c.length)) ((a.length : Int) + c.length) := by
  have e1 : (a ++ c).length / 64 = a.length / 64 := by rw [List.length_append]; omega
  have e2 : (a ++ c).length % 64 = a.length % 64 + c.length := by rw [List.length_append]; omega
  unfold hst hwords hpart
  rw [e1, e2, fol_append _ _ _ _ (by omega), List.length_append]
  rfl
/-- Bytes behind, the block full. -/
theorem hst_full (a c : List Int) (h : a.length % 64 + c.length = 64) : hst (a ++ c) = hcells (blk (hwords a) (prt (wat (a ++ c) (a.length / 64)) 64)) (zr 64) ((a.length : Int) + c.length) := by
  have e1 : (a ++ c).length / 64 = a.length / 64 + 1 := by rw [List.length_append]; omega
  have e2 : (a ++ c).length % 64 = 0 := by rw [List.length_append]; omega
  unfold hst hwords hpart
  rw [e1, e2, fol, fol_append _ _ _ _ (by omega), List.length_append, prt_zero]
  rfl
theorem hcells_size (ws ps : List Int) (sz : Int) (h1 : ws.length = 8) (h2 : ps.length = 64) : (hcells ws ps sz).size = 73 := by simp [hcells, h1, h2]
theorem hcells_words (ws ps : List Int) (sz : Int) (h1 : ws.length = 8) : (hcells ws ps sz).extract 0 (0 + 8) = irow .u32 ws := by
  apply Array.ext'
  simp [hcells, irow, h1]
theorem hcells_part (ws ps : List Int) (sz : Int) (h1 : ws.length = 8) (h2 : ps.length = 64) : (hcells ws ps sz).extract 8 (8 + 64) = irow .u8 ps := by
  apply Array.ext'
  simp [hcells, irow, h1, h2]
theorem hcells_at (ws ps : List Int) (sz : Int) (h1 : ws.length = 8) (h2 : ps.length = 64) : (hcells ws ps sz)[72]? = some (.int .u64 sz) := by
  simp [hcells, h1, h2]
theorem hcells_setsz (ws ps : List Int) (sz z : Int) (h1 : ws.length = 8) (h2 : ps.length = 64) : (hcells ws ps sz).setIfInBounds 72 (.int .u64 z) = hcells ws ps z := by
  apply Array.ext'
  simp [hcells, h1, h2]
/-- What copy makes of the part. -/
theorem hcells_copy (ws ps c : List Int) (sz : Int) (o : Nat) (h1 : ws.length = 8) (h2 : ps.length = 64) (hc : o + c.length ≤ 64) : ((hcells ws ps sz).toList.take (8 + o) ++ c.map (Value.int .u8) ++ (hcells ws ps sz).toList.drop (8 + o + (c.map (Value.int .u8)).length)).toArray = hcells ws (ps.take o ++ c ++ ps.drop (o + c.length)) sz := by
  apply Array.ext'
  have e1 : 8 + o - ws.length = o := by omega
  have e2 : 8 + o + c.length - ws.length = o + c.length := by omega
  simp only [hcells, List.length_map, List.take_append, List.drop_append, h1, h2, List.map_append, List.map_take, List.map_drop]
  rw [List.take_of_length_le (show (ws.map (Value.int .u32)).length ≤ 8 + o by simp; omega), List.drop_eq_nil_of_le (show (ws.map (Value.int .u32)).length ≤ 8 + o + c.length by simp; omega), show 8 + o - 8 = o by omega, show 8 + o + c.length - 8 = o + c.length by omega, show o - 64 = 0 by omega, show o + c.length - 64 = 0 by omega]
  simp [List.append_assoc]
theorem ovw_list : ∀ (vs : List Value) (cs : Array Value) (o : Nat), o + vs.length ≤ cs.size → (ovw cs o vs).toList = cs.toList.take o ++ vs ++ cs.toList.drop (o + vs.length)
  | [], cs, o, _ => by simp [ovw]
  | v :: r, cs, o, h => by
    have h' : o < cs.toList.length := by simp at h ⊢; omega
    rw [ovw, ovw_list r _ _ (by simp at h ⊢; omega), Array.toList_setIfInBounds, List.set_eq_take_append_cons_drop, if_pos h']
    have e : (cs.toList.take o).length = o := by rw [List.length_take]; omega
    rw [List.take_append, List.drop_append, e, List.take_take, show min (o + 1) o = o by omega, show o + 1 - o = 1 by omega, List.drop_eq_nil_of_le (show (cs.toList.take o).length ≤ o + 1 + r.length by omega), show o + 1 + r.length - o = r.length + 1 by omega, List.drop_succ_cons, List.drop_drop, List.length_cons, show o + 1 + r.length = o + (r.length + 1) by omega]
    simp
theorem hcells_setwords (ws vs ps : List Int) (sz : Int) (h1 : ws.length = 8) (h2 : ps.length = 64) (h3 : vs.length = 8) : ovw (hcells ws ps sz) 0 (irow .u32 vs).toList = hcells vs ps sz := by
  apply Array.ext'
  rw [ovw_list _ _ _ (by rw [hcells_size _ _ _ h1 h2]; simp [irow, h3])]
  simp [hcells, irow, h1, h3]
theorem hcells_setpart (ws ps qs : List Int) (sz : Int) (h1 : ws.length = 8) (h2 : ps.length = 64) (h3 : qs.length = 64) : ovw (hcells ws ps sz) 8 (irow .u8 qs).toList = hcells ws qs sz := by
  apply Array.ext'
  rw [ovw_list _ _ _ (by rw [hcells_size _ _ _ h1 h2]; simp [irow, h3])]
  simp only [hcells, irow, h1, h3, List.length_map, List.take_append, List.take_of_length_le (show (ws.map (Value.int .u32)).length ≤ 8 by simp; omega)]
  rw [show 8 - 8 = 0 from rfl, List.take_zero, ← List.append_assoc (ws.map (Value.int .u32)) (ps.map (Value.int .u8)), List.drop_left' (by simp; omega)]
  simp
theorem hcells_one (ws ps : List Int) (sz : Int) : (hcells ws ps sz).all (·.oneCell') = true := by
  simp only [hcells, List.all_toArray, List.all_append, List.all_map, Bool.and_eq_true, List.all_eq_true, List.all_cons, List.all_nil]
  exact ⟨fun _ _ => rfl, fun _ _ => rfl, rfl, trivial⟩
end Go.Proofs.YtamieopjigjfiaaDoor

namespace Go.Proofs.YtamieopjigjfiaaDoor
set_option maxRecDepth 100000
open Go Go.RowKit Go.Sort
attribute [local go_sem] setCell_drewN alloc_drewN

def kvals (l : List Int) : Nat → List (Nat × Value) := fun n => (List.range n).map fun i => (i, .int .u32 (l.getD i 0))
theorem kbuilt : Tryd.prog.built 119 (kvals kl 64) = some (irow .u32 kl) := by kernel_rfl
theorem sbuilt : Tryd.prog.built 71 (kvals sl 8) = some (irow .u32 sl) := by kernel_rfl
theorem infok : (Tryd.prog.info? 119).map (·.size) = some (irow .u32 kl).size := by kernel_rfl
set_option maxRecDepth 100000 in
set_option maxHeartbeats 4000000 in
theorem r_constants : Gives 97 #[] (.agg (irow .u32 kl)) := by
  intro w
  have R0 := hp1_0 w (.cells (irow .u32 (zr 64)) 119)
  have HW : Below w.heap.size w (w.alloc (.cells (irow .u32 (zr 64)) 119)) := ((Below.refl _ _).alloc (Nat.le_refl _) _)

  go_enter Tryd.func97, Tryd.ntmps97
  go_wp2_with (first | (refine wpList_alloc rfl 119 rfl (irow .u32 (zr 64)) z57 ?_) | (refine wpList_build_as rfl 119 _ rfl (kvals kl 64) (by kernel_rfl) (irow .u32 kl) kbuilt ?_) | (refine wpList_store_row rfl 119 _ _ rfl (w.heap.size) (irow .u32 kl) rfl rfl 119 _ R0 infok rfl (irow_one _ _) ?_) | fail)
  replace R0 := setRow_heap (w.alloc (.cells (irow .u32 (zr 64)) 119)) (w.heap.size) _ (irow .u32 kl) _ _ R0
  replace HW := below_setRow HW (show w.heap.size ≤ w.heap.size by omega) (irow .u32 kl)
  generalize (w.alloc (.cells (irow .u32 (zr 64)) 119)).setRow (w.heap.size) (irow .u32 kl) = w9 at *
  exact bodyPost_ret (v := .agg (irow .u32 kl)) (results_cell_row Tryd.results97 _ _ (w.heap.size) _ _ _ _ rfl R0 Tryd.underlying119 rfl infok) rfl ⟨rfl, HW⟩
set_option maxRecDepth 100000 in
set_option maxHeartbeats 4000000 in
theorem r_start : Gives 86 #[] (.agg (irow .u32 sl)) := by
  intro w
  have R0 := hp1_0 w (.cells (irow .u32 (zr 8)) 71)
  have HW : Below w.heap.size w (w.alloc (.cells (irow .u32 (zr 8)) 71)) := ((Below.refl _ _).alloc (Nat.le_refl _) _)

  go_enter Tryd.func86, Tryd.ntmps86
  go_wp2_with (first | (refine wpList_alloc rfl 71 rfl (irow .u32 (zr 8)) z23 ?_) | (refine wpList_build_as rfl 71 _ rfl (kvals sl 8) (by kernel_rfl) (irow .u32 sl) sbuilt ?_) | (refine wpList_store_row rfl 71 _ _ rfl (w.heap.size) (irow .u32 sl) rfl rfl 71 _ R0 (info23 sl rfl) rfl (irow_one _ _) ?_) | fail)
  replace R0 := setRow_heap (w.alloc (.cells (irow .u32 (zr 8)) 71)) (w.heap.size) _ (irow .u32 sl) _ _ R0
  replace HW := below_setRow HW (show w.heap.size ≤ w.heap.size by omega) (irow .u32 sl)
  generalize (w.alloc (.cells (irow .u32 (zr 8)) 71)).setRow (w.heap.size) (irow .u32 sl) = w9 at *
  exact bodyPost_ret (v := .agg (irow .u32 sl)) (results_cell_row Tryd.results86 _ _ (w.heap.size) _ _ _ _ rfl R0 Tryd.underlying71 rfl (info23 sl rfl)) rfl ⟨rfl, HW⟩

end Go.Proofs.YtamieopjigjfiaaDoor


namespace Go.Proofs.YtamieopjigjfiaaDoor
set_option maxRecDepth 100000
open Go Go.RowKit Go.Sort
attribute [local go_sem] setCell_drewN alloc_drewN

theorem st0_list (h : List Int) (hl : h.length = 8) : (st0 h).list = h := by
  match h, hl with
  | [a, b, c, d, e, f, g, x], _ => rfl
set_option maxRecDepth 100000 in
set_option maxHeartbeats 8000000 in
theorem r_block (h b : List Int) (hl : h.length = 8) (hb : b.length = 64) (hz : ∀ z ∈ b, 0 ≤ z ∧ z < 256) : Gives 94 #[.agg (irow .u32 h), .agg (irow .u8 b)] (.agg (irow .u32 (blk h b))) := by
  intro w
  have cK := r_constants
  have r0 := hp3_0 w (.cells (irow .u32 h) 71) (.cells (irow .u8 b) 68) (.cells (irow .u32 (zr 8)) 71)
  have r1 := hp3_1 w (.cells (irow .u32 h) 71) (.cells (irow .u8 b) 68) (.cells (irow .u32 (zr 8)) 71)
  have r2 := hp3_2 w (.cells (irow .u32 h) 71) (.cells (irow .u8 b) 68) (.cells (irow .u32 (zr 8)) 71)
  have hw : Below w.heap.size w (((w.alloc (.cells (irow .u32 h) 71)).alloc (.cells (irow .u8 b) 68)).alloc (.cells (irow .u32 (zr 8)) 71)) := ((((Below.refl _ _).alloc (Nat.le_refl _) _).alloc (by simp) _).alloc (by simp; omega) _)

  go_enter Tryd.func94, Tryd.ntmps94
  go_wp2_with (first | (refine wpList_box rfl 71 _ rfl _ rfl (b23 _) ?_) | (refine wpList_box rfl 68 _ rfl _ rfl (b24 _) ?_) | (refine wpList_alloc rfl 71 rfl (irow .u32 (zr 8)) z23 ?_) | fail)
  try simp only [size_alloc1, Act.put, List.setIfInBounds_toArray, List.set_cons_succ, List.set_cons_zero]
  generalize (((w.alloc (.cells (irow .u32 h) 71)).alloc (.cells (irow .u8 b) 68)).alloc (.cells (irow .u32 (zr 8)) 71)) = w0 at *
  refine (cK.at _).mono ?_
  rintro e_ w1 ⟨rfl, hb⟩
  replace r0 := keep hb r0
  replace r1 := keep hb r1
  replace r2 := keep hb r2
  replace hw := Below.after hw hb
  clear hb

  go_wp2_with (first | (refine wpList_alloc rfl 119 rfl (irow .u32 (zr 64)) z57 ?_) | (refine wpList_store_row rfl 119 _ _ rfl (w1.heap.size) (irow .u32 kl) rfl rfl 119 _ (hp1_0 w1 _) infok rfl (irow_one _ _) ?_; rw [setRow_alloc_new _ _ _ _ _ _ rfl]) | fail)
  have rk := hp2_0 w1 (.cells (irow .u32 kl) 119) (.cells (irow .u32 (zr 64)) 119)
  have rw := hp2_1 w1 (.cells (irow .u32 kl) 119) (.cells (irow .u32 (zr 64)) 119)
  have hB : Below w1.heap.size w1 ((w1.alloc (.cells (irow .u32 kl) 119)).alloc (.cells (irow .u32 (zr 64)) 119)) := ((Below.refl _ _).alloc (Nat.le_refl _) _).alloc (by simp) _
  have yk := lt_of_row r2
  replace r0 := keep hB r0
  replace r1 := keep hB r1
  replace r2 := keep hB r2
  replace hw := Below.after hw hB
  clear hB cK
  try simp only [size_alloc1, Act.put, List.setIfInBounds_toArray, List.set_cons_succ, List.set_cons_zero]
  generalize (w1.alloc (.cells (irow .u32 kl) 119)).alloc (.cells (irow .u32 (zr 64)) 119) = w2 at *
  generalize w1.heap.size = gK at *
  rw [← prt_zero (wds b)] at rw
  go_loopw [7] (fun i wr => ∃ k : Nat, k ≤ 16 ∧ i = .int .i64 k ∧ wr.heap[w.heap.size]? = some (.cells (irow .u32 h) 71 (0, 0)) ∧ wr.heap[w.heap.size + 1]? = some (.cells (irow .u8 b) 68 (0, 0)) ∧ wr.heap[w.heap.size + 1 + 1]? = some (.cells (irow .u32 (zr 8)) 71 (0, 0)) ∧ wr.heap[gK]? = some (.cells (irow .u32 kl) 119 (0, 0)) ∧ wr.heap[gK + 1]? = some (.cells (irow .u32 (prt (wds b) k)) 119 (0, 0)) ∧ Below w.heap.size w wr) (fun i _ => 16 - (intOf i).toNat)
  case atStart => exact ⟨0, by omega, rfl, r0, r1, r2, rk, rw, hw⟩
  case round =>
    clear r0 r1 r2 rk rw hw
    obtain ⟨k, hk, rfl, r0, r1, r2, rk, rw, hw⟩ := hrel
    by_cases hlt : k < 16
    · have hd : decide ((k : Int) < 16) = true := by simp; omega
      have c0 := irow_cell r1 (j := 4 * k + 0) (by omega)
      have c1 := irow_cell r1 (j := 4 * k + 1) (by omega)
      have c2 := irow_cell r1 (j := 4 * k + 2) (by omega)
      have c3 := irow_cell r1 (j := 4 * k + 3) (by omega)
      have b0 := bound_at hz (4 * k + 0) (by omega)
      have b1 := bound_at hz (4 * k + 1) (by omega)
      have b2 := bound_at hz (4 * k + 2) (by omega)
      have b3 := bound_at hz (4 * k + 3) (by omega)
      have hset := prt_set (wds b) k (by omega)
      have hpl := prt_len (wds b) k
      have e : wds b k = w4 (b.getD (4 * k + 0) 0) (b.getD (4 * k + 1) 0) (b.getD (4 * k + 2) 0) (b.getD (4 * k + 3) 0) := by rw [wds_lo _ hlt]; rfl
      generalize b.getD (4 * k + 0) 0 = z0 at *
      generalize b.getD (4 * k + 1) 0 = z1 at *
      generalize b.getD (4 * k + 2) 0 = z2 at *
      generalize b.getD (4 * k + 3) 0 = z3 at *
      rw [Nat.add_zero] at c0
      rw [e] at hset
      unfold w4 at hset
      clear e
      replace hset := hide hset
      go_wp2
      have k0 : ∀ p : Regrown, (grow (redrawn wr p.d) p.os).cell? ⟨w.heap.size + 1, 4 * k, none⟩ = some (.int .u8 z0) := fun p => cell_regrown (c0) p.d p.os
      have k1 : ∀ p : Regrown, (grow (redrawn wr p.d) p.os).cell? ⟨w.heap.size + 1, 4 * k + 1, none⟩ = some (.int .u8 z1) := fun p => cell_regrown (c1) p.d p.os
      have k2 : ∀ p : Regrown, (grow (redrawn wr p.d) p.os).cell? ⟨w.heap.size + 1, 4 * k + 2, none⟩ = some (.int .u8 z2) := fun p => cell_regrown (c2) p.d p.os
      have k3 : ∀ p : Regrown, (grow (redrawn wr p.d) p.os).cell? ⟨w.heap.size + 1, 4 * k + 3, none⟩ = some (.int .u8 z3) := fun p => cell_regrown (c3) p.d p.os
      refine wp_region_tail (C := fun w' => ∃ p : Regrown, w' = grow (redrawn wr p.d) p.os) 31 _ rfl rfl rfl (by kernel_rfl) (by kernel_rfl) (by kernel_rfl) (by kernel_rfl) ⟨⟨wr.drawn + 1, #[]⟩, by rw [grow_empty]; rfl⟩ ?_
      dsimp only [List.set, idle]
      go_big_quiet_step (fail)
      go_big_quiet_step (fail)
      go_big_quiet_step (fail)
      go_big_quiet_step (fail)
      go_big_quiet_step (fail)
      go_big_quiet_step (fail)
      go_big_quiet_step (fail)
      go_big_quiet_step (fail)
      go_big_quiet_step (fail)
      go_big_quiet_step (fail)
      go_big_quiet_step (fail)
      go_big_quiet_step (fail)
      go_big_quiet_step (fail)
      go_big_quiet_step (fail)
      go_big_quiet_step (fail)
      go_big_quiet_step (fail)
      go_big_quiet_step (fail)
      go_big_quiet_step (fail)
      go_big_quiet_step (fail)
      go_big_quiet_step (fail)
      go_big_quiet_step (fail)
      go_big_quiet_step (fail)
      go_big_quiet_step (fail)
      go_big_quiet_step (fail)
      go_big_quiet_step (fail)
      go_big_quiet_step (fail)
      go_big_quiet_step (fail)
      go_big_quiet_step (fail)
      go_big_quiet_step (fail)
      go_big_quiet_step (fail)
      go_big_quiet_step (fail)
      refine wpQuiet_idle rfl rfl rfl ?_
      rintro _ ⟨p, rfl⟩
      have hb := below_regrown wr p.d p.os
      generalize grow (redrawn wr p.d) p.os = w3 at *
      clear k0 k1 k2 k3
      replace r0 := keep hb r0
      replace r1 := keep hb r1
      replace r2 := keep hb r2
      replace rk := keep hb rk
      replace rw := keep hb rw
      replace hw := Below.after hw hb
      clear hb

      have cz := irow_cell rw (j := k) (by omega)
      have hf := row_frozen rw k
      clear c0 c1 c2 c3 b0 b1 b2 b3
      go_wp2
      refine ⟨⟨k + 1, by omega, by go_num, heap_other r0 (by omega), heap_other r1 (by omega), heap_other r2 (by omega), heap_other rk (by omega), by rw [← hset.out]; exact irow_set rw k _, hw.setCell (show w.heap.size ≤ gK + 1 by omega) _⟩, ?_⟩
      simp [intOf]; omega
    · obtain rfl : k = 16 := by omega
      have hd : decide ((16 : Int) < 16) = false := by decide
      go_wp2
      go_loopw [8] (fun i wr => ∃ k : Nat, 16 ≤ k ∧ k ≤ 64 ∧ i = .int .i64 k ∧ wr.heap[w.heap.size]? = some (.cells (irow .u32 h) 71 (0, 0)) ∧ wr.heap[w.heap.size + 1]? = some (.cells (irow .u8 b) 68 (0, 0)) ∧ wr.heap[w.heap.size + 1 + 1]? = some (.cells (irow .u32 (zr 8)) 71 (0, 0)) ∧ wr.heap[gK]? = some (.cells (irow .u32 kl) 119 (0, 0)) ∧ wr.heap[gK + 1]? = some (.cells (irow .u32 (prt (wds b) k)) 119 (0, 0)) ∧ Below w.heap.size w wr) (fun i _ => 64 - (intOf i).toNat)
      case atStart => exact ⟨16, by omega, by omega, rfl, r0, r1, r2, rk, rw, hw⟩
      case round =>
        clear r0 r1 r2 rk rw hw hd
        obtain ⟨k, hk0, hk, rfl, r0, r1, r2, rk, rw, hw⟩ := hrel
        by_cases hlt : k < 64
        · have hd : decide ((k : Int) < 64) = true := by simp; omega
          have d2 := irow_cell rw (j := k - 2) (by rw [prt_len]; omega)
          have d7 := irow_cell rw (j := k - 7) (by rw [prt_len]; omega)
          have d15 := irow_cell rw (j := k - 15) (by rw [prt_len]; omega)
          have d16 := irow_cell rw (j := k - 16) (by rw [prt_len]; omega)
          rw [prt_get _ _ (by omega) (by omega)] at d2 d7 d15 d16
          have c1 := r_lo1 (wds b (k - 2))
          have c0 := r_lo0 (wds b (k - 15))
          have hset := prt_set (wds b) k (by omega)
          have hpl := prt_len (wds b) k
          rw [wds_hi b (t := k) (by omega)] at hset
          generalize lo1 (wds b (k - 2)) = q1 at *
          generalize lo0 (wds b (k - 15)) = q0 at *
          generalize wds b (k - 2) = x2 at *
          generalize wds b (k - 7) = x7 at *
          generalize wds b (k - 15) = x15 at *
          generalize wds b (k - 16) = x16 at *
          replace hset := hide hset
          go_wp2
          have k2 : ∀ p : Regrown, (grow (redrawn wr p.d) p.os).cell? ⟨gK + 1, k - 2, none⟩ = some (.int .u32 x2) := fun p => cell_regrown (d2) p.d p.os
          have k7 : ∀ p : Regrown, (grow (redrawn wr p.d) p.os).cell? ⟨gK + 1, k - 7, none⟩ = some (.int .u32 x7) := fun p => cell_regrown (d7) p.d p.os
          have k15 : ∀ p : Regrown, (grow (redrawn wr p.d) p.os).cell? ⟨gK + 1, k - 15, none⟩ = some (.int .u32 x15) := fun p => cell_regrown (d15) p.d p.os
          have k16 : ∀ p : Regrown, (grow (redrawn wr p.d) p.os).cell? ⟨gK + 1, k - 16, none⟩ = some (.int .u32 x16) := fun p => cell_regrown (d16) p.d p.os
          refine wp_region_tail (C := fun w' => ∃ p : Regrown, w' = grow (redrawn wr p.d) p.os) 23 _ rfl rfl rfl (by kernel_rfl) (by kernel_rfl) (by kernel_rfl) (by kernel_rfl) ⟨⟨wr.drawn + 1, #[]⟩, by rw [grow_empty]; rfl⟩ ?_
          dsimp only [List.set, idle]
          go_big_quiet_step (fail)
          go_big_quiet_step (fail)
          go_big_quiet_step (fail)
          go_big_quiet_step (fail)
          go_big_quiet_step (fail)
          go_big_quiet_step (exact c1.re)
          go_big_quiet_step (fail)
          go_big_quiet_step (fail)
          go_big_quiet_step (fail)
          go_big_quiet_step (fail)
          go_big_quiet_step (fail)
          go_big_quiet_step (fail)
          go_big_quiet_step (fail)
          go_big_quiet_step (fail)
          go_big_quiet_step (fail)
          go_big_quiet_step (exact c0.re)
          go_big_quiet_step (fail)
          go_big_quiet_step (fail)
          go_big_quiet_step (fail)
          go_big_quiet_step (fail)
          go_big_quiet_step (fail)
          go_big_quiet_step (fail)
          go_big_quiet_step (fail)
          refine wpQuiet_idle rfl rfl rfl ?_
          rintro _ ⟨p, rfl⟩
          have hb := below_regrown wr p.d p.os
          generalize grow (redrawn wr p.d) p.os = w3 at *
          clear k2 k7 k15 k16
          replace r0 := keep hb r0
          replace r1 := keep hb r1
          replace r2 := keep hb r2
          replace rk := keep hb rk
          replace rw := keep hb rw
          replace hw := Below.after hw hb
          clear hb

          have cz := irow_cell rw (j := k) (by omega)
          have hf := row_frozen rw k
          clear d2 d7 d15 d16 c0 c1
          go_wp2
          refine ⟨⟨k + 1, by omega, by omega, by go_num, heap_other r0 (by omega), heap_other r1 (by omega), heap_other r2 (by omega), heap_other rk (by omega), by rw [← hset.out]; exact irow_set rw k _, hw.setCell (show w.heap.size ≤ gK + 1 by omega) _⟩, ?_⟩
          simp [intOf]; omega
        · obtain rfl : k = 64 := by omega
          have hd : decide ((64 : Int) < 64) = false := by decide
          go_wp2_with (first | (refine wpList_load_want rfl 71 _ rfl (w.heap.size) rfl 71 (irow .u32 h) (0, 0) _ r0 Tryd.underlying71 rfl (info23 _ hl) ?_) | (refine wpList_alloc rfl 71 rfl (irow .u32 (zr 8)) z23 ?_) | (refine wpList_store_row rfl 71 _ _ rfl (wr.heap.size) (irow .u32 h) rfl rfl 71 _ (hp1_0 wr _) (info23 _ hl) (fit8 _ _ (zr_len 8) hl) (irow_one _ _) ?_; rw [setRow_alloc_new _ _ _ _ _ _ rfl]) | fail)
          have rv := hp1_0 wr (.cells (irow .u32 h) 71)
          have hB : Below wr.heap.size wr (wr.alloc (.cells (irow .u32 h) 71)) := (Below.refl _ _).alloc (Nat.le_refl _) _
          have yv := lt_of_row rw
          replace r0 := keep hB r0
          replace r2 := keep hB r2
          replace rk := keep hB rk
          replace rw := keep hB rw
          replace hw := Below.after hw hB
          clear hB r1
          try simp only [size_alloc1, Act.put, List.setIfInBounds_toArray, List.set_cons_succ, List.set_cons_zero]
          generalize wr.alloc (.cells (irow .u32 h) 71) = w4_ at *
          generalize wr.heap.size = gV at *
          rw [← st0_list h hl, show st0 h = rs h (wds b) 0 from rfl] at rv
          go_loopw [10] (fun i wr => ∃ k : Nat, k ≤ 64 ∧ i = .int .i64 k ∧ wr.heap[w.heap.size]? = some (.cells (irow .u32 h) 71 (0, 0)) ∧ wr.heap[w.heap.size + 1 + 1]? = some (.cells (irow .u32 (zr 8)) 71 (0, 0)) ∧ wr.heap[gK]? = some (.cells (irow .u32 kl) 119 (0, 0)) ∧ wr.heap[gK + 1]? = some (.cells (irow .u32 (prt (wds b) 64)) 119 (0, 0)) ∧ wr.heap[gV]? = some (.cells (irow .u32 (rs h (wds b) k).list) 71 (0, 0)) ∧ Below w.heap.size w wr) (fun i _ => 64 - (intOf i).toNat)
          case atStart => exact ⟨0, by omega, rfl, r0, r2, rk, rw, rv, hw⟩
          case round =>
            clear r0 r2 rk rw rv hw hd
            obtain ⟨k, hk, rfl, r0, r2, rk, rw, rv, hw⟩ := hrel
            by_cases hlt : k < 64
            · have hd : decide ((k : Int) < 64) = true := by simp; omega
              have hn : rs h (wds b) (k + 1) = rnd (kl.getD k 0) (wds b k) (rs h (wds b) k) := rfl
              generalize rs h (wds b) k = sk at *
              obtain ⟨a, bb, c, d, e, f, g, x⟩ := sk
              unfold St8.list at rv
              dsimp only at rv
              have dk := irow_cell rk (j := k) hlt
              have dw := irow_cell rw (j := k) (by rw [prt_len]; omega)
              rw [prt_get _ _ hlt hlt] at dw
              have c1 := r_up1 e
              have c0 := r_up0 a
              simp only [rnd, one1, two2, notx] at hn
              generalize up1 e = q1 at *
              generalize up0 a = q0 at *
              generalize kl.getD k 0 = K at *
              generalize wds b k = wk at *
              replace hn := hide hn
              have d0 : wr.cell? ⟨gV, 0, none⟩ = some (.int .u32 a) := irow_cell rv (j := 0) (show 0 < 8 by decide)
              have d1 : wr.cell? ⟨gV, 1, none⟩ = some (.int .u32 bb) := irow_cell rv (j := 1) (show 1 < 8 by decide)
              have d2 : wr.cell? ⟨gV, 2, none⟩ = some (.int .u32 c) := irow_cell rv (j := 2) (show 2 < 8 by decide)
              have d3 : wr.cell? ⟨gV, 3, none⟩ = some (.int .u32 d) := irow_cell rv (j := 3) (show 3 < 8 by decide)
              have d4 : wr.cell? ⟨gV, 4, none⟩ = some (.int .u32 e) := irow_cell rv (j := 4) (show 4 < 8 by decide)
              have d5 : wr.cell? ⟨gV, 5, none⟩ = some (.int .u32 f) := irow_cell rv (j := 5) (show 5 < 8 by decide)
              have d6 : wr.cell? ⟨gV, 6, none⟩ = some (.int .u32 g) := irow_cell rv (j := 6) (show 6 < 8 by decide)
              have d7 : wr.cell? ⟨gV, 7, none⟩ = some (.int .u32 x) := irow_cell rv (j := 7) (show 7 < 8 by decide)
              go_wp2
              have k4 : ∀ p : Regrown, (grow (redrawn wr p.d) p.os).cell? ⟨gV, 4, none⟩ = some (.int .u32 e) := fun p => cell_regrown (d4) p.d p.os
              have k5 : ∀ p : Regrown, (grow (redrawn wr p.d) p.os).cell? ⟨gV, 5, none⟩ = some (.int .u32 f) := fun p => cell_regrown (d5) p.d p.os
              have k6 : ∀ p : Regrown, (grow (redrawn wr p.d) p.os).cell? ⟨gV, 6, none⟩ = some (.int .u32 g) := fun p => cell_regrown (d6) p.d p.os
              have k7 : ∀ p : Regrown, (grow (redrawn wr p.d) p.os).cell? ⟨gV, 7, none⟩ = some (.int .u32 x) := fun p => cell_regrown (d7) p.d p.os
              have kk : ∀ p : Regrown, (grow (redrawn wr p.d) p.os).cell? ⟨gK, k, none⟩ = some (.int .u32 K) := fun p => cell_regrown (dk) p.d p.os
              have kw : ∀ p : Regrown, (grow (redrawn wr p.d) p.os).cell? ⟨gK + 1, k, none⟩ = some (.int .u32 wk) := fun p => cell_regrown (dw) p.d p.os
              refine wp_region_quiet_below (by kernel_rfl) (by kernel_rfl) ?_
              go_big_quiet_step (fail)
              go_big_quiet_step (fail)
              go_big_quiet_step (fail)
              go_big_quiet_step (fail)
              go_big_quiet_step (exact c1.re)
              go_big_quiet_step (fail)
              go_big_quiet_step (fail)
              go_big_quiet_step (fail)
              go_big_quiet_step (fail)
              go_big_quiet_step (fail)
              go_big_quiet_step (fail)
              go_big_quiet_step (fail)
              go_big_quiet_step (fail)
              go_big_quiet_step (fail)
              go_big_quiet_step (fail)
              go_big_quiet_step (fail)
              go_big_quiet_step (fail)
              go_big_quiet_step (fail)
              go_big_quiet_step (fail)
              go_big_quiet_step (fail)
              go_big_quiet_step (fail)
              go_big_quiet_step (fail)
              go_big_quiet_step (fail)
              go_big_quiet_step (fail)
              go_big_quiet_step (fail)
              go_big_quiet_step (fail)
              go_big_quiet_step (fail)
              go_big_quiet_step (fail)
              refine wpQuiet_nil ?_
              rintro _ ⟨p, rfl⟩
              have hb := below_regrown wr p.d p.os
              generalize grow (redrawn wr p.d) p.os = w5 at *
              clear k4 k5 k6 k7 kk kw
              replace r0 := keep hb r0
              replace r2 := keep hb r2
              replace rk := keep hb rk
              replace rw := keep hb rw
              replace rv := keep hb rv
              replace hw := Below.after hw hb
              clear hb

              clear d0 d1 d2 d3 d4 d5 d6 d7 dk dw
              have d0 : w5.cell? ⟨gV, 0, none⟩ = some (.int .u32 a) := irow_cell rv (j := 0) (show 0 < 8 by decide)
              have d1 : w5.cell? ⟨gV, 1, none⟩ = some (.int .u32 bb) := irow_cell rv (j := 1) (show 1 < 8 by decide)
              have d2 : w5.cell? ⟨gV, 2, none⟩ = some (.int .u32 c) := irow_cell rv (j := 2) (show 2 < 8 by decide)
              go_wp2
              have k0 : ∀ p : Regrown, (grow (redrawn w5 p.d) p.os).cell? ⟨gV, 0, none⟩ = some (.int .u32 a) := fun p => cell_regrown (d0) p.d p.os
              have k1 : ∀ p : Regrown, (grow (redrawn w5 p.d) p.os).cell? ⟨gV, 1, none⟩ = some (.int .u32 bb) := fun p => cell_regrown (d1) p.d p.os
              have k2 : ∀ p : Regrown, (grow (redrawn w5 p.d) p.os).cell? ⟨gV, 2, none⟩ = some (.int .u32 c) := fun p => cell_regrown (d2) p.d p.os
              refine wp_region_quiet_below (by kernel_rfl) (by kernel_rfl) ?_
              go_big_quiet_step (fail)
              go_big_quiet_step (fail)
              go_big_quiet_step (exact c0.re)
              go_big_quiet_step (fail)
              go_big_quiet_step (fail)
              go_big_quiet_step (fail)
              go_big_quiet_step (fail)
              go_big_quiet_step (fail)
              go_big_quiet_step (fail)
              go_big_quiet_step (fail)
              go_big_quiet_step (fail)
              go_big_quiet_step (fail)
              go_big_quiet_step (fail)
              go_big_quiet_step (fail)
              go_big_quiet_step (fail)
              go_big_quiet_step (fail)
              go_big_quiet_step (fail)
              go_big_quiet_step (fail)
              go_big_quiet_step (fail)
              go_big_quiet_step (fail)
              go_big_quiet_step (fail)
              go_big_quiet_step (fail)
              refine wpQuiet_nil ?_
              rintro _ ⟨p, rfl⟩
              have hb := below_regrown w5 p.d p.os
              generalize grow (redrawn w5 p.d) p.os = w6 at *
              clear k0 k1 k2
              replace r0 := keep hb r0
              replace r2 := keep hb r2
              replace rk := keep hb rk
              replace rw := keep hb rw
              replace rv := keep hb rv
              replace hw := Below.after hw hb
              clear hb

              clear d0 d1 d2
              have d0 : w6.cell? ⟨gV, 0, none⟩ = some (.int .u32 a) := irow_cell rv (j := 0) (show 0 < 8 by decide)
              have d1 : w6.cell? ⟨gV, 1, none⟩ = some (.int .u32 bb) := irow_cell rv (j := 1) (show 1 < 8 by decide)
              have d2 : w6.cell? ⟨gV, 2, none⟩ = some (.int .u32 c) := irow_cell rv (j := 2) (show 2 < 8 by decide)
              have d3 : w6.cell? ⟨gV, 3, none⟩ = some (.int .u32 d) := irow_cell rv (j := 3) (show 3 < 8 by decide)
              have d4 : w6.cell? ⟨gV, 4, none⟩ = some (.int .u32 e) := irow_cell rv (j := 4) (show 4 < 8 by decide)
              have d5 : w6.cell? ⟨gV, 5, none⟩ = some (.int .u32 f) := irow_cell rv (j := 5) (show 5 < 8 by decide)
              have d6 : w6.cell? ⟨gV, 6, none⟩ = some (.int .u32 g) := irow_cell rv (j := 6) (show 6 < 8 by decide)
              generalize hO : (x + q1 + bits .xor .u32 (bits .and .u32 e f) (bits .and .u32 (bits .xor .u32 IntKind.u32.max e) g) + K + wk) % 4294967296 = o1 at *
              generalize hT : (q0 + bits .xor .u32 (bits .xor .u32 (bits .and .u32 a bb) (bits .and .u32 a c)) (bits .and .u32 bb c)) % 4294967296 = o2 at *
              clear hO hT
              go_wp2_with (first | (refine wpList_store_row rfl 71 _ _ rfl gV (irow .u32 [(o1 + o2) % 4294967296, a, bb, c, (d + o1) % 4294967296, e, f, g]) rfl rfl 71 _ rv (info23 _ rfl) (fit8 _ _ rfl rfl) (irow_one _ _) ?_) | fail)
              refine ⟨⟨k + 1, by omega, by go_num, (setRow_other w6 gV (w.heap.size) (irow .u32 [(o1 + o2) % 4294967296, a, bb, c, (d + o1) % 4294967296, e, f, g]) (by omega)).trans r0, (setRow_other w6 gV (w.heap.size + 1 + 1) (irow .u32 [(o1 + o2) % 4294967296, a, bb, c, (d + o1) % 4294967296, e, f, g]) (by omega)).trans r2, (setRow_other w6 gV gK (irow .u32 [(o1 + o2) % 4294967296, a, bb, c, (d + o1) % 4294967296, e, f, g]) (by omega)).trans rk, (setRow_other w6 gV (gK + 1) (irow .u32 [(o1 + o2) % 4294967296, a, bb, c, (d + o1) % 4294967296, e, f, g]) (by omega)).trans rw, by rw [hn.out]; exact setRow_heap w6 gV _ (irow .u32 [(o1 + o2) % 4294967296, a, bb, c, (d + o1) % 4294967296, e, f, g]) _ _ rv, below_setRow hw (show w.heap.size ≤ gV by omega) (irow .u32 [(o1 + o2) % 4294967296, a, bb, c, (d + o1) % 4294967296, e, f, g])⟩, ?_⟩
              simp [intOf]; omega
            · obtain rfl : k = 64 := by omega
              have hd : decide ((64 : Int) < 64) = false := by decide
              have hfin : blk h b = sums h (rs h (wds b) 64).list 8 := rfl
              have he := list_len (rs h (wds b) 64)
              generalize (rs h (wds b) 64).list = e at *
              rw [← sums_zero h e hl] at r0
              go_wp2
              go_loopw [13] (fun i wr => ∃ k : Nat, k ≤ 8 ∧ i = .int .i64 k ∧ wr.heap[w.heap.size]? = some (.cells (irow .u32 (sums h e k)) 71 (0, 0)) ∧ wr.heap[w.heap.size + 1 + 1]? = some (.cells (irow .u32 (zr 8)) 71 (0, 0)) ∧ wr.heap[gV]? = some (.cells (irow .u32 e) 71 (0, 0)) ∧ Below w.heap.size w wr) (fun i _ => 8 - (intOf i).toNat)
              case atStart => exact ⟨0, by omega, rfl, r0, r2, rv, hw⟩
              case round =>
                clear r0 r2 rk rw rv hw hd
                obtain ⟨k, hk, rfl, r0, r2, rg, hw⟩ := hrel
                by_cases hlt : k < 8
                · have hd : decide ((k : Int) < 8) = true := by simp; omega
                  have dh := irow_cell r0 (j := k) (by rw [sums_len]; exact hlt)
                  have de := irow_cell rg (j := k) (by rw [he]; exact hlt)
                  rw [sums_get _ _ _ hlt] at dh
                  have hset := sums_set h e k hlt
                  have hpl := sums_len h e k
                  generalize h.getD k 0 = x at *
                  generalize e.getD k 0 = y at *
                  replace hset := hide hset
                  go_wp2
                  have k0 : ∀ p : Regrown, (grow (redrawn wr p.d) p.os).cell? ⟨w.heap.size, k, none⟩ = some (.int .u32 x) := fun p => cell_regrown (dh) p.d p.os
                  have k1 : ∀ p : Regrown, (grow (redrawn wr p.d) p.os).cell? ⟨gV, k, none⟩ = some (.int .u32 y) := fun p => cell_regrown (de) p.d p.os
                  refine wp_region_tail (C := fun w' => ∃ p : Regrown, w' = grow (redrawn wr p.d) p.os) 9 _ rfl rfl rfl (by kernel_rfl) (by kernel_rfl) (by kernel_rfl) (by kernel_rfl) ⟨⟨wr.drawn + 1, #[]⟩, by rw [grow_empty]; rfl⟩ ?_
                  dsimp only [List.set, idle]
                  go_big_quiet_step (fail)
                  go_big_quiet_step (fail)
                  go_big_quiet_step (fail)
                  go_big_quiet_step (fail)
                  go_big_quiet_step (fail)
                  go_big_quiet_step (fail)
                  go_big_quiet_step (fail)
                  go_big_quiet_step (fail)
                  go_big_quiet_step (fail)
                  refine wpQuiet_idle rfl rfl rfl ?_
                  rintro _ ⟨p, rfl⟩
                  have hb := below_regrown wr p.d p.os
                  generalize grow (redrawn wr p.d) p.os = w3 at *
                  clear k0 k1
                  replace r0 := keep hb r0
                  replace r2 := keep hb r2
                  replace rg := keep hb rg
                  replace hw := Below.after hw hb
                  clear hb

                  have cz := irow_cell r0 (j := k) (by omega)
                  have hf := row_frozen r0 k
                  clear dh de
                  go_wp2
                  refine ⟨⟨k + 1, by omega, by go_num, by rw [← hset.out]; exact irow_set r0 k _, heap_other r2 (by omega), heap_other rg (by omega), hw.setCell (show w.heap.size ≤ w.heap.size by omega) _⟩, ?_⟩
                  simp [intOf]; omega
                · obtain rfl : k = 8 := by omega
                  have hd : decide ((8 : Int) < 8) = false := by decide
                  have hq := sums_len h e 8
                  rw [← hfin] at r0 hq
                  go_wp2_with (first | (refine wpList_load_want rfl 71 _ rfl (w.heap.size) rfl 71 (irow .u32 (blk h b)) (0, 0) _ r0 Tryd.underlying71 rfl (info23 _ hq) ?_) | (refine wpList_store_row rfl 71 _ _ rfl (w.heap.size + 1 + 1) (irow .u32 (blk h b)) rfl rfl 71 _ r2 (info23 _ hq) (fit8 _ _ (zr_len 8) hq) (irow_one _ _) ?_) | fail)
                  replace r2 := setRow_heap wr (w.heap.size + 1 + 1) _ (irow .u32 (blk h b)) _ _ r2
                  replace hw := below_setRow hw (show w.heap.size ≤ w.heap.size + 1 + 1 by omega) (irow .u32 (blk h b))
                  generalize wr.setRow (w.heap.size + 1 + 1) (irow .u32 (blk h b)) = w9 at *
                  exact bodyPost_ret (v := .agg (irow .u32 (blk h b))) (results_cell_row Tryd.results94 _ _ (w.heap.size + 1 + 1) _ _ _ _ rfl r2 Tryd.underlying71 rfl (info23 _ hq)) rfl ⟨rfl, hw⟩

end Go.Proofs.YtamieopjigjfiaaDoor


namespace Go.Proofs.YtamieopjigjfiaaDoor
set_option maxRecDepth 100000
open Go Go.RowKit Go.Sort
attribute [local go_sem] setCell_drewN alloc_drewN

/-- How long a slice is. -/
def slen : Value → Nat
  | .slice _ l _ => l
  | _ => 0
theorem slen_own {W : World} {b : Nat} {T : TypeId} {sz : Nat} {v : Value} {n : Nat} {xs : List Value} (h : W.ownsRow b T sz v n xs) : ∃ ao cap, v = .slice ao n cap := by
  obtain ⟨_, ⟨rfl, rfl⟩ | ⟨g, cap, cur, rfl, _⟩⟩ := h
  · exact ⟨_, _, rfl⟩
  · exact ⟨_, _, rfl⟩
set_option maxRecDepth 100000 in
theorem info8 : ∃ i, Tryd.prog.info? 5 = some i ∧ i.zero = some (.int .u8 0) ∧ i.size = 1 ∧ i.bytes = 1 := ⟨_, rfl, rfl, rfl, rfl⟩
/-- The beginning of the padding, by its length. -/
theorem pad_first (n : Nat) : (padL n).take 1 = [128] := by
  have hb := plen_bd n
  obtain ⟨m, hm⟩ : ∃ m, plen n = m + 1 := ⟨plen n - 1, by omega⟩
  simp [padL, padP, hm, List.range_succ_eq_map]
theorem pad_get (n j : Nat) (hj : j < plen n) : (padL n)[j]? = some (if j = 0 then 128 else if plen n - 8 ≤ j then pbit n (plen n - 1 - j) else 0) := by
  simp [padL, padP, hj]
theorem take_next {α : Type} (l : List α) (k : Nat) (x : α) (h : l[k]? = some x) : l.take k ++ [x] = l.take (k + 1) := by
  rw [List.take_add_one, h]; rfl
theorem new_cell (wr : World) (x : Int) : ∀ j u, [Value.int .u8 x][j]? = some u → (wr.alloc (.cells #[.int .u8 x] 5)).cell? ((⟨wr.heap.size, 0, none⟩ : Addr).add j) = some u := by
  intro j u hu
  have hj : j = 0 := by
    have := (List.getElem?_eq_some_iff.1 hu).1
    simp at this
    exact this
  subst hj
  simp at hu
  subst hu
  rw [addr_add]
  have hg : (wr.alloc (.cells #[.int .u8 x] 5)).heap[wr.heap.size]? = some (.cells #[.int .u8 x] 5 (0, 0)) := hp1_0 wr _
  simp only [World.cell?, hg]
  rfl
set_option maxHeartbeats 2000000 in
theorem r_pad (n : Nat) (hn : n < 18446744073709551616) (w : World) : Calls Tryd.prog 83 #[.int .u64 (n : Int)] w fun e w' => ∃ v, e = .returned v ∧ w'.ownsRow w.heap.size 5 1 v (plen n) ((padL n).map (Value.int .u8)) ∧ Below w.heap.size w w' := by
  have hpb := plen_bd n
  obtain ⟨i0, hi, hz0, hz1, hz2⟩ := info8
  have hown0 : (w.alloc (.cells #[.int .u8 128] 5)).ownsRow w.heap.size 5 1 (.slice (some ⟨w.heap.size, 0, none⟩) 1 1) 1 (((padL n).take 1).map (Value.int .u8)) := by
    rw [pad_first]
    refine ⟨rfl, .inr ⟨w.heap.size, 1, #[.int .u8 128], rfl, Nat.le_refl _, hp1_0 w _, Nat.le_refl _, by decide, rfl, rfl⟩⟩
  have HW : Below w.heap.size w (w.alloc (.cells #[.int .u8 128] 5)) := (Below.refl _ _).alloc (Nat.le_refl _) _
  go_enter Tryd.func83, Tryd.ntmps83
  go_wp2
  generalize w.alloc (.cells #[.int .u8 128] 5) = w0 at *
  go_loopw [3] (fun v wr => ∃ k : Nat, 1 ≤ k ∧ k ≤ plen n - 8 ∧ wr.ownsRow w.heap.size 5 1 v k (((padL n).take k).map (Value.int .u8)) ∧ Below w.heap.size w wr) (fun v _ => 72 - slen v)
  case atStart => exact ⟨1, by omega, by omega, hown0, HW⟩
  case round =>
    clear hown0 HW
    obtain ⟨k, hk0, hk, hown, hw⟩ := hrel
    obtain ⟨ao, cap, rfl⟩ := slen_own hown
    by_cases hlt : k < plen n - 8
    · have hd : ((n : Int) % 64 + (k : Int) + 8) % 64 ≠ 0 := by unfold plen at hlt; omega
      have hown_ := hown.alloc (.cells #[.int .u8 0] 5)
      go_wp2_with (at_builtin; refine wpList_append_own _ rfl (.tmp 16) (.tmp 17) 29 rfl w.heap.size 5 i0 (.int .u8 0) 1 1 Tryd.underlying29 hi hz0 hz1 hz2 rfl (by decide) (.slice ao k cap) k _ rfl hown_ ⟨wr.heap.size, 0, none⟩ 1 1 [.int .u8 0] rfl rfl (new_cell wr 0) (by simp [Value.oneCell']) (by unfold maxLen; omega) (by omega) (by rw [size_alloc1]; exact Nat.le_succ_of_le hw.size) ?_)
      intro v' w2 hown2 hgrow _
      replace hw := (hw.alloc hw.size _).grown hgrow (by rw [size_alloc1]; exact Nat.le_succ_of_le hw.size) (fun k h => (hown_.lt k h).1)
      clear hown hown_ hgrow
      obtain ⟨ao', cap', rfl⟩ := slen_own hown2

      replace hown2 : w2.ownsRow w.heap.size 5 1 (.slice ao' (k + 1) cap') (k + 1) (((padL n).take (k + 1)).map (Value.int .u8)) := by
        rw [← take_next _ _ (0 : Int) (by rw [pad_get n k (by omega), if_neg (by omega), if_neg (by omega)]), List.map_append, List.map_take]; exact hown2
      go_wp2
      refine ⟨⟨k + 1, by omega, by omega, hown2, hw⟩, ?_⟩
      simp [slen]; omega
    · obtain rfl : k = plen n - 8 := by omega
      have hd : ((n : Int) % 64 + ((plen n - 8 : Nat) : Int) + 8) % 64 = 0 := by unfold plen; omega
      have hbit : ∀ k : Nat, k < 8 → IntKind.u64.wrap ((n : Int) * 8) / 2 ^ (8 * k) % 256 = pbit n k := fun k _ => by
        unfold pbit
        rw [IntKind.wrap_u64, Int.mul_comm, Int.natCast_emod, Int.natCast_ediv, Int.natCast_emod, Int.natCast_mul, Int.natCast_pow]
        rfl
      have hget := pad_get n
      generalize hm : plen n - 8 = m at *
      go_wp2
      go_loopw [3, 5] (fun v i wr => ∃ k : Nat, k ≤ 8 ∧ i = .int .i64 (7 - (k : Int)) ∧ wr.ownsRow w.heap.size 5 1 v (m + k) (((padL n).take (m + k)).map (Value.int .u8)) ∧ Below w.heap.size w wr) (fun _ i _ => (intOf i + 1).toNat)
      case atStart => exact ⟨0, by omega, rfl, hown, hw⟩
      case round =>
        clear hown hw hd
        obtain ⟨k, hk, rfl, hown, hw⟩ := hrel
        obtain ⟨ao2, cap2, rfl⟩ := slen_own hown
        by_cases hlt : k < 8
        · obtain ⟨j, hj⟩ : ∃ j : Nat, 7 - (k : Int) = (j : Int) := ⟨7 - k, by omega⟩
          rw [hj]
          have hjk : k + j = 7 := by omega
          have hd : decide ((0 : Int) ≤ (j : Int)) = true := by simp
          have hb := hbit j (by omega)
          have hg := hget (m + k) (by omega)
          rw [if_neg (by omega), if_pos (by omega), show plen n - 1 - (m + k) = j by omega] at hg
          clear hbit hget
          have hown_ := hown.alloc (.cells #[.int .u8 (pbit n j)] 5)
          go_wp2_with (at_builtin; refine wpList_append_own _ rfl (.tmp 25) (.tmp 32) 29 rfl w.heap.size 5 i0 (.int .u8 0) 1 1 Tryd.underlying29 hi hz0 hz1 hz2 rfl (by decide) (.slice ao2 (m + k) cap2) (m + k) _ rfl hown_ ⟨wr.heap.size, 0, none⟩ 1 1 [.int .u8 (pbit n j)] rfl rfl (new_cell wr (pbit n j)) (by simp [Value.oneCell']) (by unfold maxLen; omega) (by omega) (by rw [size_alloc1]; exact Nat.le_succ_of_le hw.size) ?_)
          intro v' w2 hown2 hgrow _
          replace hw := (hw.alloc hw.size _).grown hgrow (by rw [size_alloc1]; exact Nat.le_succ_of_le hw.size) (fun k h => (hown_.lt k h).1)
          clear hown hown_ hgrow
          obtain ⟨ao', cap', rfl⟩ := slen_own hown2

          replace hown2 : w2.ownsRow w.heap.size 5 1 (.slice ao' (m + k + 1) cap') (m + k + 1) (((padL n).take (m + k + 1)).map (Value.int .u8)) := by
            rw [← take_next _ _ _ hg, List.map_append, List.map_take]; exact hown2
          clear hg hb
          go_wp2
          refine ⟨⟨k + 1, by omega, by rw [← hj]; congr 1; omega, hown2, hw⟩, ?_⟩
          simp [intOf]
        · obtain rfl : k = 8 := by omega
          have hd : decide ((0 : Int) ≤ 7 - (8 : Int)) = false := by decide
          have e8 : m + 8 = plen n := by omega
          have et : (padL n).take (m + 8) = padL n := by
            apply List.take_of_length_le
            unfold padL
            rw [padP_len]
            omega
          rw [et] at hown
          go_wp2
          go_ret
          exact ⟨_, rfl, by rw [← e8]; exact hown, hw⟩

end Go.Proofs.YtamieopjigjfiaaDoor


namespace Go.Proofs.YtamieopjigjfiaaDoor
set_option maxRecDepth 100000
open Go Go.RowKit Go.Sort
attribute [local go_sem] setCell_drewN alloc_drewN

/-- A slice that came in: its bytes, how many there may be, and no room behind nothing. -/
def BysN (W : World) (v : Value) (bs : List Int) : Prop := Bys W v bs ∧ bs.length ≤ 140737488351232 ∧ (∀ a l c, v = .slice a l c → a = none → c = 0)
theorem div_of {k n : Nat} (h : 64 * k ≤ n) (h2 : ¬ 64 * k + 64 ≤ n) : n / 64 = k := by omega
set_option maxRecDepth 100000 in
set_option maxHeartbeats 4000000 in
theorem r_fold (h bs : List Int) (hl : h.length = 8) (w : World) (v : Value) (hB : Bys w v bs) (hlim : bs.length ≤ 9223372036854775700) : Calls Tryd.prog 85 #[.agg (irow .u32 h), v] w fun e w' => e = .returned (.agg (irow .u32 (fol h bs (bs.length / 64)))) ∧ Below w.heap.size w w' := by
  have r0 := hp2_0 w (.cells (irow .u32 h) 71) (.cells (irow .u32 (zr 8)) 71)
  have r1 := hp2_1 w (.cells (irow .u32 h) 71) (.cells (irow .u32 (zr 8)) 71)
  have hw : Below w.heap.size w ((w.alloc (.cells (irow .u32 h) 71)).alloc (.cells (irow .u32 (zr 8)) 71)) := (((Below.refl _ _).alloc (Nat.le_refl _) _).alloc (by simp) _)

  obtain ⟨ao, cap, rfl, hl63, hc, hz⟩ := hB
  have hfl := fol_len hl bs
  generalize elen : bs.length = len at *
  go_enter Tryd.func85, Tryd.ntmps85
  go_wp2_with (first | (refine wpList_box rfl 71 _ rfl _ rfl (b23 _) ?_) | (refine wpList_alloc rfl 71 rfl (irow .u32 (zr 8)) z23 ?_) | fail)
  try simp only [size_alloc1, Act.put, List.setIfInBounds_toArray, List.set_cons_succ, List.set_cons_zero]
  generalize ((w.alloc (.cells (irow .u32 h) 71)).alloc (.cells (irow .u32 (zr 8)) 71)) = w0 at *
  go_loopw [5] (fun i wr => ∃ k : Nat, 64 * k ≤ len ∧ i = .int .i64 ((64 * k : Nat) : Int) ∧ wr.heap[w.heap.size]? = some (.cells (irow .u32 (fol h bs k)) 71 (0, 0)) ∧ wr.heap[w.heap.size + 1]? = some (.cells (irow .u32 (zr 8)) 71 (0, 0)) ∧ Below w.heap.size w wr) (fun i _ => len + 64 - (intOf i).toNat)
  case atStart => exact ⟨0, by omega, rfl, r0, r1, hw⟩
  case round =>
    clear r0 r1 hw
    obtain ⟨k, hk, rfl, r0, r1, hw⟩ := hrel
    have hq := hfl k
    by_cases hlt : 64 * k + 64 ≤ len
    · have hd : decide (((64 * k : Nat) : Int) + 64 ≤ (len : Int)) = true := by simp; omega
      have hcB := r_block (fol h bs k) (chunk bs k) hq (chunk_len bs k) (chunk_bd hz k)
      have hnext : fol h bs (k + 1) = blk (fol h bs k) (chunk bs k) := rfl
      have hch : prt (wat bs k) 64 = chunk bs k := rfl
      generalize ekk : 64 * k = kk at *
      go_wp2_with (first | (refine wpList_alloc rfl 68 rfl (irow .u8 (zr 64)) z24 ?_) | fail)
      have rx := hp1_0 wr (.cells (irow .u8 (zr 64)) 68)
      have hb : Below wr.heap.size wr (wr.alloc (.cells (irow .u8 (zr 64)) 68)) := (Below.refl _ _).alloc (Nat.le_refl _) _
      have yx := lt_of_row r1
      have yw := hw.size
      replace r0 := keep hb r0
      replace r1 := keep hb r1
      replace hw := Below.after hw hb
      clear hb
      try simp only [size_alloc1, Act.put, List.setIfInBounds_toArray, List.set_cons_succ, List.set_cons_zero]
      generalize wr.alloc (.cells (irow .u8 (zr 64)) 68) = w1 at *
      generalize wr.heap.size = gX at *
      rw [← prt_zero (wat bs k)] at rx
      go_loopw [7] (fun i wr => ∃ j : Nat, j ≤ 64 ∧ i = .int .i64 j ∧ wr.heap[gX]? = some (.cells (irow .u8 (prt (wat bs k) j)) 68 (0, 0)) ∧ wr.heap[w.heap.size]? = some (.cells (irow .u32 (fol h bs k)) 71 (0, 0)) ∧ wr.heap[w.heap.size + 1]? = some (.cells (irow .u32 (zr 8)) 71 (0, 0)) ∧ Below w.heap.size w wr) (fun i _ => 64 - (intOf i).toNat)
      case atStart => exact ⟨0, by omega, rfl, rx, r0, r1, hw⟩
      case round =>
        clear r0 r1 rx hw hd
        obtain ⟨j, hj, rfl, rx, r0, r1, hw⟩ := hrel
        by_cases hlj : j < 64
        · have hdj : decide ((j : Int) < 64) = true := by simp; omega
          obtain ⟨bb, off, rfl, hb1, hb2⟩ := hc (kk + j) (by omega)
          replace hb2 := (hw.cell (p := ⟨bb, off + (kk + j), none⟩) hb1).trans hb2
          have hset := prt_set (wat bs k) j hlj
          have hpl := prt_len (wat bs k) j
          have e : wat bs k j = bs.getD (kk + j) 0 := by unfold wat; rw [ekk]
          rw [e] at hset
          generalize bs.getD (kk + j) 0 = z at *
          have cz := irow_cell rx (j := j) (by omega)
          have hf := row_frozen rx j
          clear hc e hch hnext hcB
          replace hset := hide hset
          go_wp2
          refine ⟨⟨j + 1, by omega, by go_num, by rw [← hset.out]; exact irow_set rx j _, heap_other r0 (by omega), heap_other r1 (by omega), hw.setCell (show w.heap.size ≤ gX by omega) _⟩, ?_⟩
          simp [intOf]; omega
        · obtain rfl : j = 64 := by omega
          have hdj : decide ((64 : Int) < 64) = false := by decide
          rw [hch] at rx
          have hcl := chunk_len bs k
          clear hc hch
          go_wp2_with (first | (refine wpList_load_want rfl 71 _ rfl (w.heap.size) rfl 71 (irow .u32 (fol h bs k)) (0, 0) _ r0 Tryd.underlying71 rfl (info23 _ hq) ?_) | (refine wpList_load_want rfl 68 _ rfl (gX) rfl 68 (irow .u8 (chunk bs k)) (0, 0) _ rx Tryd.underlying68 rfl (info24 _ hcl) ?_) | fail)
          refine (hcB.at _).mono ?_
          rintro e_ w5 ⟨rfl, hb⟩
          replace r0 := keep hb r0
          replace r1 := keep hb r1
          replace hw := Below.after hw hb
          clear hb hcB
          have hbl := blk_len (fol h bs k) (chunk bs k)
          rw [← hnext] at hbl ⊢
          go_wp2_with (first | (refine wpList_store_row rfl 71 _ _ rfl (w.heap.size) (irow .u32 (fol h bs (k + 1))) rfl rfl 71 _ r0 (info23 _ hbl) (fit8 _ _ hq hbl) (irow_one _ _) ?_) | fail)
          refine ⟨⟨k + 1, by omega, by congr 1; omega, setRow_heap w5 (w.heap.size) _ _ _ _ r0, (setRow_other w5 (w.heap.size) (w.heap.size + 1) _ (by omega)).trans r1, below_setRow hw (Nat.le_refl _) _⟩, ?_⟩
          simp [intOf]; omega
    · have hd : decide (((64 * k : Nat) : Int) + 64 ≤ (len : Int)) = false := by simp; omega
      have ek := div_of hk hlt
      rw [← ek] at r0 hq
      go_wp2_with (first | (refine wpList_load_want rfl 71 _ rfl (w.heap.size) rfl 71 (irow .u32 (fol h bs (len / 64))) (0, 0) _ r0 Tryd.underlying71 rfl (info23 _ hq) ?_) | (refine wpList_store_row rfl 71 _ _ rfl (w.heap.size + 1) (irow .u32 (fol h bs (len / 64))) rfl rfl 71 _ r1 (info23 _ hq) (fit8 _ _ (zr_len 8) hq) (irow_one _ _) ?_) | fail)
      replace r1 := setRow_heap wr (w.heap.size + 1) _ (irow .u32 (fol h bs (len / 64))) _ _ r1
      replace hw := below_setRow hw (show w.heap.size ≤ w.heap.size + 1 by omega) (irow .u32 (fol h bs (len / 64)))
      generalize wr.setRow (w.heap.size + 1) (irow .u32 (fol h bs (len / 64))) = w9 at *
      exact bodyPost_ret (v := .agg (irow .u32 (fol h bs (len / 64)))) (results_cell_row Tryd.results85 _ _ (w.heap.size + 1) _ _ _ _ rfl r1 Tryd.underlying71 rfl (info23 _ hq)) rfl ⟨rfl, hw⟩
end Go.Proofs.YtamieopjigjfiaaDoor


namespace Go.Proofs.YtamieopjigjfiaaDoor
set_option maxRecDepth 100000
open Go Go.RowKit Go.Sort
attribute [local go_sem] setCell_drewN alloc_drewN

/-- The hash of bytes. -/
def sumW (bs : List Int) : List Int := fol sl (bs ++ padL bs.length) ((bs ++ padL bs.length).length / 64)
def sumL (bs : List Int) : List Int := byts (sumW bs)
theorem sumW_len (bs : List Int) : (sumW bs).length = 8 := fol_len rfl _ _
theorem sumW_bd (bs : List Int) : ∀ x ∈ sumW bs, 0 ≤ x ∧ x < 4294967296 := fol_bd sl_bd _ _
theorem sumL_len (bs : List Int) : (sumL bs).length = 32 := byts_len _
theorem padL_len (n : Nat) : (padL n).length = plen n := padP_len n 8
theorem bys_none {W : World} {ao : Option Addr} {cap : Nat} {bs : List Int} (hB : Bys W (.slice ao bs.length cap) bs) (hn : ∀ a l c, Value.slice ao bs.length cap = .slice a l c → a = none → c = 0) : ao = none → bs.length = 0 ∧ cap = 0 := by
  intro h
  refine ⟨?_, hn _ _ _ rfl h⟩
  obtain ⟨ao', cap', e, _, hc, _⟩ := hB
  cases e
  rcases Nat.eq_zero_or_pos bs.length with e | e
  · exact e
  · obtain ⟨b, off, e', _⟩ := hc 0 e
    rw [h] at e'; cases e'
theorem bys_cells {W : World} {ao : Option Addr} {cap : Nat} {bs : List Int} (hB : Bys W (.slice ao bs.length cap) bs) : ∀ ad, ao = some ad → ∀ j u, (bs.map (Value.int .u8))[j]? = some u → W.cell? (ad.add j) = some u := by
  obtain ⟨ao', cap', e, _, hc, _⟩ := hB
  cases e
  intro ad had j u hu
  have hj : j < bs.length := by have := (List.getElem?_eq_some_iff.1 hu).1; simpa using this
  obtain ⟨b, off, e', hb, hcl⟩ := hc j hj
  obtain rfl : ad = ⟨b, off, none⟩ := Option.some.inj (had.symm.trans e')
  have : u = .int .u8 (bs.getD j 0) := by
    simp only [List.getElem?_map, List.getElem?_eq_getElem hj, Option.map_some, Option.some.injEq] at hu
    rw [← hu, List.getD_eq_getElem?_getD, List.getElem?_eq_getElem hj]; rfl
  rw [this, addr_add]
  exact hcl
theorem Bys.of_own {W : World} {b n : Nat} {v : Value} {l : List Int} (h : W.ownsRow b 5 1 v n (l.map (Value.int .u8))) (hl : l.length ≤ 9223372036854775807) (hz : ∀ z ∈ l, 0 ≤ z ∧ z < 256) : Bys W v l := by
  obtain ⟨h1, ⟨rfl, rfl⟩ | ⟨g, cap, cur, rfl, hb, hg, hn, hm, hs, ht⟩⟩ := h
  · have : l = [] := List.eq_nil_of_length_eq_zero (by simpa using h1)
    subst this
    exact ⟨none, 0, rfl, by decide, fun j hj => by simp at hj, by simp⟩
  · have hln : l.length = n := by simpa using h1
    refine ⟨_, cap, by rw [hln], hl, fun j hj => ⟨g, 0, rfl, lt_of_row hg, ?_⟩, hz⟩
    rw [Nat.zero_add, cell_of_row _ _ _ _ _ _ hg]
    have h2 := congrArg (fun q => q[j]?) ht
    simp only [Nat.mul_one] at h2
    rw [List.getElem?_take_of_lt (by omega), List.getElem?_map, List.getElem?_eq_getElem hj] at h2
    rw [← Array.getElem?_toList, h2, List.getD_eq_getElem?_getD, List.getElem?_eq_getElem hj]
    rfl
theorem own_keep {W W' : World} {b n : Nat} {T : TypeId} {v : Value} {xs : List Value} (h : W.ownsRow b T 1 v n xs) (hb : Below W.heap.size W W') : W'.ownsRow b T 1 v n xs := by
  obtain ⟨h1, h2 | ⟨g, cap, cur, rfl, hb2, hg, h3⟩⟩ := h
  · exact ⟨h1, .inl h2⟩
  · exact ⟨h1, .inr ⟨g, cap, cur, rfl, hb2, keep hb hg, h3⟩⟩
theorem both_bd {a b : List Int} (ha : ∀ z ∈ a, 0 ≤ z ∧ z < 256) (hb : ∀ z ∈ b, 0 ≤ z ∧ z < 256) : ∀ z ∈ a ++ b, 0 ≤ z ∧ z < 256 := fun z hz => (List.mem_append.1 hz).elim (ha z) (hb z)
set_option maxRecDepth 100000 in
set_option maxHeartbeats 4000000 in
theorem r_sum (bs : List Int) (w : World) (v : Value) (hN : BysN w v bs) : Calls Tryd.prog 62 #[v] w fun e w' => e = .returned (.agg (irow .u8 (sumL bs))) ∧ Below w.heap.size w w' := by
  obtain ⟨hB, hlim, hnil⟩ := hN
  have r0 := hp1_0 w (.cells (irow .u8 (zr 32)) 23)
  have hw : Below w.heap.size w (w.alloc (.cells (irow .u8 (zr 32)) 23)) := ((Below.refl _ _).alloc (Nat.le_refl _) _)

  replace hB := hB.keep hw
  have hz := hB
  obtain ⟨ao, cap, rfl, _, _, hz⟩ := hz
  have hnone := bys_none hB hnil
  obtain ⟨i0, hi, hz0, hz1, hz2⟩ := info8
  have hpb := plen_bd bs.length
  have hpl := padL_len bs.length
  have cP := r_pad bs.length (by omega)
  clear hnil
  go_enter Tryd.func62, Tryd.ntmps62
  go_wp2_with (first | (refine wpList_alloc rfl 23 rfl (irow .u8 (zr 32)) zkey ?_) | (at_make; refine wpList_make_own _ rfl _ _ 29 rfl (w.heap.size + 1) 5 i0 (.int .u8 0) 1 Tryd.underlying29 hi hz0 hz1 _ _ _ (bs.length + 72) rfl rfl (by omega) (by rw [hz2]; omega) (by unfold maxLen; omega) (by rw [size_alloc1]; exact Nat.le_refl _) ?_) | fail)
  try simp only [size_alloc1]
  have ysz : (w.alloc (.cells (irow .u8 (zr 32)) 23)).heap.size = w.heap.size + 1 := size_alloc1 _ _
  generalize (w.alloc (.cells (irow .u8 (zr 32)) 23)) = w0 at *
  intro w1 hown hgr
  have hbel : Below w0.heap.size w0 w1 := (Below.refl _ _).grown hgr (Nat.le_refl _) (fun k h => by cases h)
  replace r0 := keep hbel r0
  replace hB := hB.keep hbel
  replace hw := Below.after hw hbel
  clear hbel hgr
  have hcell := bys_cells hB
  go_wp2_with (at_builtin; refine wpList_append_fits_any _ rfl (.tmp 8) (.tmp 9) 29 rfl (w.heap.size + 1) 5 i0 1 Tryd.underlying29 hi hz1 (w.heap.size + 1) 0 (bs.length + 72) [] rfl hown ao bs.length cap (bs.map (Value.int .u8)) rfl (by simp) hnone hcell (ints_one .u8 bs) (by omega) ?_)
  intro w2 hown2 hgr
  have lr0 := lt_of_row r0
  replace r0 : w2.heap[w.heap.size]? = _ := (hgr.block _ lr0 (by intro e; injection e with e; omega)).trans r0
  replace hw := hw.grown hgr hw.size (fun k h => by injection h with h; omega)
  clear hgr hcell hown hB hnone lr0
  go_wp2_with (fail)
  refine (cP w2).mono ?_
  rintro e_ w3 ⟨vp, rfl, hp, hb⟩
  replace r0 := keep hb r0
  replace hown2 := own_keep hown2 hb
  have hs2 := hw.size
  replace hw := Below.after hw hb
  clear hb cP
  obtain ⟨_, ⟨_, h0⟩ | ⟨gp, capp, curp, rfl, hgp, _⟩⟩ := id hp
  · omega
  have hcell := hp.cells (g := gp) rfl
  go_wp2_with (at_builtin; refine wpList_append_fits_any _ rfl (.tmp 11) (.tmp 15) 29 rfl (w.heap.size + 1) 5 i0 1 Tryd.underlying29 hi hz1 (w.heap.size + 1) bs.length (bs.length + 72) _ rfl hown2 (some ⟨gp, 0, none⟩) (plen bs.length) capp ((padL bs.length).map (Value.int .u8)) rfl (by simp [hpl]) (by intro h; cases h) (fun ad had => by cases had; exact hcell) (ints_one .u8 _) (by omega) ?_)
  intro w4 hown4 hgr
  have lr0 := lt_of_row r0
  replace r0 : w4.heap[w.heap.size]? = _ := (hgr.block _ lr0 (by intro e; injection e with e; omega)).trans r0
  replace hw := hw.grown hgr hw.size (fun k h => by injection h with h; omega)
  clear hgr hcell hown2 hp lr0
  have hwl : (bs ++ padL bs.length).length = bs.length + plen bs.length := by rw [List.length_append, hpl]
  have hbz := both_bd hz (padL_bd bs.length)
  rw [← List.map_append] at hown4
  have hBw := Bys.of_own hown4 (by omega) hbz
  clear hown4
  have hfin : sumL bs = byts (fol sl (bs ++ padL bs.length) ((bs ++ padL bs.length).length / 64)) := rfl
  have hFl : (fol sl (bs ++ padL bs.length) ((bs ++ padL bs.length).length / 64)).length = 8 := fol_len rfl _ _
  have cB := r_bytes _ hFl (fol_bd sl_bd (bs ++ padL bs.length) _)
  rw [← hfin] at cB
  have cF := fun (W : World) (x : Value) (h : Bys W x (bs ++ padL bs.length)) => r_fold sl (bs ++ padL bs.length) rfl W x h (by omega)
  generalize fol sl (bs ++ padL bs.length) ((bs ++ padL bs.length).length / 64) = FW at *
  clear hfin
  have hSl := sumL_len bs
  clear hpl hwl hbz hpb hFl
  go_wp2_with (fail)
  refine (r_start.at _).mono ?_
  rintro e_ w5 ⟨rfl, hb⟩
  replace r0 := keep hb r0
  replace hBw := hBw.keep hb
  replace hw := Below.after hw hb
  clear hb
  go_wp2_with (fail)
  refine (cF w5 _ hBw).mono ?_
  rintro e_ w6 ⟨rfl, hb⟩
  replace r0 := keep hb r0
  replace hw := Below.after hw hb
  clear hb hBw
  go_wp2_with (fail)
  refine (cB.at _).mono ?_
  rintro e_ w7 ⟨rfl, hb⟩
  replace r0 := keep hb r0
  replace hw := Below.after hw hb
  clear hb
  go_wp2_with (first | (refine wpList_store_row rfl 23 _ _ rfl (w.heap.size) (irow .u8 (sumL bs)) rfl rfl 23 _ r0 (infok8 _ hSl) (fit32 _ _ (zr_len 32) hSl) (irow_one _ _) ?_) | fail)
  replace r0 := setRow_heap w7 (w.heap.size) _ (irow .u8 (sumL bs)) _ _ r0
  replace hw := below_setRow hw (Nat.le_refl _) (irow .u8 (sumL bs))
  generalize w7.setRow (w.heap.size) (irow .u8 (sumL bs)) = w9 at *
  exact bodyPost_ret (v := .agg (irow .u8 (sumL bs))) (results_cell_row Tryd.results62 _ _ (w.heap.size) _ _ _ _ rfl r0 Tryd.underlying23 rfl (infok8 _ hSl)) rfl ⟨rfl, hw⟩

end Go.Proofs.YtamieopjigjfiaaDoor


namespace Go.Proofs.YtamieopjigjfiaaDoor
set_option maxRecDepth 100000
open Go Go.RowKit Go.Sort
attribute [local go_sem] setCell_drewN alloc_drewN

/-- An append whose row is either the old one or a new block. -/
theorem wpList_append_two {P : Program} (w : World) {ops : Array Oper} {rest : List Oper} {o : Oper} {a : Act} {Q : Exit → Act → World → Prop} (hgd : o.guard = none) (s x : Operand) (t : TypeId)
    (ho : o.op = .call { callee := .builtin .append, args := #[s, x], argTypes := #[t, t] })
    (base : Nat) (e : TypeId) (i : TypeInfo) (z : Value) (ht : P.underlying t = some (.slice e)) (hi : P.info? e = some i) (hz : i.zero = some z)
    (hsize : i.size = 1) (hby : i.bytes = 1) (hzs : z.cells.size = 1)
    (g n cap : Nat) (xs : List Value) (hs : a.eval s = .slice (some ⟨g, 0, none⟩) n cap) (hown : w.ownsRow base e 1 (.slice (some ⟨g, 0, none⟩) n cap) n xs)
    (ad : Addr) (m c : Nat) (news : List Value) (hx : a.eval x = .slice (some ad) m c) (hl : news.length = m * 1) (hnews : ∀ j u, news[j]? = some u → w.cell? (ad.add j) = some u) (h1 : ∀ u ∈ news, u.oneCell' = true)
    (h63 : n + m ≤ maxLen) (hbytes : (n + m) * 1 ≤ 140737488355328) (hbase : base ≤ w.heap.size)
    (h : ∀ g' cap' w', w'.ownsRow base e 1 (.slice (some ⟨g', 0, none⟩) (n + m) cap') (n + m) (xs ++ news) → w.grownBy w' (some g) → (g' = g ∨ g' = w.heap.size) → wpList P ops Q rest (a.put o.dst (.slice (some ⟨g', 0, none⟩) (n + m) cap')) w') : wpList P ops Q (o :: rest) a w := by
  refine wpList_plain hgd fun K hK => ?_
  obtain ⟨v', w', hr, h2, h3, _⟩ := run_append_own (P := P) w base t o.type e i z 1 1 ht hi hz hsize hby hzs (by decide) _ n xs hown ad m c news hl hnews h1 h63 hbytes hbase
  have key : ∃ g' cap', v' = .slice (some ⟨g', 0, none⟩) (n + m) cap' ∧ (g' = g ∨ g' = w.heap.size) := by
    rcases hown.2 with ⟨hv, _⟩ | ⟨g1, cap1, cur, hv, hbg, hg, hnc, hcm, hcs, htake⟩
    · cases hv
    · cases hv
      by_cases hroom : n + m ≤ cap
      · have hr2 := run_append_room (P := P) w t o.type e i ht hi g n cap cur hg ad m c news (by rw [hsize]; exact hl) hnews h1 hroom (by rw [hsize, hl, hcs]; omega)
        have := hr.symm.trans hr2
        injection this with e1 e2
        exact ⟨g, cap, e1, .inl rfl⟩
      · have holds : ∀ j u, xs[j]? = some u → w.cell? ((⟨g, 0, none⟩ : Addr).add j) = some u := hown.cells (g := g) rfl
        have hr2 := run_append_grow (P := P) w t o.type e i z ht hi hz ⟨g, 0, none⟩ n cap xs (by rw [hsize]; exact hown.1) holds ad m c news (by rw [hsize]; exact hl) hnews (by omega) (by simp only [maxLen] at h63; omega) (growslice_fits (by omega) (by rw [hby]; exact hbytes))
        have := hr.symm.trans hr2
        injection this with e1 e2
        exact ⟨_, _, e1, .inr rfl⟩
  obtain ⟨g', cap', rfl, hgg⟩ := key
  unfold Oper.wp execOp
  simp only [ho, resolve, invoke, builtin, Sem.run_bind, Sem.run_pure, Result.andThen_ok, List.map_toArray, List.map_cons, List.map_nil, hs, hx, hr]
  exact hK _ _ (h g' cap' w' h2 h3 hgg)
theorem grown_trans {a b c : World} {row : Option Nat} {g : Nat} (h : a.grownBy b (some g)) (h2 : b.grownBy c row) (hr : row = none ∨ row = some g ∨ ∃ k, row = some k ∧ a.heap.size ≤ k) : a.grownBy c (some g) := by
  refine ⟨h2.os.trans h.os, h2.tape.trans h.tape, h2.output.trans h.output, Nat.le_trans h.size h2.size, fun k hk hn => ?_⟩
  have h3 := h.size
  refine (h2.block k (by omega) ?_).trans (h.block k hk hn)
  rcases hr with rfl | rfl | ⟨q, rfl, hq⟩
  · simp
  · exact hn
  · intro e; injection e with e; omega
theorem grown_setCell {a b : World} {g j : Nat} {v : Value} (h : a.grownBy b (some g)) : a.grownBy (b.setCell ⟨g, j, none⟩ v) (some g) := by
  refine ⟨h.os, h.tape, h.output, ?_, fun k hk hn => ?_⟩
  · have e : (b.setCell ⟨g, j, none⟩ v).heap.size = b.heap.size := by simp [World.setCell]
    rw [e]; exact h.size
  · rw [heap_setCell_other b ⟨g, j, none⟩ k v (fun e => hn (by rw [e]))]
    exact h.block k hk hn
end Go.Proofs.YtamieopjigjfiaaDoor

