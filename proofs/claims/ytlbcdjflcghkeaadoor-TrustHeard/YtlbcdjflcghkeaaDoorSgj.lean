import Derived.Test.YtlbcdjflcghkeaaDoorProg
import Derived.WalkKit
import Derived.WalkSpells
import Derived.WalkLawsBesides
import Derived.Lib.QuietBelow
import Derived.BigQuiet
import Derived.Test.YtlbcdjflcghkeaaDoorKa
import Derived.Test.YtlbcdjflcghkeaaDoorAa6
import Derived.Test.YtlbcdjflcghkeaaDoorSgh
namespace Go.Proofs.YtlbcdjflcghkeaaDoor
set_option maxRecDepth 100000
open Go Go.RowKit Go.Sort
attribute [local go_sem] setCell_drewN alloc_drewN

/-- Words added, the first k of eight. -/
def sums (h e : List Int) (k : Nat) : List Int := (List.range 8).map fun j => if j < k then (h.getD j 0 + e.getD j 0) % 4294967296 else h.getD j 0
theorem sums_len (h e : List Int) (k : Nat) : (sums h e k).length = 8 := by simp [sums]
theorem sums_zero (h e : List Int) (hl : h.length = 8) : sums h e 0 = h := by
  apply List.ext_getElem
  · rw [sums_len, hl]
  · intro i h1 h2
    simp [sums, h2]
theorem sums_get (h e : List Int) (k : Nat) (hk : k < 8) : (sums h e k).getD k 0 = h.getD k 0 := by
  simp [sums, List.getD_eq_getElem?_getD, hk]
theorem sums_set (h e : List Int) (k : Nat) (hk : k < 8) : (sums h e k).set k ((h.getD k 0 + e.getD k 0) % 4294967296) = sums h e (k + 1) := by
  apply List.ext_getElem?
  intro j
  rw [List.getElem?_set]
  by_cases c : k = j
  · subst c
    rw [if_pos rfl, if_pos (by rw [sums_len]; exact hk)]
    simp [sums, hk]
  · rw [if_neg c]
    simp only [sums, List.getElem?_map]
    by_cases hj : j < 8
    · simp only [List.getElem?_range hj, Option.map_some]
      by_cases h1 : j < k
      · rw [if_pos h1, if_pos (by omega)]
      · rw [if_neg h1, if_neg (by omega)]
    · rw [List.getElem?_eq_none (by simp; omega)]; rfl
/-- What a block comes to. -/
def blk (h b : List Int) : List Int := sums h (rs h (wds b) 64).list 8
theorem blk_len (h b : List Int) : (blk h b).length = 8 := sums_len _ _ _
theorem sums_bd (h e : List Int) (x : Int) (hx : x ∈ sums h e 8) : 0 ≤ x ∧ x < 4294967296 := by
  simp only [sums, List.mem_map, List.mem_range] at hx
  obtain ⟨j, hj, rfl⟩ := hx
  rw [if_pos hj]
  omega
theorem info23 (l : List Int) (hl : l.length = 8) : (Tryd.prog.info? 112).map (·.size) = some (irow .u32 l).size := by
  rw [irow_size, hl]; kernel_rfl
theorem info24 (l : List Int) (hl : l.length = 64) : (Tryd.prog.info? 113).map (·.size) = some (irow .u8 l).size := by
  rw [irow_size, hl]; kernel_rfl
theorem fit8 (l m : List Int) (hl : l.length = 8) (hm : m.length = 8) : (irow .u32 l).size = (irow .u32 m).size := by
  rw [irow_size, irow_size, hl, hm]
theorem fit64 (l m : List Int) (hl : l.length = 64) (hm : m.length = 64) : (irow .u8 l).size = (irow .u8 m).size := by
  rw [irow_size, irow_size, hl, hm]
theorem list_len (s : St8) : s.list.length = 8 := rfl
set_option maxRecDepth 100000 in
set_option maxHeartbeats 4000000 in
theorem a_block (h b : List Int) (hl : h.length = 8) (hb : b.length = 64) (hz : ∀ z ∈ b, 0 ≤ z ∧ z < 256) : Gives1 68 #[.agg (irow .u32 h), .agg (irow .u8 b)] (.agg (irow .u32 (blk h b))) := by
  intro w hK
  have cS := a_spread b hb hz
  have cM := a_mixed h hl (wds b)
  have ib := info24 b hb
  clear hz
  have r0 := hp3_0 w (.cells (irow .u32 h) 112) (.cells (irow .u8 b) 113) (.cells (irow .u32 (zr 8)) 112)
  have r1 := hp3_1 w (.cells (irow .u32 h) 112) (.cells (irow .u8 b) 113) (.cells (irow .u32 (zr 8)) 112)
  have r2 := hp3_2 w (.cells (irow .u32 h) 112) (.cells (irow .u8 b) 113) (.cells (irow .u32 (zr 8)) 112)
  have hw : Below w.heap.size w (((w.alloc (.cells (irow .u32 h) 112)).alloc (.cells (irow .u8 b) 113)).alloc (.cells (irow .u32 (zr 8)) 112)) := ((((Below.refl _ _).alloc (Nat.le_refl _) _).alloc (by simp) _).alloc (by simp; omega) _)

  have f4 := hK.below hw
  clear hK
  go_enter Tryd.func68, Tryd.ntmps68
  go_wp2_with (first | (refine wpList_box rfl 112 _ rfl _ rfl (b23 _) ?_) | (refine wpList_box rfl 113 _ rfl _ rfl (b24 _) ?_) | (refine wpList_alloc rfl 112 rfl (irow .u32 (zr 8)) z23 ?_) | fail)
  simp only [size_alloc1, Act.put, List.setIfInBounds_toArray, List.set_cons_succ, List.set_cons_zero]
  generalize (((w.alloc (.cells (irow .u32 h) 112)).alloc (.cells (irow .u8 b) 113)).alloc (.cells (irow .u32 (zr 8)) 112)) = w0 at *
  have hfin : blk h b = sums h (rs h (wds b) 64).list 8 := rfl
  have he := list_len (rs h (wds b) 64)
  generalize (rs h (wds b) 64).list = e at *
  refine wp_region_alloc_ex 4 5 [5] (fun _ => .cells (irow .u32 (zr 8)) 112 (0, 0)) (by kernel_rfl) (by decide) (by decide) (by kernel_rfl) (by kernel_rfl) (by kernel_rfl) (by kernel_rfl) (by kernel_rfl) (by kernel_rfl) (by kernel_rfl) (by kernel_rfl) (by decide) (by decide) ?_ ?_
  · intro s l u
    obtain rfl : s = 4 := by omega
    exact ⟨_, _, rfl, rfl, rfl, rfl, fun a w => by kernel_rfl⟩
  apply Exists.intro
  constructor
  · intro v_ hb
    have Hr0 := keepr (keep hb r0)
    have Hr1 := keepr (keep hb r1)
    have Hr2 := keepr (keep hb r2)
    have F4 := f4.below hb
    clear hb; dsimp only [List.take]
    refine wpQuiet_load_row rfl 112 _ rfl (w.heap.size) rfl 112 (irow .u32 h) (0, 0) _ Hr0.out Tryd.underlying112 rfl (info23 _ hl) ?_
    simp only [Act.put, List.setIfInBounds_toArray, List.set_cons_succ, List.set_cons_zero]
    refine wpQuiet_load_row rfl 113 _ rfl (w.heap.size + 1) rfl 113 (irow .u8 b) (0, 0) _ Hr1.out Tryd.underlying113 rfl ib ?_
    simp only [Act.put, List.setIfInBounds_toArray, List.set_cons_succ, List.set_cons_zero]
    go_big_quiet_step (exact cS.re)
    go_big_quiet_step (exact cM.re F4)
    refine wpQuiet_nil ?_
    rfl
  intro w1 g_ hb hg hd_
  obtain ⟨lg, rg⟩ := hg 5 (by simp)
  replace rg : w1.heap[g_ 5]? = some (.cells (irow .u32 (zr 8)) 112 (0, 0)) := rg
  simp only [List.drop, puts, ptrs, List.map, List.foldl, Act.put, List.setIfInBounds_toArray, List.set_cons_succ, List.set_cons_zero]
  clear hg hd_
  generalize g_ 5 = gE at *
  have lr0 := lt_of_row r0
  have lr1 := lt_of_row r1
  have lr2 := lt_of_row r2
  have hs := hw.size
  replace r0 := keep hb r0
  replace r1 := keep hb r1
  replace r2 := keep hb r2
  have hz_ := f4.sz
  replace f4 := f4.below hb
  replace hw := Below.after hw hb
  clear hb

  refine wpList_store_row rfl 112 _ _ rfl (gE) (irow .u32 e) rfl rfl 112 _ rg (info23 _ he) (fit8 _ _ (zr_len 8) he) (irow_one _ _) ?_
  simp only [Act.put]
  replace r0 := (setRow_other w1 (gE) (w.heap.size) (irow .u32 e) (by omega)).trans r0
  replace r1 := (setRow_other w1 (gE) (w.heap.size + 1) (irow .u32 e) (by omega)).trans r1
  replace r2 := (setRow_other w1 (gE) (w.heap.size + 1 + 1) (irow .u32 e) (by omega)).trans r2
  replace rg := setRow_heap w1 (gE) _ (irow .u32 e) _ _ rg
  replace hw := below_setRow hw (show w.heap.size ≤ gE by omega) (irow .u32 e)
  replace f4 := f4.belowN (n := 3) (by omega) (below_setRow (Below.refl _ _) (show 3 ≤ gE by omega) (irow .u32 e))
  generalize w1.setRow (gE) (irow .u32 e) = w2 at *

  have y0 : w.heap.size + 1 + 1 < gE := by omega
  clear hs hz_ lr0 lr1 lr2 lg r1 f4 cS cM
  rw [← sums_zero h e hl] at r0
  go_wp2
  go_loopw [11] (fun i wr => ∃ k : Nat, k ≤ 8 ∧ i = .int .i64 k ∧ wr.heap[w.heap.size]? = some (.cells (irow .u32 (sums h e k)) 112 (0, 0)) ∧ wr.heap[w.heap.size + 1 + 1]? = some (.cells (irow .u32 (zr 8)) 112 (0, 0)) ∧ wr.heap[gE]? = some (.cells (irow .u32 e) 112 (0, 0)) ∧ Below w.heap.size w wr) (fun i _ => 8 - (intOf i).toNat)
  case atStart => exact ⟨0, by omega, rfl, r0, r2, rg, hw⟩
  case round =>
    clear r0 r2 rg hw
    obtain ⟨k, hk, rfl, r0, r2, rg, hw⟩ := hrel
    by_cases hlt : k < 8
    · have hd : decide ((k : Int) < 8) = true := by simp; omega
      have dh := irow_cell r0 (j := k) (by rw [sums_len]; exact hlt)
      have de := irow_cell rg (j := k) (by rw [he]; exact hlt)
      rw [sums_get _ _ _ hlt] at dh
      have hset := sums_set h e k hlt
      have hpl := sums_len h e k
      generalize h.getD k 0 = x at *
      generalize e.getD k 0 = y at *
      replace hset := hide hset
      go_wp2
      have k0 : ∀ p : Regrown, (grow (redrawn wr p.d) p.os).cell? ⟨w.heap.size, k, none⟩ = some (.int .u32 x) := fun p => cell_regrown (dh) p.d p.os
      have k1 : ∀ p : Regrown, (grow (redrawn wr p.d) p.os).cell? ⟨gE, k, none⟩ = some (.int .u32 y) := fun p => cell_regrown (de) p.d p.os
      refine wp_region_tail (C := fun w' => ∃ p : Regrown, w' = grow (redrawn wr p.d) p.os) 8 _ rfl rfl rfl (by kernel_rfl) (by kernel_rfl) (by kernel_rfl) (by kernel_rfl) ⟨⟨wr.drawn + 1, #[]⟩, by rw [grow_empty]; rfl⟩ ?_
      dsimp only [List.set, idle]
      go_big_quiet_step (fail)
      go_big_quiet_step (fail)
      go_big_quiet_step (fail)
      go_big_quiet_step (fail)
      go_big_quiet_step (fail)
      go_big_quiet_step (fail)
      go_big_quiet_step (fail)
      go_big_quiet_step (fail)
      refine wpQuiet_idle rfl rfl rfl ?_
      rintro _ ⟨p, rfl⟩
      have hb := below_regrown wr p.d p.os
      generalize grow (redrawn wr p.d) p.os = w3 at *
      clear k0 k1
      replace r0 := keep hb r0
      replace r2 := keep hb r2
      replace rg := keep hb rg
      replace hw := Below.after hw hb
      clear hb

      have cz := irow_cell r0 (j := k) (by omega)
      have hf := row_frozen r0 k
      clear dh de
      go_wp2
      go_roundw
      case rel => exact ⟨k + 1, by omega, by go_num, by rw [← hset.out]; exact irow_set r0 k _, heap_other r2 (by omega), heap_other rg (by omega), hw.setCell (show w.heap.size ≤ w.heap.size by omega) _⟩
      case measure => simp [intOf]; omega
    · obtain rfl : k = 8 := by omega
      have hd : decide ((8 : Int) < 8) = false := by decide
      have hq := sums_len h e 8
      rw [← hfin] at r0 hq
      go_wp2_with (first | (refine wpList_load_want rfl 112 _ rfl (w.heap.size) rfl 112 (irow .u32 (blk h b)) (0, 0) _ r0 Tryd.underlying112 rfl (info23 _ hq) ?_) | (refine wpList_store_row rfl 112 _ _ rfl (w.heap.size + 1 + 1) (irow .u32 (blk h b)) rfl rfl 112 _ r2 (info23 _ hq) (fit8 _ _ (zr_len 8) hq) (irow_one _ _) ?_) | fail)
      replace r2 := setRow_heap wr (w.heap.size + 1 + 1) _ (irow .u32 (blk h b)) _ _ r2
      replace hw := below_setRow hw (show w.heap.size ≤ w.heap.size + 1 + 1 by omega) (irow .u32 (blk h b))
      generalize wr.setRow (w.heap.size + 1 + 1) (irow .u32 (blk h b)) = w9 at *
      exact bodyPost_ret (v := .agg (irow .u32 (blk h b))) (results_cell_row Tryd.results68 _ _ (w.heap.size + 1 + 1) _ _ _ _ rfl r2 Tryd.underlying112 rfl (info23 _ hq)) rfl ⟨rfl, hw⟩

end Go.Proofs.YtlbcdjflcghkeaaDoor


namespace Go.Proofs.YtlbcdjflcghkeaaDoor
set_option maxRecDepth 100000
open Go Go.RowKit Go.Sort
attribute [local go_sem] setCell_drewN alloc_drewN

/-- The first t of thirty-two, then zeros. -/
def pr32 (W : Nat → Int) (t : Nat) : List Int := (List.range 32).map fun j => if j < t then W j else 0
theorem pr32_len (W : Nat → Int) (t : Nat) : (pr32 W t).length = 32 := by simp [pr32]
theorem pr32_set (W : Nat → Int) (t : Nat) (h : t < 32) : (pr32 W t).set t (W t) = pr32 W (t + 1) := by
  apply List.ext_getElem?
  intro j
  rw [List.getElem?_set]
  by_cases e : t = j
  · subst e
    rw [if_pos rfl, if_pos (by rw [pr32_len]; exact h)]
    simp [pr32, h]
  · rw [if_neg e]
    simp only [pr32, List.getElem?_map]
    by_cases hj : j < 32
    · simp only [List.getElem?_range hj, Option.map_some]
      by_cases h1 : j < t
      · rw [if_pos h1, if_pos (by omega)]
      · rw [if_neg h1, if_neg (by omega)]
    · rw [List.getElem?_eq_none (by simp; omega)]; rfl
theorem pr32_zero (W : Nat → Int) : pr32 W 0 = zr 32 := rfl
/-- The bytes of words. -/
def bte (h : List Int) (j : Nat) : Int := h.getD (j / 4) 0 / 2 ^ (24 - 8 * (j % 4)) % 256
def byts (h : List Int) : List Int := pr32 (bte h) 32
theorem byts_len (h : List Int) : (byts h).length = 32 := pr32_len _ _
theorem byts_bd (h : List Int) : ∀ z ∈ byts h, 0 ≤ z ∧ z < 256 := by
  intro z hz
  simp only [byts, pr32, List.mem_map, List.mem_range] at hz
  obtain ⟨j, hj, rfl⟩ := hz
  rw [if_pos hj]
  unfold bte
  omega
theorem infok8 (l : List Int) (hl : l.length = 32) : (Tryd.prog.info? 23).map (·.size) = some (irow .u8 l).size := by
  rw [irow_size, hl]; kernel_rfl
theorem fit32 (l m : List Int) (hl : l.length = 32) (hm : m.length = 32) : (irow .u8 l).size = (irow .u8 m).size := by
  rw [irow_size, irow_size, hl, hm]
theorem slice_key (g k : Nat) (hk : k < 8) (W : World) : (Instr.sliceAt 23 (.pointer (some ⟨g, 0, none⟩)) (some (.int .i64 (4 * (k : Int)))) none none).run Tryd.prog W = .ok (.slice (some ⟨g, 4 * k, none⟩) (32 - 4 * k) (32 - 4 * k)) W := by
  have ht : Tryd.prog.underlying 23 = some (.array (Tryd.prog.arrayLen 23) (Tryd.prog.elem 23)) := by kernel_rfl
  have hn : Tryd.prog.arrayLen 23 = 32 := by kernel_rfl
  have hs : (sizeOf (Tryd.prog.elem 23)).run Tryd.prog W = .ok 1 W := by kernel_rfl
  rw [run_sliceAt_array_l W _ _ ht .i64 _ (by omega) (by rw [hn]; omega), hs]
  show Result.ok (slicedAt _ _ _ _ 1) W = _
  have e1 : (4 * (k : Int)).toNat = 4 * k := by omega
  rw [e1, hn, slicedAt, if_neg (by omega), addr_add]
  simp
theorem pr32_four (h : List Int) (k : Nat) (hk : k < 8) : pr32 (bte h) (4 * (k + 1)) = (pr32 (bte h) (4 * k)).take (4 * k) ++ [bte h (4 * k), bte h (4 * k + 1), bte h (4 * k + 2), bte h (4 * k + 3)] ++ (pr32 (bte h) (4 * k)).drop (4 * k + 4) := by
  rw [show 4 * (k + 1) = 4 * k + 3 + 1 by omega, ← pr32_set _ _ (by omega), show 4 * k + 3 = 4 * k + 2 + 1 by omega, ← pr32_set _ _ (by omega), show 4 * k + 2 = 4 * k + 1 + 1 by omega, ← pr32_set _ _ (by omega), ← pr32_set _ _ (by omega)]
  have hl := pr32_len (bte h) (4 * k)
  generalize pr32 (bte h) (4 * k) = l at *
  apply List.ext_getElem?
  intro j
  simp only [List.getElem?_set, List.length_set, hl]
  by_cases h1 : j < 4 * k
  · rw [if_neg (by omega), if_neg (by omega), if_neg (by omega), if_neg (by omega), List.append_assoc, List.getElem?_append_left (by simp; omega), List.getElem?_take_of_lt h1]
  · by_cases h2 : j < 4 * k + 4
    · rw [List.getElem?_append_left (by simp; omega), List.getElem?_append_right (by simp; omega)]
      have e : (l.take (4 * k)).length = 4 * k := by simp; omega
      rw [e]
      rcases (by omega : j = 4 * k ∨ j = 4 * k + 1 ∨ j = 4 * k + 2 ∨ j = 4 * k + 3) with rfl | rfl | rfl | rfl
      · rw [if_neg (by omega), if_neg (by omega), if_neg (by omega), if_pos rfl, if_pos (by omega)]; simp
      · rw [if_neg (by omega), if_neg (by omega), if_pos rfl, if_pos (by omega)]; simp
      · rw [if_neg (by omega), if_pos (by omega), if_pos (by omega)]; simp
      · rw [if_pos (by omega), if_pos (by omega)]; simp
    · rw [if_neg (by omega), if_neg (by omega), if_neg (by omega), if_neg (by omega), List.getElem?_append_right (by simp; omega), List.getElem?_drop]
      congr 1
      simp
      omega
theorem copy_irow {W : World} {g o dLen dCap b off m cap : Nat} {l c : List Int} {t : TypeId} (hg : W.heap[g]? = some (.cells (irow .u8 l) t (0, 0))) (hc : ∀ j, j < c.length → W.cell? ⟨b, off + j, none⟩ = some (.int .u8 (c.getD j 0))) (hn : c.length = Nat.min m dLen) (hfit : o + c.length ≤ l.length) :
    (Builtin.copy_ #[67, 67] 3 #[.slice (some ⟨g, o, none⟩) dLen dCap, .slice (some ⟨b, off, none⟩) m cap]).run Tryd.prog W = .ok (goInt c.length) (W.setRow g (irow .u8 (l.take o ++ c ++ l.drop (o + c.length)))) := by
  have hsrc : ∀ j u, (c.map (Value.int .u8))[j]? = some u → W.cell? ((⟨b, off, none⟩ : Addr).add j) = some u := by
    intro j u hu
    have hj : j < c.length := by have := (List.getElem?_eq_some_iff.1 hu).1; simpa using this
    have : u = .int .u8 (c.getD j 0) := by
      simp only [List.getElem?_map, List.getElem?_eq_getElem hj, Option.map_some, Option.some.injEq] at hu
      rw [← hu, List.getD_eq_getElem?_getD, List.getElem?_eq_getElem hj]; rfl
    rw [this, addr_add]
    exact hc j hj
  have hrun := run_copy_row (P := Tryd.prog) W 67 67 3 5 g o dLen dCap ⟨b, off, none⟩ m cap (irow .u8 l) t (c.map (Value.int .u8)) Tryd.underlying67 (by kernel_rfl) hg (by rw [List.length_map]; exact hn) hsrc (by rw [irow_size, List.length_map]; exact hfit) (ints_one .u8 c)
  rw [List.length_map] at hrun
  rw [hrun]
  congr 2
  apply Array.ext'
  simp [irow, List.map_take, List.map_drop]
theorem index23 (h : List Int) (hl : h.length = 8) (k : Nat) (hk : k < 8) (W : World) : (Instr.index 112 (.agg (irow .u32 h)) (.int .i64 (k : Int))).run Tryd.prog W = .ok (.int .u32 (h.getD k 0)) W := by
  obtain ⟨i0, hi⟩ : ∃ i, Tryd.prog.info? 111 = some i := ⟨_, rfl⟩
  have hs : (sizeOf 111).run Tryd.prog W = .ok 1 W := by kernel_rfl
  have hp := run_part_int (P := Tryd.prog) W Tryd.underlying111 hi h k (by omega)
  have e : h.getD k 0 = h[k]'(by omega) := by simp [List.getD_eq_getElem?_getD, List.getElem?_eq_getElem (show k < h.length by omega)]
  rw [e]
  unfold Instr.index
  have h2 : (0 : Int) ≤ (k : Int) ∧ (k : Int) < ((8 : Nat) : Int) := by omega
  simp only [asIntOf, Sem.run_bind, Sem.run_pure, Result.andThen_ok, run_underlying Tryd.underlying112 W, if_pos h2, hs, Int.toNat_natCast, Nat.mul_one]
  exact hp
set_option maxRecDepth 100000 in
set_option maxHeartbeats 4000000 in
theorem a_told (h : List Int) (hl : h.length = 8) (hz : ∀ x ∈ h, 0 ≤ x ∧ x < 4294967296) : Gives 70 #[.agg (irow .u32 h)] (.agg (irow .u8 (byts h))) := by
  intro w
  have r0 := hp3_0 w (.cells (irow .u32 h) 112) (.cells (irow .u8 (zr 32)) 23) (.cells (irow .u8 (zr 32)) 23)
  have r1 := hp3_1 w (.cells (irow .u32 h) 112) (.cells (irow .u8 (zr 32)) 23) (.cells (irow .u8 (zr 32)) 23)
  have r2 := hp3_2 w (.cells (irow .u32 h) 112) (.cells (irow .u8 (zr 32)) 23) (.cells (irow .u8 (zr 32)) 23)
  have hw : Below w.heap.size w (((w.alloc (.cells (irow .u32 h) 112)).alloc (.cells (irow .u8 (zr 32)) 23)).alloc (.cells (irow .u8 (zr 32)) 23)) := ((((Below.refl _ _).alloc (Nat.le_refl _) _).alloc (by simp) _).alloc (by simp; omega) _)

  go_enter Tryd.func70, Tryd.ntmps70
  go_wp2_with (first | (refine wpList_box rfl 112 _ rfl _ rfl (b23 _) ?_) | (refine wpList_alloc rfl 23 rfl (irow .u8 (zr 32)) zkey ?_) | (refine wpList_load_want rfl 112 _ rfl (w.heap.size) rfl 112 (irow .u32 h) (0, 0) _ r0 Tryd.underlying112 rfl (info23 _ hl) ?_) | fail)
  try simp only [size_alloc1, Act.put, List.setIfInBounds_toArray, List.set_cons_succ, List.set_cons_zero]
  generalize (((w.alloc (.cells (irow .u32 h) 112)).alloc (.cells (irow .u8 (zr 32)) 23)).alloc (.cells (irow .u8 (zr 32)) 23)) = w0 at *
  rw [← pr32_zero (bte h)] at r2
  go_loopw [7] (fun i wr => ∃ k : Nat, k ≤ 8 ∧ i = .int .i64 k ∧ wr.heap[w.heap.size]? = some (.cells (irow .u32 h) 112 (0, 0)) ∧ wr.heap[w.heap.size + 1]? = some (.cells (irow .u8 (zr 32)) 23 (0, 0)) ∧ wr.heap[w.heap.size + 1 + 1]? = some (.cells (irow .u8 (pr32 (bte h) (4 * k))) 23 (0, 0)) ∧ Below w.heap.size w wr) (fun i _ => 8 - (intOf i).toNat)
  case atStart => exact ⟨0, by omega, rfl, r0, r1, r2, hw⟩
  case round =>
    clear r0 r1 r2 hw
    obtain ⟨k, hk, rfl, r0, r1, r2, hw⟩ := hrel
    by_cases hlt : k < 8
    · have hd : decide ((k : Int) < 8) = true := by simp; omega
      have hb : 0 ≤ h.getD k 0 ∧ h.getD k 0 < 4294967296 := by
        apply hz
        rw [List.getD_eq_getElem?_getD, List.getElem?_eq_getElem (by omega)]
        exact List.getElem_mem _
      have hsl := slice_key (w.heap.size + 1 + 1) k hlt
      have hix := index23 h hl k hlt
      have e0 : bte h (4 * k) = h.getD k 0 / 16777216 := by unfold bte; rw [show 4 * k / 4 = k by omega, show 4 * k % 4 = 0 by omega]; show h.getD k 0 / 16777216 % 256 = _; omega
      have e1 : bte h (4 * k + 1) = h.getD k 0 / 65536 % 256 := by unfold bte; rw [show (4 * k + 1) / 4 = k by omega, show (4 * k + 1) % 4 = 1 by omega]; rfl
      have e2 : bte h (4 * k + 2) = h.getD k 0 / 256 % 256 := by unfold bte; rw [show (4 * k + 2) / 4 = k by omega, show (4 * k + 2) % 4 = 2 by omega]; rfl
      have e3 : bte h (4 * k + 3) = h.getD k 0 % 256 := by unfold bte; rw [show (4 * k + 3) / 4 = k by omega, show (4 * k + 3) % 4 = 3 by omega]; simp
      have h4 := pr32_four h k hlt
      rw [e0, e1, e2, e3] at h4
      clear e0 e1 e2 e3
      have hpl := pr32_len (bte h) (4 * k)
      generalize h.getD k 0 = x at *
      generalize hnx : pr32 (bte h) (4 * (k + 1)) = nxt at *
      replace hnx := hide hnx
      have hc : (Builtin.copy_ #[67, 67] 3 #[.slice (some ⟨w.heap.size + 1 + 1, 4 * k, none⟩) (32 - 4 * k) (32 - 4 * k), .slice (some ⟨wr.heap.size, 0, none⟩) 4 4]).run Tryd.prog (wr.alloc (.cells #[.int .u8 (x / 16777216), .int .u8 (x / 65536 % 256), .int .u8 (x / 256 % 256), .int .u8 (x % 256)] 5)) = .ok (goInt 4) ((wr.alloc (.cells #[.int .u8 (x / 16777216), .int .u8 (x / 65536 % 256), .int .u8 (x / 256 % 256), .int .u8 (x % 256)] 5)).setRow (w.heap.size + 1 + 1) (irow .u8 nxt)) := by
        have hn := hp1_0 wr (.cells (irow .u8 [x / 16777216, x / 65536 % 256, x / 256 % 256, x % 256]) 5)
        have hB : Below wr.heap.size wr (wr.alloc (.cells (irow .u8 [x / 16777216, x / 65536 % 256, x / 256 % 256, x % 256]) 5)) := (Below.refl _ _).alloc (Nat.le_refl _) _
        have := copy_irow (dLen := 32 - 4 * k) (dCap := 32 - 4 * k) (o := 4 * k) (m := 4) (cap := 4) (off := 0) (c := [x / 16777216, x / 65536 % 256, x / 256 % 256, x % 256]) (keep hB r2) (fun j hj => by rw [Nat.zero_add]; exact irow_cell hn hj) (show 4 = Nat.min 4 (32 - 4 * k) from (Nat.min_eq_left (by omega)).symm) (show 4 * k + 4 ≤ _ by omega)
        rw [h4]
        exact this
      replace h4 := hide h4
      have hB : Below wr.heap.size wr (wr.alloc (.cells #[.int .u8 (x / 16777216), .int .u8 (x / 65536 % 256), .int .u8 (x / 256 % 256), .int .u8 (x % 256)] 5)) := (Below.refl _ _).alloc (Nat.le_refl _) _
      go_wp2
      replace r0 := keep hB r0
      replace r1 := keep hB r1
      replace r2 := keep hB r2
      replace hw := Below.after hw hB
      clear hc hB
      generalize wr.alloc (.cells #[.int .u8 (x / 16777216), .int .u8 (x / 65536 % 256), .int .u8 (x / 256 % 256), .int .u8 (x % 256)] 5) = w5 at *
      refine ⟨⟨k + 1, by omega, by go_num, (setRow_other w5 (w.heap.size + 1 + 1) (w.heap.size) _ (by omega)).trans r0, (setRow_other w5 (w.heap.size + 1 + 1) (w.heap.size + 1) _ (by omega)).trans r1, by rw [hnx.out]; exact setRow_heap w5 (w.heap.size + 1 + 1) _ _ _ _ r2, below_setRow hw (show w.heap.size ≤ w.heap.size + 1 + 1 by omega) _⟩, ?_⟩
      simp [intOf]; omega
    · obtain rfl : k = 8 := by omega
      have hd : decide ((8 : Int) < 8) = false := by decide
      have hq := byts_len h
      go_wp2_with (first | (refine wpList_load_want rfl 23 _ rfl (w.heap.size + 1 + 1) rfl 23 (irow .u8 (byts h)) (0, 0) _ r2 Tryd.underlying23 rfl (infok8 _ hq) ?_) | (refine wpList_store_row rfl 23 _ _ rfl (w.heap.size + 1) (irow .u8 (byts h)) rfl rfl 23 _ r1 (infok8 _ hq) (fit32 _ _ (zr_len 32) hq) (irow_one _ _) ?_) | fail)
      replace r1 := setRow_heap wr (w.heap.size + 1) _ (irow .u8 (byts h)) _ _ r1
      replace hw := below_setRow hw (show w.heap.size ≤ w.heap.size + 1 by omega) (irow .u8 (byts h))
      generalize wr.setRow (w.heap.size + 1) (irow .u8 (byts h)) = w9 at *
      exact bodyPost_ret (v := .agg (irow .u8 (byts h))) (results_cell_row Tryd.results70 _ _ (w.heap.size + 1) _ _ _ _ rfl r1 Tryd.underlying23 rfl (infok8 _ hq)) rfl ⟨rfl, hw⟩

end Go.Proofs.YtlbcdjflcghkeaaDoor


namespace Go.Proofs.YtlbcdjflcghkeaaDoor
set_option maxRecDepth 100000
open Go Go.RowKit Go.Sort
attribute [local go_sem] setCell_drewN alloc_drewN

/-- How long the padding is; what it is, its last k bytes said. -/
def plen (n : Nat) : Nat := 9 + (119 - n % 64) % 64
def pbit (n i : Nat) : Int := ((8 * n % 18446744073709551616 / 2 ^ (8 * i) % 256 : Nat) : Int)
def padP (n k : Nat) : List Int := (List.range (plen n)).map fun j => if j = 0 then 128 else if plen n - k ≤ j then pbit n (plen n - 1 - j) else 0
def padL (n : Nat) : List Int := padP n 8
theorem plen_bd (n : Nat) : 9 ≤ plen n ∧ plen n ≤ 72 := by unfold plen; omega
theorem padP_len (n k : Nat) : (padP n k).length = plen n := by simp [padP]
theorem pbit_bd (n i : Nat) : 0 ≤ pbit n i ∧ pbit n i < 256 := by unfold pbit; omega
theorem padP_zero (n : Nat) : padP n 0 = (zr (plen n)).set 0 128 := by
  have hb := plen_bd n
  apply List.ext_getElem?
  intro j
  simp only [padP, zr, List.getElem?_set, List.getElem?_map, List.length_replicate, List.getElem?_replicate]
  by_cases hj : j < plen n
  · rw [List.getElem?_range hj]
    by_cases h0 : j = 0
    · subst h0; simp; omega
    · rw [if_neg (Ne.symm h0)]; simp [h0, hj]; omega
  · rw [List.getElem?_eq_none (by simp; omega)]
    simp [hj]; omega
theorem padP_set (n k : Nat) (hk : k < 8) : (padP n k).set (plen n - 1 - k) (pbit n k) = padP n (k + 1) := by
  have hb := plen_bd n
  apply List.ext_getElem?
  intro j
  rw [List.getElem?_set]
  by_cases e : plen n - 1 - k = j
  · rw [if_pos e, if_pos (by rw [padP_len]; omega)]
    subst e
    simp only [padP, List.getElem?_map, List.getElem?_range (show plen n - 1 - k < plen n by omega), Option.map_some]
    rw [if_neg (by omega), if_pos (by omega), show plen n - 1 - (plen n - 1 - k) = k by omega]
  · rw [if_neg e]
    simp only [padP, List.getElem?_map]
    by_cases hj : j < plen n
    · simp only [List.getElem?_range hj, Option.map_some]
      by_cases h0 : j = 0
      · rw [if_pos h0, if_pos h0]
      · rw [if_neg h0, if_neg h0]
        by_cases h1 : plen n - k ≤ j
        · rw [if_pos h1, if_pos (by omega)]
        · rw [if_neg h1, if_neg (by omega)]
    · rw [List.getElem?_eq_none (by simp; omega)]; rfl
theorem padL_bd (n : Nat) : ∀ z ∈ padL n, 0 ≤ z ∧ z < 256 := by
  intro z hz
  simp only [padL, padP, List.mem_map] at hz
  obtain ⟨j, _, rfl⟩ := hz
  split
  · omega
  · split
    · exact pbit_bd _ _
    · omega
theorem made_irow (n : Nat) : madeCells #[.int .u8 0] n = irow .u8 (zr n) := by
  apply Array.ext'
  simp only [madeCells, irow, zr, Array.toList_map, Array.toList_range, List.map_replicate]
  apply List.ext_getElem
  · simp
  · intro i h1 h2
    simp [Nat.mod_one]
theorem make_u64 (n : Nat) (h : n ≤ 281474976710656) (W : World) : (Instr.makeSlice 67 (.int .u64 (n : Int)) (.int .u64 (n : Int))).run Tryd.prog W = .ok (.slice (some ⟨W.heap.size, 0, none⟩) n n) (W.alloc (.cells (irow .u8 (zr n)) 5)) := by
  rw [← made_irow]
  exact run_make_row' 67 5 (.int .u8 0) 1 Tryd.underlying67 (by kernel_rfl) rfl .u64 .u64 n (by omega) (by omega) W
theorem make_i64 (n : Nat) (h : n ≤ 281474976710656) (W : World) : (Instr.makeSlice 67 (.int .i64 (n : Int)) (.int .i64 (n : Int))).run Tryd.prog W = .ok (.slice (some ⟨W.heap.size, 0, none⟩) n n) (W.alloc (.cells (irow .u8 (zr n)) 5)) := by
  rw [← made_irow]
  exact run_make_row' 67 5 (.int .u8 0) 1 Tryd.underlying67 (by kernel_rfl) rfl .i64 .i64 n (by omega) (by omega) W
set_option maxHeartbeats 2000000 in
theorem a_pad (n : Nat) (hn : n < 18446744073709551616) (w : World) : Calls Tryd.prog 69 #[.int .u64 (n : Int)] w fun e w' => ∃ v g, e = .returned v ∧ v = .slice (some ⟨g, 0, none⟩) (plen n) (plen n) ∧ w.heap.size ≤ g ∧ w'.heap[g]? = some (.cells (irow .u8 (padL n)) 5 (0, 0)) ∧ Below w.heap.size w w' := by
  have hpb := plen_bd n
  have hpl : 1 + (119 - (n : Int)) % 64 + 8 = (plen n : Int) := by unfold plen; omega
  have hmk := make_u64 (plen n) (by omega) w
  have R0 := hp1_0 w (.cells (irow .u8 (zr (plen n))) 5)
  have HW : Below w.heap.size w (w.alloc (.cells (irow .u8 (zr (plen n))) 5)) := (Below.refl _ _).alloc (Nat.le_refl _) _
  have hc0 := irow_cell R0 (j := 0) (by rw [zr_len]; omega)
  have hf0 := row_frozen R0 0
  have hps := padP_set n
  have hpp := padP_len n
  have hset0 : (irow .u8 (zr (plen n))).setIfInBounds 0 (.int .u8 128) = irow .u8 (padP n 0) := by
    rw [padP_zero n]
    simp [irow, List.map_set]
  replace hset0 := hide hset0
  clear R0 HW
  have hbit : ∀ k : Nat, k < 8 → (8 * (n : Int) % 18446744073709551616) / 2 ^ (8 * k) % 256 = pbit n k := fun k _ => by
    unfold pbit
    rw [Int.natCast_emod, Int.natCast_ediv, Int.natCast_emod, Int.natCast_mul, Int.natCast_pow]
    rfl
  generalize plen n = L at *
  go_enter Tryd.func69, Tryd.ntmps69
  go_wp2
  go_loopw [19] (fun i wr => ∃ k : Nat, k ≤ 8 ∧ i = .int .i64 k ∧ wr.heap[w.heap.size]? = some (.cells (irow .u8 (padP n k)) 5 (0, 0)) ∧ Below w.heap.size w wr) (fun i _ => 8 - (intOf i).toNat)
  case atStart => exact ⟨0, by omega, rfl, by rw [hset0.out]; exact hp1_0 w _, (Below.refl _ _).alloc (Nat.le_refl _) _⟩
  case round =>
    clear hset0 hmk hc0 hf0
    obtain ⟨k, hk, rfl, r0, hw⟩ := hrel
    by_cases hlt : k < 8
    · have hd : decide ((k : Int) < 8) = true := by simp; omega
      have hc := irow_cell r0 (j := L - 1 - k) (by rw [hpp]; omega)
      have hf := row_frozen r0 (L - 1 - k)
      have hs := hps k hlt
      have hb := hbit k hlt
      have hbb := pbit_bd n k
      clear hps hbit
      go_wp2
      refine ⟨⟨k + 1, by omega, by go_num, ?_, hw.setCell (show w.heap.size ≤ w.heap.size from Nat.le_refl _) _⟩, ?_⟩
      · rw [IntKind.wrap_u64, hb, ← hs]
        exact irow_set r0 _ _
      · simp [intOf]; omega
    · obtain rfl : k = 8 := by omega
      have hd : decide ((8 : Int) < 8) = false := by decide
      go_wp2
      go_ret
      exact ⟨_, _, rfl, rfl, Nat.le_refl _, r0, hw⟩

end Go.Proofs.YtlbcdjflcghkeaaDoor


namespace Go.Proofs.YtlbcdjflcghkeaaDoor
set_option maxRecDepth 100000
open Go Go.RowKit Go.Sort

/-! Blocks in a row; a hash under way. -/
def wat (bs : List Int) (q i : Nat) : Int := bs.getD (64 * q + i) 0
def chunk (bs : List Int) (k : Nat) : List Int := prt (wat bs k) 64
def fol (h bs : List Int) : Nat → List Int
  | 0 => h
  | k + 1 => blk (fol h bs k) (chunk bs k)
theorem fol_len {h : List Int} (hl : h.length = 8) (bs : List Int) : ∀ k, (fol h bs k).length = 8
  | 0 => hl
  | _ + 1 => blk_len _ _
theorem fol_bd {h : List Int} (hz : ∀ x ∈ h, 0 ≤ x ∧ x < 4294967296) (bs : List Int) : ∀ k, ∀ x ∈ fol h bs k, 0 ≤ x ∧ x < 4294967296
  | 0 => hz
  | _ + 1 => sums_bd _ _
theorem prt_congr {W V : Nat → Int} {t : Nat} (h : ∀ j, j < t → j < 64 → W j = V j) : prt W t = prt V t := by
  unfold prt
  apply List.map_congr_left
  intro j hj
  rw [List.mem_range] at hj
  by_cases e : j < t
  · rw [if_pos e, if_pos e, h j e hj]
  · rw [if_neg e, if_neg e]
theorem chunk_len (bs : List Int) (k : Nat) : (chunk bs k).length = 64 := prt_len _ _
theorem getD_bd {bs : List Int} (hz : ∀ z ∈ bs, 0 ≤ z ∧ z < 256) (j : Nat) : 0 ≤ bs.getD j 0 ∧ bs.getD j 0 < 256 := by
  rw [List.getD_eq_getElem?_getD]
  by_cases h : j < bs.length
  · rw [List.getElem?_eq_getElem h]; exact hz _ (List.getElem_mem _)
  · rw [List.getElem?_eq_none (by omega)]; exact ⟨by decide, by decide⟩
theorem prt_bd {W : Nat → Int} (h : ∀ j, 0 ≤ W j ∧ W j < 256) (t : Nat) : ∀ z ∈ prt W t, 0 ≤ z ∧ z < 256 := by
  intro z hz
  simp only [prt, List.mem_map] at hz
  obtain ⟨j, _, rfl⟩ := hz
  split
  · exact h j
  · omega
theorem wat_bd {bs : List Int} (hz : ∀ z ∈ bs, 0 ≤ z ∧ z < 256) (q : Nat) : ∀ j, 0 ≤ wat bs q j ∧ wat bs q j < 256 := fun _ => getD_bd hz _
theorem chunk_bd {bs : List Int} (hz : ∀ z ∈ bs, 0 ≤ z ∧ z < 256) (k : Nat) : ∀ z ∈ chunk bs k, 0 ≤ z ∧ z < 256 := prt_bd (wat_bd hz k) 64
theorem getD_append_lt (a b : List Int) (j : Nat) (h : j < a.length) : (a ++ b).getD j 0 = a.getD j 0 := by
  rw [List.getD_eq_getElem?_getD, List.getD_eq_getElem?_getD, List.getElem?_append_left h]
theorem getD_append_ge (a b : List Int) (j : Nat) (h : a.length ≤ j) : (a ++ b).getD j 0 = b.getD (j - a.length) 0 := by
  rw [List.getD_eq_getElem?_getD, List.getD_eq_getElem?_getD, List.getElem?_append_right h]
theorem fol_append (h a b : List Int) : ∀ k, 64 * k ≤ a.length → fol h (a ++ b) k = fol h a k
  | 0, _ => rfl
  | k + 1, hk => by
    unfold fol
    rw [fol_append h a b k (by omega)]
    congr 1
    unfold chunk
    apply prt_congr
    intro j _ hj
    exact getD_append_lt a b _ (by omega)
theorem wat_append (a b : List Int) (q r : Nat) (hr : a.length = 64 * q + r) : prt (wat (a ++ b) q) r = prt (wat a q) r := prt_congr fun j hj _ => getD_append_lt a b _ (by omega)
/-- What is copied behind r bytes of a part. -/
theorem part_over (a c : List Int) (q r : Nat) (hr : a.length = 64 * q + r) (hc : r + c.length ≤ 64) : (prt (wat a q) r).take r ++ c ++ (prt (wat a q) r).drop (r + c.length) = prt (wat (a ++ c) q) (r + c.length) := by
  have hl := prt_len (wat a q) r
  apply List.ext_getElem?
  intro j
  by_cases h1 : j < r
  · rw [List.append_assoc, List.getElem?_append_left (by simp; omega), List.getElem?_take_of_lt h1]
    simp only [prt, List.getElem?_map, List.getElem?_range (show j < 64 by omega), Option.map_some, if_pos h1, if_pos (show j < r + c.length by omega)]
    rw [wat, wat, getD_append_lt a c _ (by omega)]
  · by_cases h2 : j < r + c.length
    · rw [List.getElem?_append_left (by simp; omega), List.getElem?_append_right (by simp; omega)]
      have e : ((prt (wat a q) r).take r).length = r := by simp; omega
      rw [e]
      simp only [prt, List.getElem?_map, List.getElem?_range (show j < 64 by omega), Option.map_some, if_pos h2]
      rw [wat, getD_append_ge a c _ (by omega), List.getElem?_eq_getElem (by omega), List.getD_eq_getElem?_getD, show 64 * q + j - a.length = j - r by omega, List.getElem?_eq_getElem (by omega)]
      rfl
    · rw [List.getElem?_append_right (by simp; omega), List.getElem?_drop]
      have e : r + c.length + (j - ((prt (wat a q) r).take r ++ c).length) = j := by simp; omega
      rw [e]
      by_cases hj : j < 64
      · simp only [prt, List.getElem?_map, List.getElem?_range hj, Option.map_some, if_neg h1, if_neg h2]
      · rw [List.getElem?_eq_none (by omega), List.getElem?_eq_none (by rw [prt_len]; omega)]
/-- The cells of a hash. -/
def hcells (ws ps : List Int) (sz : Int) : Array Value := (ws.map (Value.int .u32) ++ (ps.map (Value.int .u8) ++ [Value.int .u64 sz])).toArray
def hwords (bs : List Int) : List Int := fol sl bs (bs.length / 64)
def hpart (bs : List Int) : List Int := prt (wat bs (bs.length / 64)) (bs.length % 64)
def hst (bs : List Int) : Array Value := hcells (hwords bs) (hpart bs) (bs.length : Int)
theorem hwords_len (bs : List Int) : (hwords bs).length = 8 := fol_len rfl _ _
theorem hpart_len (bs : List Int) : (hpart bs).length = 64 := prt_len _ _
theorem sl_bd : ∀ x ∈ sl, 0 ≤ x ∧ x < 4294967296 := by decide
theorem hwords_bd (bs : List Int) : ∀ x ∈ hwords bs, 0 ≤ x ∧ x < 4294967296 := fol_bd sl_bd _ _
theorem hpart_bd {bs : List Int} (hz : ∀ z ∈ bs, 0 ≤ z ∧ z < 256) : ∀ z ∈ hpart bs, 0 ≤ z ∧ z < 256 := prt_bd (wat_bd hz _) _
theorem hst_nil : hst [] = hcells sl (zr 64) 0 := rfl
/-- Bytes behind, the block not full. -/
theorem hst_less (a c : List Int) (h : a.length % 64 + c.length < 64) : hst (a ++ c) = hcells (hwords a) (prt (wat (a ++ c) (a.length / 64)) (a.length % 64 + c.length)) ((a.length : Int) + c.length) := by
  have e1 : (a ++ c).length / 64 = a.length / 64 := by rw [List.length_append]; omega
  have e2 : (a ++ c).length % 64 = a.length % 64 + c.length := by rw [List.length_append]; omega
  unfold hst hwords hpart
  rw [e1, e2, fol_append _ _ _ _ (by omega), List.length_append]
  rfl
/-- Bytes behind, the block full. -/
theorem hst_full (a c : List Int) (h : a.length % 64 + c.length = 64) : hst (a ++ c) = hcells (blk (hwords a) (prt (wat (a ++ c) (a.length / 64)) 64)) (zr 64) ((a.length : Int) + c.length) := by
  have e1 : (a ++ c).length / 64 = a.length / 64 + 1 := by rw [List.length_append]; omega
  have e2 : (a ++ c).length % 64 = 0 := by rw [List.length_append]; omega
  unfold hst hwords hpart
  rw [e1, e2, fol, fol_append _ _ _ _ (by omega), List.length_append, prt_zero]
  rfl
theorem hcells_size (ws ps : List Int) (sz : Int) (h1 : ws.length = 8) (h2 : ps.length = 64) : (hcells ws ps sz).size = 73 := by simp [hcells, h1, h2]
theorem hcells_words (ws ps : List Int) (sz : Int) (h1 : ws.length = 8) : (hcells ws ps sz).extract 0 (0 + 8) = irow .u32 ws := by
  apply Array.ext'
  simp [hcells, irow, h1]
theorem hcells_part (ws ps : List Int) (sz : Int) (h1 : ws.length = 8) (h2 : ps.length = 64) : (hcells ws ps sz).extract 8 (8 + 64) = irow .u8 ps := by
  apply Array.ext'
  simp [hcells, irow, h1, h2]
theorem hcells_at (ws ps : List Int) (sz : Int) (h1 : ws.length = 8) (h2 : ps.length = 64) : (hcells ws ps sz)[72]? = some (.int .u64 sz) := by
  simp [hcells, h1, h2]
theorem hcells_setsz (ws ps : List Int) (sz z : Int) (h1 : ws.length = 8) (h2 : ps.length = 64) : (hcells ws ps sz).setIfInBounds 72 (.int .u64 z) = hcells ws ps z := by
  apply Array.ext'
  simp [hcells, h1, h2]
/-- What copy makes of the part. -/
theorem hcells_copy (ws ps c : List Int) (sz : Int) (o : Nat) (h1 : ws.length = 8) (h2 : ps.length = 64) (hc : o + c.length ≤ 64) : ((hcells ws ps sz).toList.take (8 + o) ++ c.map (Value.int .u8) ++ (hcells ws ps sz).toList.drop (8 + o + (c.map (Value.int .u8)).length)).toArray = hcells ws (ps.take o ++ c ++ ps.drop (o + c.length)) sz := by
  apply Array.ext'
  have e1 : 8 + o - ws.length = o := by omega
  have e2 : 8 + o + c.length - ws.length = o + c.length := by omega
  simp only [hcells, List.length_map, List.take_append, List.drop_append, h1, h2, List.map_append, List.map_take, List.map_drop]
  rw [List.take_of_length_le (show (ws.map (Value.int .u32)).length ≤ 8 + o by simp; omega), List.drop_eq_nil_of_le (show (ws.map (Value.int .u32)).length ≤ 8 + o + c.length by simp; omega), show 8 + o - 8 = o by omega, show 8 + o + c.length - 8 = o + c.length by omega, show o - 64 = 0 by omega, show o + c.length - 64 = 0 by omega]
  simp [List.append_assoc]
theorem ovw_list : ∀ (vs : List Value) (cs : Array Value) (o : Nat), o + vs.length ≤ cs.size → (ovw cs o vs).toList = cs.toList.take o ++ vs ++ cs.toList.drop (o + vs.length)
  | [], cs, o, _ => by simp [ovw]
  | v :: r, cs, o, h => by
    have h' : o < cs.toList.length := by simp at h ⊢; omega
    rw [ovw, ovw_list r _ _ (by simp at h ⊢; omega), Array.toList_setIfInBounds, List.set_eq_take_append_cons_drop, if_pos h']
    have e : (cs.toList.take o).length = o := by rw [List.length_take]; omega
    rw [List.take_append, List.drop_append, e, List.take_take, show min (o + 1) o = o by omega, show o + 1 - o = 1 by omega, List.drop_eq_nil_of_le (show (cs.toList.take o).length ≤ o + 1 + r.length by omega), show o + 1 + r.length - o = r.length + 1 by omega, List.drop_succ_cons, List.drop_drop, List.length_cons, show o + 1 + r.length = o + (r.length + 1) by omega]
    simp
theorem hcells_setwords (ws vs ps : List Int) (sz : Int) (h1 : ws.length = 8) (h2 : ps.length = 64) (h3 : vs.length = 8) : ovw (hcells ws ps sz) 0 (irow .u32 vs).toList = hcells vs ps sz := by
  apply Array.ext'
  rw [ovw_list _ _ _ (by rw [hcells_size _ _ _ h1 h2]; simp [irow, h3])]
  simp [hcells, irow, h1, h3]
theorem hcells_setpart (ws ps qs : List Int) (sz : Int) (h1 : ws.length = 8) (h2 : ps.length = 64) (h3 : qs.length = 64) : ovw (hcells ws ps sz) 8 (irow .u8 qs).toList = hcells ws qs sz := by
  apply Array.ext'
  rw [ovw_list _ _ _ (by rw [hcells_size _ _ _ h1 h2]; simp [irow, h3])]
  simp only [hcells, irow, h1, h3, List.length_map, List.take_append, List.take_of_length_le (show (ws.map (Value.int .u32)).length ≤ 8 by simp; omega)]
  rw [show 8 - 8 = 0 from rfl, List.take_zero, ← List.append_assoc (ws.map (Value.int .u32)) (ps.map (Value.int .u8)), List.drop_left' (by simp; omega)]
  simp
theorem hcells_one (ws ps : List Int) (sz : Int) : (hcells ws ps sz).all (·.oneCell') = true := by
  simp only [hcells, List.all_toArray, List.all_append, List.all_map, Bool.and_eq_true, List.all_eq_true, List.all_cons, List.all_nil]
  exact ⟨fun _ _ => rfl, fun _ _ => rfl, rfl, trivial⟩
end Go.Proofs.YtlbcdjflcghkeaaDoor

namespace Go.Proofs.YtlbcdjflcghkeaaDoor
set_option maxRecDepth 100000
open Go Go.RowKit Go.Sort
attribute [local go_sem] setCell_drewN alloc_drewN

def kvals (l : List Int) : Nat → List (Nat × Value) := fun n => (List.range n).map fun i => (i, .int .u32 (l.getD i 0))
theorem kbuilt : Tryd.prog.built 126 (kvals kl 64) = some (irow .u32 kl) := by kernel_rfl
theorem sbuilt : Tryd.prog.built 112 (kvals sl 8) = some (irow .u32 sl) := by kernel_rfl
theorem infok : (Tryd.prog.info? 126).map (·.size) = some (irow .u32 kl).size := by kernel_rfl
end Go.Proofs.YtlbcdjflcghkeaaDoor

