import Derived.Test.YtgfeacnhdlgpoaaDoorProg
import Derived.WalkKit
import Derived.WalkSpells
import Derived.WalkLawsBesides
import Derived.Lib.QuietBelow
import Derived.BigQuiet
import Derived.Test.YtgfeacnhdlgpoaaDoorKa
import Derived.Test.YtgfeacnhdlgpoaaDoorHd
namespace Go.Proofs.YtgfeacnhdlgpoaaDoor
set_option maxRecDepth 100000
open Go Go.RowKit Go.Sort
attribute [local go_sem] setCell_drewN alloc_drewN

/-- The first t of thirty-two, then zeros. -/
def pr32 (W : Nat → Int) (t : Nat) : List Int := (List.range 32).map fun j => if j < t then W j else 0
theorem pr32_len (W : Nat → Int) (t : Nat) : (pr32 W t).length = 32 := by simp [pr32]
theorem pr32_set (W : Nat → Int) (t : Nat) (h : t < 32) : (pr32 W t).set t (W t) = pr32 W (t + 1) := by
  apply List.ext_getElem?
  intro j
  rw [List.getElem?_set]
  by_cases e : t = j
  · subst e
    rw [if_pos rfl, if_pos (by rw [pr32_len]; exact h)]
    simp [pr32, h]
  · rw [if_neg e]
    simp only [pr32, List.getElem?_map]
    by_cases hj : j < 32
    · simp only [List.getElem?_range hj, Option.map_some]
      by_cases h1 : j < t
      · rw [if_pos h1, if_pos (by omega)]
      · rw [if_neg h1, if_neg (by omega)]
    · rw [List.getElem?_eq_none (by simp; omega)]; rfl
theorem pr32_zero (W : Nat → Int) : pr32 W 0 = zr 32 := rfl
/-- The bytes of words. -/
def bte (h : List Int) (j : Nat) : Int := h.getD (j / 4) 0 / 2 ^ (24 - 8 * (j % 4)) % 256
def byts (h : List Int) : List Int := pr32 (bte h) 32
theorem byts_len (h : List Int) : (byts h).length = 32 := pr32_len _ _
theorem byts_bd (h : List Int) : ∀ z ∈ byts h, 0 ≤ z ∧ z < 256 := by
  intro z hz
  simp only [byts, pr32, List.mem_map, List.mem_range] at hz
  obtain ⟨j, hj, rfl⟩ := hz
  rw [if_pos hj]
  unfold bte
  omega
theorem infok8 (l : List Int) (hl : l.length = 32) : (Tryd.prog.info? 24).map (·.size) = some (irow .u8 l).size := by
  rw [irow_size, hl]; kernel_rfl
theorem fit32 (l m : List Int) (hl : l.length = 32) (hm : m.length = 32) : (irow .u8 l).size = (irow .u8 m).size := by
  rw [irow_size, irow_size, hl, hm]
set_option maxRecDepth 100000 in
set_option maxHeartbeats 4000000 in
theorem r_bytes (h : List Int) (hl : h.length = 8) (hz : ∀ x ∈ h, 0 ≤ x ∧ x < 4294967296) : Gives 60 #[.agg (irow .u32 h)] (.agg (irow .u8 (byts h))) := by
  intro w
  have r0 := hp3_0 w (.cells (irow .u32 h) 99) (.cells (irow .u8 (zr 32)) 24) (.cells (irow .u8 (zr 32)) 24)
  have r1 := hp3_1 w (.cells (irow .u32 h) 99) (.cells (irow .u8 (zr 32)) 24) (.cells (irow .u8 (zr 32)) 24)
  have r2 := hp3_2 w (.cells (irow .u32 h) 99) (.cells (irow .u8 (zr 32)) 24) (.cells (irow .u8 (zr 32)) 24)
  have hw : Below w.heap.size w (((w.alloc (.cells (irow .u32 h) 99)).alloc (.cells (irow .u8 (zr 32)) 24)).alloc (.cells (irow .u8 (zr 32)) 24)) := ((((Below.refl _ _).alloc (Nat.le_refl _) _).alloc (by simp) _).alloc (by simp; omega) _)

  go_enter Tryd.func60, Tryd.ntmps60
  go_wp2_with (first | (refine wpList_box rfl 99 _ rfl _ rfl (b23 _) ?_) | (refine wpList_alloc rfl 24 rfl (irow .u8 (zr 32)) zkey ?_) | fail)
  try simp only [size_alloc1, Act.put, List.setIfInBounds_toArray, List.set_cons_succ, List.set_cons_zero]
  generalize (((w.alloc (.cells (irow .u32 h) 99)).alloc (.cells (irow .u8 (zr 32)) 24)).alloc (.cells (irow .u8 (zr 32)) 24)) = w0 at *
  rw [← pr32_zero (bte h)] at r2
  go_loopw [4] (fun i wr => ∃ k : Nat, k ≤ 8 ∧ i = .int .i64 k ∧ wr.heap[w.heap.size]? = some (.cells (irow .u32 h) 99 (0, 0)) ∧ wr.heap[w.heap.size + 1]? = some (.cells (irow .u8 (zr 32)) 24 (0, 0)) ∧ wr.heap[w.heap.size + 1 + 1]? = some (.cells (irow .u8 (pr32 (bte h) (4 * k))) 24 (0, 0)) ∧ Below w.heap.size w wr) (fun i _ => 8 - (intOf i).toNat)
  case atStart => exact ⟨0, by omega, rfl, r0, r1, r2, hw⟩
  case round =>
    clear r0 r1 r2 hw
    obtain ⟨k, hk, rfl, r0, r1, r2, hw⟩ := hrel
    by_cases hlt : k < 8
    · have hd : decide ((k : Int) < 8) = true := by simp; omega
      go_wp2
      go_loopw [5] (fun i wr => ∃ j : Nat, j ≤ 4 ∧ i = .int .i64 j ∧ wr.heap[w.heap.size]? = some (.cells (irow .u32 h) 99 (0, 0)) ∧ wr.heap[w.heap.size + 1]? = some (.cells (irow .u8 (zr 32)) 24 (0, 0)) ∧ wr.heap[w.heap.size + 1 + 1]? = some (.cells (irow .u8 (pr32 (bte h) (4 * k + j))) 24 (0, 0)) ∧ Below w.heap.size w wr) (fun i _ => 4 - (intOf i).toNat)
      case atStart => exact ⟨0, by omega, rfl, r0, r1, r2, hw⟩
      case round =>
        clear r0 r1 r2 hw
        obtain ⟨j, hj, rfl, r0, r1, r2, hw⟩ := hrel
        by_cases hlj : j < 4
        · have hdj : decide ((j : Int) < 4) = true := by simp; omega
          have dh := irow_cell r0 (j := k) (by omega)
          have hset := pr32_set (bte h) (4 * k + j) (by omega)
          have hpl := pr32_len (bte h) (4 * k + j)
          have e : bte h (4 * k + j) = h.getD k 0 / 2 ^ (24 - 8 * j) % 256 := by
            unfold bte
            rw [show (4 * k + j) / 4 = k by omega, show (4 * k + j) % 4 = j by omega]
          have hb : 0 ≤ h.getD k 0 ∧ h.getD k 0 < 4294967296 := by
            apply hz
            rw [List.getD_eq_getElem?_getD, List.getElem?_eq_getElem (by omega)]
            exact List.getElem_mem _
          rw [e] at hset
          generalize h.getD k 0 = x at *
          have cz := irow_cell r2 (j := 4 * k + j) (by omega)
          have hf := row_frozen r2 (4 * k + j)
          clear e
          replace hset := hide hset
          go_wp2
          refine ⟨⟨j + 1, by omega, by go_num, heap_other r0 (by omega), heap_other r1 (by omega), by rw [show 4 * k + (j + 1) = 4 * k + j + 1 from rfl, ← hset.out]; exact irow_set r2 _ _, hw.setCell (show w.heap.size ≤ w.heap.size + 1 + 1 by omega) _⟩, ?_⟩
          simp [intOf]; omega
        · obtain rfl : j = 4 := by omega
          have hdj : decide ((4 : Int) < 4) = false := by decide
          go_wp2
          refine ⟨⟨k + 1, by omega, by go_num, r0, r1, r2, hw⟩, ?_⟩
          simp [intOf]; omega
    · obtain rfl : k = 8 := by omega
      have hd : decide ((8 : Int) < 8) = false := by decide
      have hq := byts_len h
      go_wp2_with (first | (refine wpList_load_want rfl 24 _ rfl (w.heap.size + 1 + 1) rfl 24 (irow .u8 (byts h)) (0, 0) _ r2 Tryd.underlying24 rfl (infok8 _ hq) ?_) | (refine wpList_store_row rfl 24 _ _ rfl (w.heap.size + 1) (irow .u8 (byts h)) rfl rfl 24 _ r1 (infok8 _ hq) (fit32 _ _ (zr_len 32) hq) (irow_one _ _) ?_) | fail)
      replace r1 := setRow_heap wr (w.heap.size + 1) _ (irow .u8 (byts h)) _ _ r1
      replace hw := below_setRow hw (show w.heap.size ≤ w.heap.size + 1 by omega) (irow .u8 (byts h))
      generalize wr.setRow (w.heap.size + 1) (irow .u8 (byts h)) = w9 at *
      exact bodyPost_ret (v := .agg (irow .u8 (byts h))) (results_cell_row Tryd.results60 _ _ (w.heap.size + 1) _ _ _ _ rfl r1 Tryd.underlying24 rfl (infok8 _ hq)) rfl ⟨rfl, hw⟩
theorem slice_key (g k : Nat) (hk : k < 8) (W : World) : (Instr.sliceAt 24 (.pointer (some ⟨g, 0, none⟩)) (some (.int .i64 (4 * (k : Int)))) none none).run Tryd.prog W = .ok (.slice (some ⟨g, 4 * k, none⟩) (32 - 4 * k) (32 - 4 * k)) W := by
  have ht : Tryd.prog.underlying 24 = some (.array (Tryd.prog.arrayLen 24) (Tryd.prog.elem 24)) := by kernel_rfl
  have hn : Tryd.prog.arrayLen 24 = 32 := by kernel_rfl
  have hs : (sizeOf (Tryd.prog.elem 24)).run Tryd.prog W = .ok 1 W := by kernel_rfl
  rw [run_sliceAt_array_l W _ _ ht .i64 _ (by omega) (by rw [hn]; omega), hs]
  show Result.ok (slicedAt _ _ _ _ 1) W = _
  have e1 : (4 * (k : Int)).toNat = 4 * k := by omega
  rw [e1, hn, slicedAt, if_neg (by omega), addr_add]
  simp
theorem pr32_four (h : List Int) (k : Nat) (hk : k < 8) : pr32 (bte h) (4 * (k + 1)) = (pr32 (bte h) (4 * k)).take (4 * k) ++ [bte h (4 * k), bte h (4 * k + 1), bte h (4 * k + 2), bte h (4 * k + 3)] ++ (pr32 (bte h) (4 * k)).drop (4 * k + 4) := by
  rw [show 4 * (k + 1) = 4 * k + 3 + 1 by omega, ← pr32_set _ _ (by omega), show 4 * k + 3 = 4 * k + 2 + 1 by omega, ← pr32_set _ _ (by omega), show 4 * k + 2 = 4 * k + 1 + 1 by omega, ← pr32_set _ _ (by omega), ← pr32_set _ _ (by omega)]
  have hl := pr32_len (bte h) (4 * k)
  generalize pr32 (bte h) (4 * k) = l at *
  apply List.ext_getElem?
  intro j
  simp only [List.getElem?_set, List.length_set, hl]
  by_cases h1 : j < 4 * k
  · rw [if_neg (by omega), if_neg (by omega), if_neg (by omega), if_neg (by omega), List.append_assoc, List.getElem?_append_left (by simp; omega), List.getElem?_take_of_lt h1]
  · by_cases h2 : j < 4 * k + 4
    · rw [List.getElem?_append_left (by simp; omega), List.getElem?_append_right (by simp; omega)]
      have e : (l.take (4 * k)).length = 4 * k := by simp; omega
      rw [e]
      rcases (by omega : j = 4 * k ∨ j = 4 * k + 1 ∨ j = 4 * k + 2 ∨ j = 4 * k + 3) with rfl | rfl | rfl | rfl
      · rw [if_neg (by omega), if_neg (by omega), if_neg (by omega), if_pos rfl, if_pos (by omega)]; simp
      · rw [if_neg (by omega), if_neg (by omega), if_pos rfl, if_pos (by omega)]; simp
      · rw [if_neg (by omega), if_pos (by omega), if_pos (by omega)]; simp
      · rw [if_pos (by omega), if_pos (by omega)]; simp
    · rw [if_neg (by omega), if_neg (by omega), if_neg (by omega), if_neg (by omega), List.getElem?_append_right (by simp; omega), List.getElem?_drop]
      congr 1
      simp
      omega
theorem copy_irow {W : World} {g o dLen dCap b off m cap : Nat} {l c : List Int} {t : TypeId} (hg : W.heap[g]? = some (.cells (irow .u8 l) t (0, 0))) (hc : ∀ j, j < c.length → W.cell? ⟨b, off + j, none⟩ = some (.int .u8 (c.getD j 0))) (hn : c.length = Nat.min m dLen) (hfit : o + c.length ≤ l.length) :
    (Builtin.copy_ #[22, 22] 3 #[.slice (some ⟨g, o, none⟩) dLen dCap, .slice (some ⟨b, off, none⟩) m cap]).run Tryd.prog W = .ok (goInt c.length) (W.setRow g (irow .u8 (l.take o ++ c ++ l.drop (o + c.length)))) := by
  have hsrc : ∀ j u, (c.map (Value.int .u8))[j]? = some u → W.cell? ((⟨b, off, none⟩ : Addr).add j) = some u := by
    intro j u hu
    have hj : j < c.length := by have := (List.getElem?_eq_some_iff.1 hu).1; simpa using this
    have : u = .int .u8 (c.getD j 0) := by
      simp only [List.getElem?_map, List.getElem?_eq_getElem hj, Option.map_some, Option.some.injEq] at hu
      rw [← hu, List.getD_eq_getElem?_getD, List.getElem?_eq_getElem hj]; rfl
    rw [this, addr_add]
    exact hc j hj
  have hrun := run_copy_row (P := Tryd.prog) W 22 22 3 5 g o dLen dCap ⟨b, off, none⟩ m cap (irow .u8 l) t (c.map (Value.int .u8)) Tryd.underlying22 (by kernel_rfl) hg (by rw [List.length_map]; exact hn) hsrc (by rw [irow_size, List.length_map]; exact hfit) (ints_one .u8 c)
  rw [List.length_map] at hrun
  rw [hrun]
  congr 2
  apply Array.ext'
  simp [irow, List.map_take, List.map_drop]
theorem index23 (h : List Int) (hl : h.length = 8) (k : Nat) (hk : k < 8) (W : World) : (Instr.index 99 (.agg (irow .u32 h)) (.int .i64 (k : Int))).run Tryd.prog W = .ok (.int .u32 (h.getD k 0)) W := by
  obtain ⟨i0, hi⟩ : ∃ i, Tryd.prog.info? 98 = some i := ⟨_, rfl⟩
  have hs : (sizeOf 98).run Tryd.prog W = .ok 1 W := by kernel_rfl
  have hp := run_part_int (P := Tryd.prog) W Tryd.underlying98 hi h k (by omega)
  have e : h.getD k 0 = h[k]'(by omega) := by simp [List.getD_eq_getElem?_getD, List.getElem?_eq_getElem (show k < h.length by omega)]
  rw [e]
  unfold Instr.index
  have h2 : (0 : Int) ≤ (k : Int) ∧ (k : Int) < ((8 : Nat) : Int) := by omega
  simp only [asIntOf, Sem.run_bind, Sem.run_pure, Result.andThen_ok, run_underlying Tryd.underlying99 W, if_pos h2, hs, Int.toNat_natCast, Nat.mul_one]
  exact hp
set_option maxRecDepth 100000 in
set_option maxHeartbeats 4000000 in
theorem a_told (h : List Int) (hl : h.length = 8) (hz : ∀ x ∈ h, 0 ≤ x ∧ x < 4294967296) : Gives 66 #[.agg (irow .u32 h)] (.agg (irow .u8 (byts h))) := by
  intro w
  have r0 := hp3_0 w (.cells (irow .u32 h) 99) (.cells (irow .u8 (zr 32)) 24) (.cells (irow .u8 (zr 32)) 24)
  have r1 := hp3_1 w (.cells (irow .u32 h) 99) (.cells (irow .u8 (zr 32)) 24) (.cells (irow .u8 (zr 32)) 24)
  have r2 := hp3_2 w (.cells (irow .u32 h) 99) (.cells (irow .u8 (zr 32)) 24) (.cells (irow .u8 (zr 32)) 24)
  have hw : Below w.heap.size w (((w.alloc (.cells (irow .u32 h) 99)).alloc (.cells (irow .u8 (zr 32)) 24)).alloc (.cells (irow .u8 (zr 32)) 24)) := ((((Below.refl _ _).alloc (Nat.le_refl _) _).alloc (by simp) _).alloc (by simp; omega) _)

  go_enter Tryd.func66, Tryd.ntmps66
  go_wp2_with (first | (refine wpList_box rfl 99 _ rfl _ rfl (b23 _) ?_) | (refine wpList_alloc rfl 24 rfl (irow .u8 (zr 32)) zkey ?_) | (refine wpList_load_want rfl 99 _ rfl (w.heap.size) rfl 99 (irow .u32 h) (0, 0) _ r0 Tryd.underlying99 rfl (info23 _ hl) ?_) | fail)
  try simp only [size_alloc1, Act.put, List.setIfInBounds_toArray, List.set_cons_succ, List.set_cons_zero]
  generalize (((w.alloc (.cells (irow .u32 h) 99)).alloc (.cells (irow .u8 (zr 32)) 24)).alloc (.cells (irow .u8 (zr 32)) 24)) = w0 at *
  rw [← pr32_zero (bte h)] at r2
  go_loopw [7] (fun i wr => ∃ k : Nat, k ≤ 8 ∧ i = .int .i64 k ∧ wr.heap[w.heap.size]? = some (.cells (irow .u32 h) 99 (0, 0)) ∧ wr.heap[w.heap.size + 1]? = some (.cells (irow .u8 (zr 32)) 24 (0, 0)) ∧ wr.heap[w.heap.size + 1 + 1]? = some (.cells (irow .u8 (pr32 (bte h) (4 * k))) 24 (0, 0)) ∧ Below w.heap.size w wr) (fun i _ => 8 - (intOf i).toNat)
  case atStart => exact ⟨0, by omega, rfl, r0, r1, r2, hw⟩
  case round =>
    clear r0 r1 r2 hw
    obtain ⟨k, hk, rfl, r0, r1, r2, hw⟩ := hrel
    by_cases hlt : k < 8
    · have hd : decide ((k : Int) < 8) = true := by simp; omega
      have hb : 0 ≤ h.getD k 0 ∧ h.getD k 0 < 4294967296 := by
        apply hz
        rw [List.getD_eq_getElem?_getD, List.getElem?_eq_getElem (by omega)]
        exact List.getElem_mem _
      have hsl := slice_key (w.heap.size + 1 + 1) k hlt
      have hix := index23 h hl k hlt
      have e0 : bte h (4 * k) = h.getD k 0 / 16777216 := by unfold bte; rw [show 4 * k / 4 = k by omega, show 4 * k % 4 = 0 by omega]; show h.getD k 0 / 16777216 % 256 = _; omega
      have e1 : bte h (4 * k + 1) = h.getD k 0 / 65536 % 256 := by unfold bte; rw [show (4 * k + 1) / 4 = k by omega, show (4 * k + 1) % 4 = 1 by omega]; rfl
      have e2 : bte h (4 * k + 2) = h.getD k 0 / 256 % 256 := by unfold bte; rw [show (4 * k + 2) / 4 = k by omega, show (4 * k + 2) % 4 = 2 by omega]; rfl
      have e3 : bte h (4 * k + 3) = h.getD k 0 % 256 := by unfold bte; rw [show (4 * k + 3) / 4 = k by omega, show (4 * k + 3) % 4 = 3 by omega]; simp
      have h4 := pr32_four h k hlt
      rw [e0, e1, e2, e3] at h4
      clear e0 e1 e2 e3
      have hpl := pr32_len (bte h) (4 * k)
      generalize h.getD k 0 = x at *
      generalize hnx : pr32 (bte h) (4 * (k + 1)) = nxt at *
      replace hnx := hide hnx
      have hc : (Builtin.copy_ #[22, 22] 3 #[.slice (some ⟨w.heap.size + 1 + 1, 4 * k, none⟩) (32 - 4 * k) (32 - 4 * k), .slice (some ⟨wr.heap.size, 0, none⟩) 4 4]).run Tryd.prog (wr.alloc (.cells #[.int .u8 (x / 16777216), .int .u8 (x / 65536 % 256), .int .u8 (x / 256 % 256), .int .u8 (x % 256)] 5)) = .ok (goInt 4) ((wr.alloc (.cells #[.int .u8 (x / 16777216), .int .u8 (x / 65536 % 256), .int .u8 (x / 256 % 256), .int .u8 (x % 256)] 5)).setRow (w.heap.size + 1 + 1) (irow .u8 nxt)) := by
        have hn := hp1_0 wr (.cells (irow .u8 [x / 16777216, x / 65536 % 256, x / 256 % 256, x % 256]) 5)
        have hB : Below wr.heap.size wr (wr.alloc (.cells (irow .u8 [x / 16777216, x / 65536 % 256, x / 256 % 256, x % 256]) 5)) := (Below.refl _ _).alloc (Nat.le_refl _) _
        have := copy_irow (dLen := 32 - 4 * k) (dCap := 32 - 4 * k) (o := 4 * k) (m := 4) (cap := 4) (off := 0) (c := [x / 16777216, x / 65536 % 256, x / 256 % 256, x % 256]) (keep hB r2) (fun j hj => by rw [Nat.zero_add]; exact irow_cell hn hj) (show 4 = Nat.min 4 (32 - 4 * k) from (Nat.min_eq_left (by omega)).symm) (show 4 * k + 4 ≤ _ by omega)
        rw [h4]
        exact this
      replace h4 := hide h4
      have hB : Below wr.heap.size wr (wr.alloc (.cells #[.int .u8 (x / 16777216), .int .u8 (x / 65536 % 256), .int .u8 (x / 256 % 256), .int .u8 (x % 256)] 5)) := (Below.refl _ _).alloc (Nat.le_refl _) _
      go_wp2
      replace r0 := keep hB r0
      replace r1 := keep hB r1
      replace r2 := keep hB r2
      replace hw := Below.after hw hB
      clear hc hB
      generalize wr.alloc (.cells #[.int .u8 (x / 16777216), .int .u8 (x / 65536 % 256), .int .u8 (x / 256 % 256), .int .u8 (x % 256)] 5) = w5 at *
      refine ⟨⟨k + 1, by omega, by go_num, (setRow_other w5 (w.heap.size + 1 + 1) (w.heap.size) _ (by omega)).trans r0, (setRow_other w5 (w.heap.size + 1 + 1) (w.heap.size + 1) _ (by omega)).trans r1, by rw [hnx.out]; exact setRow_heap w5 (w.heap.size + 1 + 1) _ _ _ _ r2, below_setRow hw (show w.heap.size ≤ w.heap.size + 1 + 1 by omega) _⟩, ?_⟩
      simp [intOf]; omega
    · obtain rfl : k = 8 := by omega
      have hd : decide ((8 : Int) < 8) = false := by decide
      have hq := byts_len h
      go_wp2_with (first | (refine wpList_load_want rfl 24 _ rfl (w.heap.size + 1 + 1) rfl 24 (irow .u8 (byts h)) (0, 0) _ r2 Tryd.underlying24 rfl (infok8 _ hq) ?_) | (refine wpList_store_row rfl 24 _ _ rfl (w.heap.size + 1) (irow .u8 (byts h)) rfl rfl 24 _ r1 (infok8 _ hq) (fit32 _ _ (zr_len 32) hq) (irow_one _ _) ?_) | fail)
      replace r1 := setRow_heap wr (w.heap.size + 1) _ (irow .u8 (byts h)) _ _ r1
      replace hw := below_setRow hw (show w.heap.size ≤ w.heap.size + 1 by omega) (irow .u8 (byts h))
      generalize wr.setRow (w.heap.size + 1) (irow .u8 (byts h)) = w9 at *
      exact bodyPost_ret (v := .agg (irow .u8 (byts h))) (results_cell_row Tryd.results66 _ _ (w.heap.size + 1) _ _ _ _ rfl r1 Tryd.underlying24 rfl (infok8 _ hq)) rfl ⟨rfl, hw⟩

end Go.Proofs.YtgfeacnhdlgpoaaDoor

