import Derived.Test.YtgfeacnhdlgpoaaDoorProg
import Derived.WalkKit
import Derived.WalkSpells
import Derived.WalkLawsBesides
import Derived.Lib.QuietBelow
import Derived.BigQuiet
import Derived.Test.YtgfeacnhdlgpoaaDoorKa
import Derived.Test.YtgfeacnhdlgpoaaDoorHv
import Derived.Test.YtgfeacnhdlgpoaaDoorHf
import Derived.Test.YtgfeacnhdlgpoaaDoorHq
namespace Go.Proofs.YtgfeacnhdlgpoaaDoor
set_option maxRecDepth 100000
open Go Go.RowKit Go.Sort
attribute [local go_sem] setCell_drewN alloc_drewN

/-- A slice that came in: its bytes, how many there may be, and no room behind nothing. -/
def BysN (W : World) (v : Value) (bs : List Int) : Prop := Bys W v bs ∧ bs.length ≤ 140737488351232 ∧ (∀ a l c, v = .slice a l c → a = none → c = 0)
theorem div_of {k n : Nat} (h : 64 * k ≤ n) (h2 : ¬ 64 * k + 64 ≤ n) : n / 64 = k := by omega
set_option maxRecDepth 100000 in
set_option maxHeartbeats 4000000 in
theorem r_fold (h bs : List Int) (hl : h.length = 8) (w : World) (v : Value) (hB : Bys w v bs) (hlim : bs.length ≤ 9223372036854775700) : Calls Tryd.prog 61 #[.agg (irow .u32 h), v] w fun e w' => e = .returned (.agg (irow .u32 (fol h bs (bs.length / 64)))) ∧ Below w.heap.size w w' := by
  have r0 := hp2_0 w (.cells (irow .u32 h) 99) (.cells (irow .u32 (zr 8)) 99)
  have r1 := hp2_1 w (.cells (irow .u32 h) 99) (.cells (irow .u32 (zr 8)) 99)
  have hw : Below w.heap.size w ((w.alloc (.cells (irow .u32 h) 99)).alloc (.cells (irow .u32 (zr 8)) 99)) := (((Below.refl _ _).alloc (Nat.le_refl _) _).alloc (by simp) _)

  obtain ⟨ao, cap, rfl, hl63, hc, hz⟩ := hB
  have hfl := fol_len hl bs
  generalize elen : bs.length = len at *
  go_enter Tryd.func61, Tryd.ntmps61
  go_wp2_with (first | (refine wpList_box rfl 99 _ rfl _ rfl (b23 _) ?_) | (refine wpList_alloc rfl 99 rfl (irow .u32 (zr 8)) z23 ?_) | fail)
  try simp only [size_alloc1, Act.put, List.setIfInBounds_toArray, List.set_cons_succ, List.set_cons_zero]
  generalize ((w.alloc (.cells (irow .u32 h) 99)).alloc (.cells (irow .u32 (zr 8)) 99)) = w0 at *
  go_loopw [5] (fun i wr => ∃ k : Nat, 64 * k ≤ len ∧ i = .int .i64 ((64 * k : Nat) : Int) ∧ wr.heap[w.heap.size]? = some (.cells (irow .u32 (fol h bs k)) 99 (0, 0)) ∧ wr.heap[w.heap.size + 1]? = some (.cells (irow .u32 (zr 8)) 99 (0, 0)) ∧ Below w.heap.size w wr) (fun i _ => len + 64 - (intOf i).toNat)
  case atStart => exact ⟨0, by omega, rfl, r0, r1, hw⟩
  case round =>
    clear r0 r1 hw
    obtain ⟨k, hk, rfl, r0, r1, hw⟩ := hrel
    have hq := hfl k
    by_cases hlt : 64 * k + 64 ≤ len
    · have hd : decide (((64 * k : Nat) : Int) + 64 ≤ (len : Int)) = true := by simp; omega
      have hcB := r_block (fol h bs k) (chunk bs k) hq (chunk_len bs k) (chunk_bd hz k)
      have hnext : fol h bs (k + 1) = blk (fol h bs k) (chunk bs k) := rfl
      have hch : prt (wat bs k) 64 = chunk bs k := rfl
      generalize ekk : 64 * k = kk at *
      go_wp2_with (first | (refine wpList_alloc rfl 104 rfl (irow .u8 (zr 64)) z24 ?_) | fail)
      have rx := hp1_0 wr (.cells (irow .u8 (zr 64)) 104)
      have hb : Below wr.heap.size wr (wr.alloc (.cells (irow .u8 (zr 64)) 104)) := (Below.refl _ _).alloc (Nat.le_refl _) _
      have yx := lt_of_row r1
      have yw := hw.size
      replace r0 := keep hb r0
      replace r1 := keep hb r1
      replace hw := Below.after hw hb
      clear hb
      try simp only [size_alloc1, Act.put, List.setIfInBounds_toArray, List.set_cons_succ, List.set_cons_zero]
      generalize wr.alloc (.cells (irow .u8 (zr 64)) 104) = w1 at *
      generalize wr.heap.size = gX at *
      rw [← prt_zero (wat bs k)] at rx
      go_loopw [7] (fun i wr => ∃ j : Nat, j ≤ 64 ∧ i = .int .i64 j ∧ wr.heap[gX]? = some (.cells (irow .u8 (prt (wat bs k) j)) 104 (0, 0)) ∧ wr.heap[w.heap.size]? = some (.cells (irow .u32 (fol h bs k)) 99 (0, 0)) ∧ wr.heap[w.heap.size + 1]? = some (.cells (irow .u32 (zr 8)) 99 (0, 0)) ∧ Below w.heap.size w wr) (fun i _ => 64 - (intOf i).toNat)
      case atStart => exact ⟨0, by omega, rfl, rx, r0, r1, hw⟩
      case round =>
        clear r0 r1 rx hw hd
        obtain ⟨j, hj, rfl, rx, r0, r1, hw⟩ := hrel
        by_cases hlj : j < 64
        · have hdj : decide ((j : Int) < 64) = true := by simp; omega
          obtain ⟨bb, off, rfl, hb1, hb2⟩ := hc (kk + j) (by omega)
          replace hb2 := (hw.cell (p := ⟨bb, off + (kk + j), none⟩) hb1).trans hb2
          have hset := prt_set (wat bs k) j hlj
          have hpl := prt_len (wat bs k) j
          have e : wat bs k j = bs.getD (kk + j) 0 := by unfold wat; rw [ekk]
          rw [e] at hset
          generalize bs.getD (kk + j) 0 = z at *
          have cz := irow_cell rx (j := j) (by omega)
          have hf := row_frozen rx j
          clear hc e hch hnext hcB
          replace hset := hide hset
          go_wp2
          refine ⟨⟨j + 1, by omega, by go_num, by rw [← hset.out]; exact irow_set rx j _, heap_other r0 (by omega), heap_other r1 (by omega), hw.setCell (show w.heap.size ≤ gX by omega) _⟩, ?_⟩
          simp [intOf]; omega
        · obtain rfl : j = 64 := by omega
          have hdj : decide ((64 : Int) < 64) = false := by decide
          rw [hch] at rx
          have hcl := chunk_len bs k
          clear hc hch
          go_wp2_with (first | (refine wpList_load_want rfl 99 _ rfl (w.heap.size) rfl 99 (irow .u32 (fol h bs k)) (0, 0) _ r0 Tryd.underlying99 rfl (info23 _ hq) ?_) | (refine wpList_load_want rfl 104 _ rfl (gX) rfl 104 (irow .u8 (chunk bs k)) (0, 0) _ rx Tryd.underlying104 rfl (info24 _ hcl) ?_) | fail)
          refine (hcB.at _).mono ?_
          rintro e_ w5 ⟨rfl, hb⟩
          replace r0 := keep hb r0
          replace r1 := keep hb r1
          replace hw := Below.after hw hb
          clear hb hcB
          have hbl := blk_len (fol h bs k) (chunk bs k)
          rw [← hnext] at hbl ⊢
          go_wp2_with (first | (refine wpList_store_row rfl 99 _ _ rfl (w.heap.size) (irow .u32 (fol h bs (k + 1))) rfl rfl 99 _ r0 (info23 _ hbl) (fit8 _ _ hq hbl) (irow_one _ _) ?_) | fail)
          refine ⟨⟨k + 1, by omega, by congr 1; omega, setRow_heap w5 (w.heap.size) _ _ _ _ r0, (setRow_other w5 (w.heap.size) (w.heap.size + 1) _ (by omega)).trans r1, below_setRow hw (Nat.le_refl _) _⟩, ?_⟩
          simp [intOf]; omega
    · have hd : decide (((64 * k : Nat) : Int) + 64 ≤ (len : Int)) = false := by simp; omega
      have ek := div_of hk hlt
      rw [← ek] at r0 hq
      go_wp2_with (first | (refine wpList_load_want rfl 99 _ rfl (w.heap.size) rfl 99 (irow .u32 (fol h bs (len / 64))) (0, 0) _ r0 Tryd.underlying99 rfl (info23 _ hq) ?_) | (refine wpList_store_row rfl 99 _ _ rfl (w.heap.size + 1) (irow .u32 (fol h bs (len / 64))) rfl rfl 99 _ r1 (info23 _ hq) (fit8 _ _ (zr_len 8) hq) (irow_one _ _) ?_) | fail)
      replace r1 := setRow_heap wr (w.heap.size + 1) _ (irow .u32 (fol h bs (len / 64))) _ _ r1
      replace hw := below_setRow hw (show w.heap.size ≤ w.heap.size + 1 by omega) (irow .u32 (fol h bs (len / 64)))
      generalize wr.setRow (w.heap.size + 1) (irow .u32 (fol h bs (len / 64))) = w9 at *
      exact bodyPost_ret (v := .agg (irow .u32 (fol h bs (len / 64)))) (results_cell_row Tryd.results61 _ _ (w.heap.size + 1) _ _ _ _ rfl r1 Tryd.underlying99 rfl (info23 _ hq)) rfl ⟨rfl, hw⟩
end Go.Proofs.YtgfeacnhdlgpoaaDoor

