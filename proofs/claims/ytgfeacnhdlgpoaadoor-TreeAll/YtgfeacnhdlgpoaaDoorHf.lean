import Derived.Test.YtgfeacnhdlgpoaaDoorProg
import Derived.WalkKit
import Derived.WalkSpells
import Derived.WalkLawsBesides
import Derived.Lib.QuietBelow
import Derived.BigQuiet
import Derived.Test.YtgfeacnhdlgpoaaDoorKa
import Derived.Test.YtgfeacnhdlgpoaaDoorHe
namespace Go.Proofs.YtgfeacnhdlgpoaaDoor
set_option maxRecDepth 100000
open Go Go.RowKit Go.Sort
attribute [local go_sem] setCell_drewN alloc_drewN

theorem st0_list (h : List Int) (hl : h.length = 8) : (st0 h).list = h := by
  match h, hl with
  | [a, b, c, d, e, f, g, x], _ => rfl
set_option maxRecDepth 100000 in
set_option maxHeartbeats 8000000 in
theorem r_block (h b : List Int) (hl : h.length = 8) (hb : b.length = 64) (hz : ∀ z ∈ b, 0 ≤ z ∧ z < 256) : Gives 68 #[.agg (irow .u32 h), .agg (irow .u8 b)] (.agg (irow .u32 (blk h b))) := by
  intro w
  have cK := r_constants
  have r0 := hp3_0 w (.cells (irow .u32 h) 99) (.cells (irow .u8 b) 104) (.cells (irow .u32 (zr 8)) 99)
  have r1 := hp3_1 w (.cells (irow .u32 h) 99) (.cells (irow .u8 b) 104) (.cells (irow .u32 (zr 8)) 99)
  have r2 := hp3_2 w (.cells (irow .u32 h) 99) (.cells (irow .u8 b) 104) (.cells (irow .u32 (zr 8)) 99)
  have hw : Below w.heap.size w (((w.alloc (.cells (irow .u32 h) 99)).alloc (.cells (irow .u8 b) 104)).alloc (.cells (irow .u32 (zr 8)) 99)) := ((((Below.refl _ _).alloc (Nat.le_refl _) _).alloc (by simp) _).alloc (by simp; omega) _)

  go_enter Tryd.func68, Tryd.ntmps68
  go_wp2_with (first | (refine wpList_box rfl 99 _ rfl _ rfl (b23 _) ?_) | (refine wpList_box rfl 104 _ rfl _ rfl (b24 _) ?_) | (refine wpList_alloc rfl 99 rfl (irow .u32 (zr 8)) z23 ?_) | fail)
  try simp only [size_alloc1, Act.put, List.setIfInBounds_toArray, List.set_cons_succ, List.set_cons_zero]
  generalize (((w.alloc (.cells (irow .u32 h) 99)).alloc (.cells (irow .u8 b) 104)).alloc (.cells (irow .u32 (zr 8)) 99)) = w0 at *
  refine (cK.at _).mono ?_
  rintro e_ w1 ⟨rfl, hb⟩
  replace r0 := keep hb r0
  replace r1 := keep hb r1
  replace r2 := keep hb r2
  replace hw := Below.after hw hb
  clear hb

  go_wp2_with (first | (refine wpList_alloc rfl 111 rfl (irow .u32 (zr 64)) z57 ?_) | (refine wpList_store_row rfl 111 _ _ rfl (w1.heap.size) (irow .u32 kl) rfl rfl 111 _ (hp1_0 w1 _) infok rfl (irow_one _ _) ?_; rw [setRow_alloc_new _ _ _ _ _ _ rfl]) | fail)
  have rk := hp2_0 w1 (.cells (irow .u32 kl) 111) (.cells (irow .u32 (zr 64)) 111)
  have rw := hp2_1 w1 (.cells (irow .u32 kl) 111) (.cells (irow .u32 (zr 64)) 111)
  have hB : Below w1.heap.size w1 ((w1.alloc (.cells (irow .u32 kl) 111)).alloc (.cells (irow .u32 (zr 64)) 111)) := ((Below.refl _ _).alloc (Nat.le_refl _) _).alloc (by simp) _
  have yk := lt_of_row r2
  replace r0 := keep hB r0
  replace r1 := keep hB r1
  replace r2 := keep hB r2
  replace hw := Below.after hw hB
  clear hB cK
  try simp only [size_alloc1, Act.put, List.setIfInBounds_toArray, List.set_cons_succ, List.set_cons_zero]
  generalize (w1.alloc (.cells (irow .u32 kl) 111)).alloc (.cells (irow .u32 (zr 64)) 111) = w2 at *
  generalize w1.heap.size = gK at *
  rw [← prt_zero (wds b)] at rw
  go_loopw [7] (fun i wr => ∃ k : Nat, k ≤ 16 ∧ i = .int .i64 k ∧ wr.heap[w.heap.size]? = some (.cells (irow .u32 h) 99 (0, 0)) ∧ wr.heap[w.heap.size + 1]? = some (.cells (irow .u8 b) 104 (0, 0)) ∧ wr.heap[w.heap.size + 1 + 1]? = some (.cells (irow .u32 (zr 8)) 99 (0, 0)) ∧ wr.heap[gK]? = some (.cells (irow .u32 kl) 111 (0, 0)) ∧ wr.heap[gK + 1]? = some (.cells (irow .u32 (prt (wds b) k)) 111 (0, 0)) ∧ Below w.heap.size w wr) (fun i _ => 16 - (intOf i).toNat)
  case atStart => exact ⟨0, by omega, rfl, r0, r1, r2, rk, rw, hw⟩
  case round =>
    clear r0 r1 r2 rk rw hw
    obtain ⟨k, hk, rfl, r0, r1, r2, rk, rw, hw⟩ := hrel
    by_cases hlt : k < 16
    · have hd : decide ((k : Int) < 16) = true := by simp; omega
      have c0 := irow_cell r1 (j := 4 * k + 0) (by omega)
      have c1 := irow_cell r1 (j := 4 * k + 1) (by omega)
      have c2 := irow_cell r1 (j := 4 * k + 2) (by omega)
      have c3 := irow_cell r1 (j := 4 * k + 3) (by omega)
      have b0 := bound_at hz (4 * k + 0) (by omega)
      have b1 := bound_at hz (4 * k + 1) (by omega)
      have b2 := bound_at hz (4 * k + 2) (by omega)
      have b3 := bound_at hz (4 * k + 3) (by omega)
      have hset := prt_set (wds b) k (by omega)
      have hpl := prt_len (wds b) k
      have e : wds b k = w4 (b.getD (4 * k + 0) 0) (b.getD (4 * k + 1) 0) (b.getD (4 * k + 2) 0) (b.getD (4 * k + 3) 0) := by rw [wds_lo _ hlt]; rfl
      generalize b.getD (4 * k + 0) 0 = z0 at *
      generalize b.getD (4 * k + 1) 0 = z1 at *
      generalize b.getD (4 * k + 2) 0 = z2 at *
      generalize b.getD (4 * k + 3) 0 = z3 at *
      rw [Nat.add_zero] at c0
      rw [e] at hset
      unfold w4 at hset
      clear e
      replace hset := hide hset
      go_wp2
      have k0 : ∀ p : Regrown, (grow (redrawn wr p.d) p.os).cell? ⟨w.heap.size + 1, 4 * k, none⟩ = some (.int .u8 z0) := fun p => cell_regrown (c0) p.d p.os
      have k1 : ∀ p : Regrown, (grow (redrawn wr p.d) p.os).cell? ⟨w.heap.size + 1, 4 * k + 1, none⟩ = some (.int .u8 z1) := fun p => cell_regrown (c1) p.d p.os
      have k2 : ∀ p : Regrown, (grow (redrawn wr p.d) p.os).cell? ⟨w.heap.size + 1, 4 * k + 2, none⟩ = some (.int .u8 z2) := fun p => cell_regrown (c2) p.d p.os
      have k3 : ∀ p : Regrown, (grow (redrawn wr p.d) p.os).cell? ⟨w.heap.size + 1, 4 * k + 3, none⟩ = some (.int .u8 z3) := fun p => cell_regrown (c3) p.d p.os
      refine wp_region_tail (C := fun w' => ∃ p : Regrown, w' = grow (redrawn wr p.d) p.os) 31 _ rfl rfl rfl (by kernel_rfl) (by kernel_rfl) (by kernel_rfl) (by kernel_rfl) ⟨⟨wr.drawn + 1, #[]⟩, by rw [grow_empty]; rfl⟩ ?_
      dsimp only [List.set, idle]
      go_big_quiet_step (fail)
      go_big_quiet_step (fail)
      go_big_quiet_step (fail)
      go_big_quiet_step (fail)
      go_big_quiet_step (fail)
      go_big_quiet_step (fail)
      go_big_quiet_step (fail)
      go_big_quiet_step (fail)
      go_big_quiet_step (fail)
      go_big_quiet_step (fail)
      go_big_quiet_step (fail)
      go_big_quiet_step (fail)
      go_big_quiet_step (fail)
      go_big_quiet_step (fail)
      go_big_quiet_step (fail)
      go_big_quiet_step (fail)
      go_big_quiet_step (fail)
      go_big_quiet_step (fail)
      go_big_quiet_step (fail)
      go_big_quiet_step (fail)
      go_big_quiet_step (fail)
      go_big_quiet_step (fail)
      go_big_quiet_step (fail)
      go_big_quiet_step (fail)
      go_big_quiet_step (fail)
      go_big_quiet_step (fail)
      go_big_quiet_step (fail)
      go_big_quiet_step (fail)
      go_big_quiet_step (fail)
      go_big_quiet_step (fail)
      go_big_quiet_step (fail)
      refine wpQuiet_idle rfl rfl rfl ?_
      rintro _ ⟨p, rfl⟩
      have hb := below_regrown wr p.d p.os
      generalize grow (redrawn wr p.d) p.os = w3 at *
      clear k0 k1 k2 k3
      replace r0 := keep hb r0
      replace r1 := keep hb r1
      replace r2 := keep hb r2
      replace rk := keep hb rk
      replace rw := keep hb rw
      replace hw := Below.after hw hb
      clear hb

      have cz := irow_cell rw (j := k) (by omega)
      have hf := row_frozen rw k
      clear c0 c1 c2 c3 b0 b1 b2 b3
      go_wp2
      refine ⟨⟨k + 1, by omega, by go_num, heap_other r0 (by omega), heap_other r1 (by omega), heap_other r2 (by omega), heap_other rk (by omega), by rw [← hset.out]; exact irow_set rw k _, hw.setCell (show w.heap.size ≤ gK + 1 by omega) _⟩, ?_⟩
      simp [intOf]; omega
    · obtain rfl : k = 16 := by omega
      have hd : decide ((16 : Int) < 16) = false := by decide
      go_wp2
      go_loopw [8] (fun i wr => ∃ k : Nat, 16 ≤ k ∧ k ≤ 64 ∧ i = .int .i64 k ∧ wr.heap[w.heap.size]? = some (.cells (irow .u32 h) 99 (0, 0)) ∧ wr.heap[w.heap.size + 1]? = some (.cells (irow .u8 b) 104 (0, 0)) ∧ wr.heap[w.heap.size + 1 + 1]? = some (.cells (irow .u32 (zr 8)) 99 (0, 0)) ∧ wr.heap[gK]? = some (.cells (irow .u32 kl) 111 (0, 0)) ∧ wr.heap[gK + 1]? = some (.cells (irow .u32 (prt (wds b) k)) 111 (0, 0)) ∧ Below w.heap.size w wr) (fun i _ => 64 - (intOf i).toNat)
      case atStart => exact ⟨16, by omega, by omega, rfl, r0, r1, r2, rk, rw, hw⟩
      case round =>
        clear r0 r1 r2 rk rw hw hd
        obtain ⟨k, hk0, hk, rfl, r0, r1, r2, rk, rw, hw⟩ := hrel
        by_cases hlt : k < 64
        · have hd : decide ((k : Int) < 64) = true := by simp; omega
          have d2 := irow_cell rw (j := k - 2) (by rw [prt_len]; omega)
          have d7 := irow_cell rw (j := k - 7) (by rw [prt_len]; omega)
          have d15 := irow_cell rw (j := k - 15) (by rw [prt_len]; omega)
          have d16 := irow_cell rw (j := k - 16) (by rw [prt_len]; omega)
          rw [prt_get _ _ (by omega) (by omega)] at d2 d7 d15 d16
          have c1 := r_lo1 (wds b (k - 2))
          have c0 := r_lo0 (wds b (k - 15))
          have hset := prt_set (wds b) k (by omega)
          have hpl := prt_len (wds b) k
          rw [wds_hi b (t := k) (by omega)] at hset
          generalize lo1 (wds b (k - 2)) = q1 at *
          generalize lo0 (wds b (k - 15)) = q0 at *
          generalize wds b (k - 2) = x2 at *
          generalize wds b (k - 7) = x7 at *
          generalize wds b (k - 15) = x15 at *
          generalize wds b (k - 16) = x16 at *
          replace hset := hide hset
          go_wp2
          have k2 : ∀ p : Regrown, (grow (redrawn wr p.d) p.os).cell? ⟨gK + 1, k - 2, none⟩ = some (.int .u32 x2) := fun p => cell_regrown (d2) p.d p.os
          have k7 : ∀ p : Regrown, (grow (redrawn wr p.d) p.os).cell? ⟨gK + 1, k - 7, none⟩ = some (.int .u32 x7) := fun p => cell_regrown (d7) p.d p.os
          have k15 : ∀ p : Regrown, (grow (redrawn wr p.d) p.os).cell? ⟨gK + 1, k - 15, none⟩ = some (.int .u32 x15) := fun p => cell_regrown (d15) p.d p.os
          have k16 : ∀ p : Regrown, (grow (redrawn wr p.d) p.os).cell? ⟨gK + 1, k - 16, none⟩ = some (.int .u32 x16) := fun p => cell_regrown (d16) p.d p.os
          refine wp_region_tail (C := fun w' => ∃ p : Regrown, w' = grow (redrawn wr p.d) p.os) 23 _ rfl rfl rfl (by kernel_rfl) (by kernel_rfl) (by kernel_rfl) (by kernel_rfl) ⟨⟨wr.drawn + 1, #[]⟩, by rw [grow_empty]; rfl⟩ ?_
          dsimp only [List.set, idle]
          go_big_quiet_step (fail)
          go_big_quiet_step (fail)
          go_big_quiet_step (fail)
          go_big_quiet_step (fail)
          go_big_quiet_step (fail)
          go_big_quiet_step (exact c1.re)
          go_big_quiet_step (fail)
          go_big_quiet_step (fail)
          go_big_quiet_step (fail)
          go_big_quiet_step (fail)
          go_big_quiet_step (fail)
          go_big_quiet_step (fail)
          go_big_quiet_step (fail)
          go_big_quiet_step (fail)
          go_big_quiet_step (fail)
          go_big_quiet_step (exact c0.re)
          go_big_quiet_step (fail)
          go_big_quiet_step (fail)
          go_big_quiet_step (fail)
          go_big_quiet_step (fail)
          go_big_quiet_step (fail)
          go_big_quiet_step (fail)
          go_big_quiet_step (fail)
          refine wpQuiet_idle rfl rfl rfl ?_
          rintro _ ⟨p, rfl⟩
          have hb := below_regrown wr p.d p.os
          generalize grow (redrawn wr p.d) p.os = w3 at *
          clear k2 k7 k15 k16
          replace r0 := keep hb r0
          replace r1 := keep hb r1
          replace r2 := keep hb r2
          replace rk := keep hb rk
          replace rw := keep hb rw
          replace hw := Below.after hw hb
          clear hb

          have cz := irow_cell rw (j := k) (by omega)
          have hf := row_frozen rw k
          clear d2 d7 d15 d16 c0 c1
          go_wp2
          refine ⟨⟨k + 1, by omega, by omega, by go_num, heap_other r0 (by omega), heap_other r1 (by omega), heap_other r2 (by omega), heap_other rk (by omega), by rw [← hset.out]; exact irow_set rw k _, hw.setCell (show w.heap.size ≤ gK + 1 by omega) _⟩, ?_⟩
          simp [intOf]; omega
        · obtain rfl : k = 64 := by omega
          have hd : decide ((64 : Int) < 64) = false := by decide
          go_wp2_with (first | (refine wpList_load_want rfl 99 _ rfl (w.heap.size) rfl 99 (irow .u32 h) (0, 0) _ r0 Tryd.underlying99 rfl (info23 _ hl) ?_) | (refine wpList_alloc rfl 99 rfl (irow .u32 (zr 8)) z23 ?_) | (refine wpList_store_row rfl 99 _ _ rfl (wr.heap.size) (irow .u32 h) rfl rfl 99 _ (hp1_0 wr _) (info23 _ hl) (fit8 _ _ (zr_len 8) hl) (irow_one _ _) ?_; rw [setRow_alloc_new _ _ _ _ _ _ rfl]) | fail)
          have rv := hp1_0 wr (.cells (irow .u32 h) 99)
          have hB : Below wr.heap.size wr (wr.alloc (.cells (irow .u32 h) 99)) := (Below.refl _ _).alloc (Nat.le_refl _) _
          have yv := lt_of_row rw
          replace r0 := keep hB r0
          replace r2 := keep hB r2
          replace rk := keep hB rk
          replace rw := keep hB rw
          replace hw := Below.after hw hB
          clear hB r1
          try simp only [size_alloc1, Act.put, List.setIfInBounds_toArray, List.set_cons_succ, List.set_cons_zero]
          generalize wr.alloc (.cells (irow .u32 h) 99) = w4_ at *
          generalize wr.heap.size = gV at *
          rw [← st0_list h hl, show st0 h = rs h (wds b) 0 from rfl] at rv
          go_loopw [10] (fun i wr => ∃ k : Nat, k ≤ 64 ∧ i = .int .i64 k ∧ wr.heap[w.heap.size]? = some (.cells (irow .u32 h) 99 (0, 0)) ∧ wr.heap[w.heap.size + 1 + 1]? = some (.cells (irow .u32 (zr 8)) 99 (0, 0)) ∧ wr.heap[gK]? = some (.cells (irow .u32 kl) 111 (0, 0)) ∧ wr.heap[gK + 1]? = some (.cells (irow .u32 (prt (wds b) 64)) 111 (0, 0)) ∧ wr.heap[gV]? = some (.cells (irow .u32 (rs h (wds b) k).list) 99 (0, 0)) ∧ Below w.heap.size w wr) (fun i _ => 64 - (intOf i).toNat)
          case atStart => exact ⟨0, by omega, rfl, r0, r2, rk, rw, rv, hw⟩
          case round =>
            clear r0 r2 rk rw rv hw hd
            obtain ⟨k, hk, rfl, r0, r2, rk, rw, rv, hw⟩ := hrel
            by_cases hlt : k < 64
            · have hd : decide ((k : Int) < 64) = true := by simp; omega
              have hn : rs h (wds b) (k + 1) = rnd (kl.getD k 0) (wds b k) (rs h (wds b) k) := rfl
              generalize rs h (wds b) k = sk at *
              obtain ⟨a, bb, c, d, e, f, g, x⟩ := sk
              unfold St8.list at rv
              dsimp only at rv
              have dk := irow_cell rk (j := k) hlt
              have dw := irow_cell rw (j := k) (by rw [prt_len]; omega)
              rw [prt_get _ _ hlt hlt] at dw
              have c1 := r_up1 e
              have c0 := r_up0 a
              simp only [rnd, one1, two2, notx] at hn
              generalize up1 e = q1 at *
              generalize up0 a = q0 at *
              generalize kl.getD k 0 = K at *
              generalize wds b k = wk at *
              replace hn := hide hn
              have d0 : wr.cell? ⟨gV, 0, none⟩ = some (.int .u32 a) := irow_cell rv (j := 0) (show 0 < 8 by decide)
              have d1 : wr.cell? ⟨gV, 1, none⟩ = some (.int .u32 bb) := irow_cell rv (j := 1) (show 1 < 8 by decide)
              have d2 : wr.cell? ⟨gV, 2, none⟩ = some (.int .u32 c) := irow_cell rv (j := 2) (show 2 < 8 by decide)
              have d3 : wr.cell? ⟨gV, 3, none⟩ = some (.int .u32 d) := irow_cell rv (j := 3) (show 3 < 8 by decide)
              have d4 : wr.cell? ⟨gV, 4, none⟩ = some (.int .u32 e) := irow_cell rv (j := 4) (show 4 < 8 by decide)
              have d5 : wr.cell? ⟨gV, 5, none⟩ = some (.int .u32 f) := irow_cell rv (j := 5) (show 5 < 8 by decide)
              have d6 : wr.cell? ⟨gV, 6, none⟩ = some (.int .u32 g) := irow_cell rv (j := 6) (show 6 < 8 by decide)
              have d7 : wr.cell? ⟨gV, 7, none⟩ = some (.int .u32 x) := irow_cell rv (j := 7) (show 7 < 8 by decide)
              go_wp2
              have k4 : ∀ p : Regrown, (grow (redrawn wr p.d) p.os).cell? ⟨gV, 4, none⟩ = some (.int .u32 e) := fun p => cell_regrown (d4) p.d p.os
              have k5 : ∀ p : Regrown, (grow (redrawn wr p.d) p.os).cell? ⟨gV, 5, none⟩ = some (.int .u32 f) := fun p => cell_regrown (d5) p.d p.os
              have k6 : ∀ p : Regrown, (grow (redrawn wr p.d) p.os).cell? ⟨gV, 6, none⟩ = some (.int .u32 g) := fun p => cell_regrown (d6) p.d p.os
              have k7 : ∀ p : Regrown, (grow (redrawn wr p.d) p.os).cell? ⟨gV, 7, none⟩ = some (.int .u32 x) := fun p => cell_regrown (d7) p.d p.os
              have kk : ∀ p : Regrown, (grow (redrawn wr p.d) p.os).cell? ⟨gK, k, none⟩ = some (.int .u32 K) := fun p => cell_regrown (dk) p.d p.os
              have kw : ∀ p : Regrown, (grow (redrawn wr p.d) p.os).cell? ⟨gK + 1, k, none⟩ = some (.int .u32 wk) := fun p => cell_regrown (dw) p.d p.os
              refine wp_region_quiet_below (by kernel_rfl) (by kernel_rfl) ?_
              go_big_quiet_step (fail)
              go_big_quiet_step (fail)
              go_big_quiet_step (fail)
              go_big_quiet_step (fail)
              go_big_quiet_step (exact c1.re)
              go_big_quiet_step (fail)
              go_big_quiet_step (fail)
              go_big_quiet_step (fail)
              go_big_quiet_step (fail)
              go_big_quiet_step (fail)
              go_big_quiet_step (fail)
              go_big_quiet_step (fail)
              go_big_quiet_step (fail)
              go_big_quiet_step (fail)
              go_big_quiet_step (fail)
              go_big_quiet_step (fail)
              go_big_quiet_step (fail)
              go_big_quiet_step (fail)
              go_big_quiet_step (fail)
              go_big_quiet_step (fail)
              go_big_quiet_step (fail)
              go_big_quiet_step (fail)
              go_big_quiet_step (fail)
              go_big_quiet_step (fail)
              go_big_quiet_step (fail)
              go_big_quiet_step (fail)
              go_big_quiet_step (fail)
              go_big_quiet_step (fail)
              refine wpQuiet_nil ?_
              rintro _ ⟨p, rfl⟩
              have hb := below_regrown wr p.d p.os
              generalize grow (redrawn wr p.d) p.os = w5 at *
              clear k4 k5 k6 k7 kk kw
              replace r0 := keep hb r0
              replace r2 := keep hb r2
              replace rk := keep hb rk
              replace rw := keep hb rw
              replace rv := keep hb rv
              replace hw := Below.after hw hb
              clear hb

              clear d0 d1 d2 d3 d4 d5 d6 d7 dk dw
              have d0 : w5.cell? ⟨gV, 0, none⟩ = some (.int .u32 a) := irow_cell rv (j := 0) (show 0 < 8 by decide)
              have d1 : w5.cell? ⟨gV, 1, none⟩ = some (.int .u32 bb) := irow_cell rv (j := 1) (show 1 < 8 by decide)
              have d2 : w5.cell? ⟨gV, 2, none⟩ = some (.int .u32 c) := irow_cell rv (j := 2) (show 2 < 8 by decide)
              go_wp2
              have k0 : ∀ p : Regrown, (grow (redrawn w5 p.d) p.os).cell? ⟨gV, 0, none⟩ = some (.int .u32 a) := fun p => cell_regrown (d0) p.d p.os
              have k1 : ∀ p : Regrown, (grow (redrawn w5 p.d) p.os).cell? ⟨gV, 1, none⟩ = some (.int .u32 bb) := fun p => cell_regrown (d1) p.d p.os
              have k2 : ∀ p : Regrown, (grow (redrawn w5 p.d) p.os).cell? ⟨gV, 2, none⟩ = some (.int .u32 c) := fun p => cell_regrown (d2) p.d p.os
              refine wp_region_quiet_below (by kernel_rfl) (by kernel_rfl) ?_
              go_big_quiet_step (fail)
              go_big_quiet_step (fail)
              go_big_quiet_step (exact c0.re)
              go_big_quiet_step (fail)
              go_big_quiet_step (fail)
              go_big_quiet_step (fail)
              go_big_quiet_step (fail)
              go_big_quiet_step (fail)
              go_big_quiet_step (fail)
              go_big_quiet_step (fail)
              go_big_quiet_step (fail)
              go_big_quiet_step (fail)
              go_big_quiet_step (fail)
              go_big_quiet_step (fail)
              go_big_quiet_step (fail)
              go_big_quiet_step (fail)
              go_big_quiet_step (fail)
              go_big_quiet_step (fail)
              go_big_quiet_step (fail)
              go_big_quiet_step (fail)
              go_big_quiet_step (fail)
              go_big_quiet_step (fail)
              refine wpQuiet_nil ?_
              rintro _ ⟨p, rfl⟩
              have hb := below_regrown w5 p.d p.os
              generalize grow (redrawn w5 p.d) p.os = w6 at *
              clear k0 k1 k2
              replace r0 := keep hb r0
              replace r2 := keep hb r2
              replace rk := keep hb rk
              replace rw := keep hb rw
              replace rv := keep hb rv
              replace hw := Below.after hw hb
              clear hb

              clear d0 d1 d2
              have d0 : w6.cell? ⟨gV, 0, none⟩ = some (.int .u32 a) := irow_cell rv (j := 0) (show 0 < 8 by decide)
              have d1 : w6.cell? ⟨gV, 1, none⟩ = some (.int .u32 bb) := irow_cell rv (j := 1) (show 1 < 8 by decide)
              have d2 : w6.cell? ⟨gV, 2, none⟩ = some (.int .u32 c) := irow_cell rv (j := 2) (show 2 < 8 by decide)
              have d3 : w6.cell? ⟨gV, 3, none⟩ = some (.int .u32 d) := irow_cell rv (j := 3) (show 3 < 8 by decide)
              have d4 : w6.cell? ⟨gV, 4, none⟩ = some (.int .u32 e) := irow_cell rv (j := 4) (show 4 < 8 by decide)
              have d5 : w6.cell? ⟨gV, 5, none⟩ = some (.int .u32 f) := irow_cell rv (j := 5) (show 5 < 8 by decide)
              have d6 : w6.cell? ⟨gV, 6, none⟩ = some (.int .u32 g) := irow_cell rv (j := 6) (show 6 < 8 by decide)
              generalize hO : (x + q1 + bits .xor .u32 (bits .and .u32 e f) (bits .and .u32 (bits .xor .u32 IntKind.u32.max e) g) + K + wk) % 4294967296 = o1 at *
              generalize hT : (q0 + bits .xor .u32 (bits .xor .u32 (bits .and .u32 a bb) (bits .and .u32 a c)) (bits .and .u32 bb c)) % 4294967296 = o2 at *
              clear hO hT
              go_wp2_with (first | (refine wpList_store_row rfl 99 _ _ rfl gV (irow .u32 [(o1 + o2) % 4294967296, a, bb, c, (d + o1) % 4294967296, e, f, g]) rfl rfl 99 _ rv (info23 _ rfl) (fit8 _ _ rfl rfl) (irow_one _ _) ?_) | fail)
              refine ⟨⟨k + 1, by omega, by go_num, (setRow_other w6 gV (w.heap.size) (irow .u32 [(o1 + o2) % 4294967296, a, bb, c, (d + o1) % 4294967296, e, f, g]) (by omega)).trans r0, (setRow_other w6 gV (w.heap.size + 1 + 1) (irow .u32 [(o1 + o2) % 4294967296, a, bb, c, (d + o1) % 4294967296, e, f, g]) (by omega)).trans r2, (setRow_other w6 gV gK (irow .u32 [(o1 + o2) % 4294967296, a, bb, c, (d + o1) % 4294967296, e, f, g]) (by omega)).trans rk, (setRow_other w6 gV (gK + 1) (irow .u32 [(o1 + o2) % 4294967296, a, bb, c, (d + o1) % 4294967296, e, f, g]) (by omega)).trans rw, by rw [hn.out]; exact setRow_heap w6 gV _ (irow .u32 [(o1 + o2) % 4294967296, a, bb, c, (d + o1) % 4294967296, e, f, g]) _ _ rv, below_setRow hw (show w.heap.size ≤ gV by omega) (irow .u32 [(o1 + o2) % 4294967296, a, bb, c, (d + o1) % 4294967296, e, f, g])⟩, ?_⟩
              simp [intOf]; omega
            · obtain rfl : k = 64 := by omega
              have hd : decide ((64 : Int) < 64) = false := by decide
              have hfin : blk h b = sums h (rs h (wds b) 64).list 8 := rfl
              have he := list_len (rs h (wds b) 64)
              generalize (rs h (wds b) 64).list = e at *
              rw [← sums_zero h e hl] at r0
              go_wp2
              go_loopw [13] (fun i wr => ∃ k : Nat, k ≤ 8 ∧ i = .int .i64 k ∧ wr.heap[w.heap.size]? = some (.cells (irow .u32 (sums h e k)) 99 (0, 0)) ∧ wr.heap[w.heap.size + 1 + 1]? = some (.cells (irow .u32 (zr 8)) 99 (0, 0)) ∧ wr.heap[gV]? = some (.cells (irow .u32 e) 99 (0, 0)) ∧ Below w.heap.size w wr) (fun i _ => 8 - (intOf i).toNat)
              case atStart => exact ⟨0, by omega, rfl, r0, r2, rv, hw⟩
              case round =>
                clear r0 r2 rk rw rv hw hd
                obtain ⟨k, hk, rfl, r0, r2, rg, hw⟩ := hrel
                by_cases hlt : k < 8
                · have hd : decide ((k : Int) < 8) = true := by simp; omega
                  have dh := irow_cell r0 (j := k) (by rw [sums_len]; exact hlt)
                  have de := irow_cell rg (j := k) (by rw [he]; exact hlt)
                  rw [sums_get _ _ _ hlt] at dh
                  have hset := sums_set h e k hlt
                  have hpl := sums_len h e k
                  generalize h.getD k 0 = x at *
                  generalize e.getD k 0 = y at *
                  replace hset := hide hset
                  go_wp2
                  have k0 : ∀ p : Regrown, (grow (redrawn wr p.d) p.os).cell? ⟨w.heap.size, k, none⟩ = some (.int .u32 x) := fun p => cell_regrown (dh) p.d p.os
                  have k1 : ∀ p : Regrown, (grow (redrawn wr p.d) p.os).cell? ⟨gV, k, none⟩ = some (.int .u32 y) := fun p => cell_regrown (de) p.d p.os
                  refine wp_region_tail (C := fun w' => ∃ p : Regrown, w' = grow (redrawn wr p.d) p.os) 9 _ rfl rfl rfl (by kernel_rfl) (by kernel_rfl) (by kernel_rfl) (by kernel_rfl) ⟨⟨wr.drawn + 1, #[]⟩, by rw [grow_empty]; rfl⟩ ?_
                  dsimp only [List.set, idle]
                  go_big_quiet_step (fail)
                  go_big_quiet_step (fail)
                  go_big_quiet_step (fail)
                  go_big_quiet_step (fail)
                  go_big_quiet_step (fail)
                  go_big_quiet_step (fail)
                  go_big_quiet_step (fail)
                  go_big_quiet_step (fail)
                  go_big_quiet_step (fail)
                  refine wpQuiet_idle rfl rfl rfl ?_
                  rintro _ ⟨p, rfl⟩
                  have hb := below_regrown wr p.d p.os
                  generalize grow (redrawn wr p.d) p.os = w3 at *
                  clear k0 k1
                  replace r0 := keep hb r0
                  replace r2 := keep hb r2
                  replace rg := keep hb rg
                  replace hw := Below.after hw hb
                  clear hb

                  have cz := irow_cell r0 (j := k) (by omega)
                  have hf := row_frozen r0 k
                  clear dh de
                  go_wp2
                  refine ⟨⟨k + 1, by omega, by go_num, by rw [← hset.out]; exact irow_set r0 k _, heap_other r2 (by omega), heap_other rg (by omega), hw.setCell (show w.heap.size ≤ w.heap.size by omega) _⟩, ?_⟩
                  simp [intOf]; omega
                · obtain rfl : k = 8 := by omega
                  have hd : decide ((8 : Int) < 8) = false := by decide
                  have hq := sums_len h e 8
                  rw [← hfin] at r0 hq
                  go_wp2_with (first | (refine wpList_load_want rfl 99 _ rfl (w.heap.size) rfl 99 (irow .u32 (blk h b)) (0, 0) _ r0 Tryd.underlying99 rfl (info23 _ hq) ?_) | (refine wpList_store_row rfl 99 _ _ rfl (w.heap.size + 1 + 1) (irow .u32 (blk h b)) rfl rfl 99 _ r2 (info23 _ hq) (fit8 _ _ (zr_len 8) hq) (irow_one _ _) ?_) | fail)
                  replace r2 := setRow_heap wr (w.heap.size + 1 + 1) _ (irow .u32 (blk h b)) _ _ r2
                  replace hw := below_setRow hw (show w.heap.size ≤ w.heap.size + 1 + 1 by omega) (irow .u32 (blk h b))
                  generalize wr.setRow (w.heap.size + 1 + 1) (irow .u32 (blk h b)) = w9 at *
                  exact bodyPost_ret (v := .agg (irow .u32 (blk h b))) (results_cell_row Tryd.results68 _ _ (w.heap.size + 1 + 1) _ _ _ _ rfl r2 Tryd.underlying99 rfl (info23 _ hq)) rfl ⟨rfl, hw⟩

end Go.Proofs.YtgfeacnhdlgpoaaDoor

