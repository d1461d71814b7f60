import Derived.Test.YtamieopjigjfiaaDoorProg
import Derived.WalkKit
import Derived.WalkSpells
import Derived.WalkLawsBesides
import Derived.Lib.QuietBelow
import Derived.BigQuiet
import Derived.Test.YtamieopjigjfiaaDoorKa
import Derived.Test.YtamieopjigjfiaaDoorWi
import Derived.Test.YtamieopjigjfiaaDoorWf
namespace Go.Proofs.YtamieopjigjfiaaDoor
set_option maxRecDepth 100000
open Go Go.RowKit Go.Sort
attribute [local go_sem] setCell_drewN alloc_drewN


/-! A column written byte by byte. -/
def xc (x : B × B × B × B) : Nat → B
  | 0 => x.1
  | 1 => x.2.1
  | 2 => x.2.2.1
  | _ => x.2.2.2
def pj (l : List B) (i : Nat) (x : B × B × B × B) : Nat → List B
  | 0 => l
  | j + 1 => (pj l i x j).set (4 * i + j) (xc x j)
theorem pj_len (l : List B) (i : Nat) (x : B × B × B × B) (j : Nat) : (pj l i x j).length = l.length := by
  induction j with
  | zero => rfl
  | succ j ih => rw [pj, List.length_set, ih]
theorem pj_four (l : List B) (i : Nat) (x : B × B × B × B) : pj l i x 4 = put4 l i x := rfl
theorem pj_low (l : List B) (i : Nat) (x : B × B × B × B) (j n : Nat) (h : n < 4 * i) : (pj l i x j).getD n 0#8 = l.getD n 0#8 := by
  induction j with
  | zero => rfl
  | succ j ih => rw [pj, List.getD_eq_getElem?_getD, List.getElem?_set, if_neg (by omega), ← List.getD_eq_getElem?_getD, ih]
theorem col_get (l : List B) (i j : Nat) (h : j < 4) : l.getD (4 * i + j) 0#8 = xc (colOf l i) j := by
  rcases (show j = 0 ∨ j = 1 ∨ j = 2 ∨ j = 3 by omega) with rfl | rfl | rfl | rfl <;> rfl
theorem xc_xor (x y : B × B × B × B) (j : Nat) (h : j < 4) : xc (xorC x y) j = xc x j ^^^ xc y j := by
  rcases (show j = 0 ∨ j = 1 ∨ j = 2 ∨ j = 3 by omega) with rfl | rfl | rfl | rfl <;> rfl
def L4 (x : B × B × B × B) : List B := [x.1, x.2.1, x.2.2.1, x.2.2.2]
theorem L4_len (x : B × B × B × B) : (L4 x).length = 4 := rfl
theorem L4_get (x : B × B × B × B) (j : Nat) (h : j < 4) : (L4 x).getD j 0#8 = xc x j := by
  rcases (show j = 0 ∨ j = 1 ∨ j = 2 ∨ j = 3 by omega) with rfl | rfl | rfl | rfl <;> rfl
theorem bl_col (l : List B) (hl : l.length = 240) (i : Nat) (h : i < 60) : (irow .u8 (bl (l))).extract (i * 4) (i * 4 + (irow .u8 (bl (L4 (colOf l i)))).size) = (irow .u8 (bl (L4 (colOf l i)))) := by
  apply Array.ext_getElem?
  intro j
  rw [irow_size, bl_len, L4_len, Array.getElem?_extract]
  by_cases hj : j < 4
  · rw [if_pos (by rw [irow_size, bl_len, hl]; omega), irow_get _ _ _ (by rw [bl_len, hl]; omega), irow_get _ _ _ (by rw [bl_len]; exact hj), bl_get, bl_get, L4_get _ _ hj, ← col_get l i j hj, Nat.mul_comm i 4]
  · rw [if_neg (by omega), Array.getElem?_eq_none (by rw [irow_size, bl_len, L4_len]; omega)]
theorem mrk_low (k : Nat) (h : k < 8) : mrk (k + 1) = mrk k := by
  unfold mrk; rw [show (k + 1 - 1) / 8 = (k - 1) / 8 by omega]
theorem ks_lown (key : List B) (k : Nat) (h : k < 8) : ks key (k + 1) = put4 (ks key k) k (colOf key k) := by
  rw [ks, colK, if_pos h]
theorem pt_selfn (l : List B) (n : Nat) (hl : l.length = n) : pt (gb l) n n = l := by
  apply List.ext_getElem (by rw [pt_len, hl])
  intro i h1 h2
  have e := pt_get (gb l) n n (j := i) (by omega) (by omega)
  rw [List.getD_eq_getElem?_getD, List.getElem?_eq_getElem h1] at e
  rw [gb, List.getD_eq_getElem?_getD, List.getElem?_eq_getElem h2] at e
  exact e
theorem z83 (W : World) : (Instr.alloc 101 true (.tuple #[])).run Tryd.prog W = .ok (.pointer (some ⟨W.heap.size, 0, none⟩)) (W.alloc (.cells (irow .u8 (zr 240)) 101)) := by kernel_rfl
theorem z32 (W : World) : (Instr.alloc 64 true (.tuple #[])).run Tryd.prog W = .ok (.pointer (some ⟨W.heap.size, 0, none⟩)) (W.alloc (.cells (irow .u8 (zr 240)) 64)) := by kernel_rfl
theorem z82 (W : World) : (Instr.alloc 100 true (.tuple #[])).run Tryd.prog W = .ok (.pointer (some ⟨W.heap.size, 0, none⟩)) (W.alloc (.cells (irow .u8 (zr 4)) 100)) := by kernel_rfl
theorem info82 : (Tryd.prog.info? 100).map (·.size) = some 4 := by kernel_rfl
theorem info32 : (Tryd.prog.info? 64).map (·.size) = some 240 := by kernel_rfl
theorem built82 (a b c d : Int) : Tryd.prog.built 100 [(0, .int .u8 a), (1, .int .u8 b), (2, .int .u8 c), (3, .int .u8 d)] = some #[.int .u8 a, .int .u8 b, .int .u8 c, .int .u8 d] := by kernel_rfl
theorem built_L4 (a b c d : B) (T : B × B × B × B) (h : T = (a, b, c, d)) : Tryd.prog.built 100 [(0, .int .u8 (bv a)), (1, .int .u8 (bv b)), (2, .int .u8 (bv c)), (3, .int .u8 (bv d))] = some (irow .u8 (bl (L4 T))) := by
  subst h; exact built82 _ _ _ _

set_option maxRecDepth 100000 in
set_option maxHeartbeats 8000000 in
theorem r_keysBy (key : List B) (hl : key.length = 32) : Gives 45 #[.agg (irow .u8 (bl (sbl))), .agg (irow .u8 (bl (key)))] (.agg (irow .u8 (bl (ks key 60)))) := by
  intro w
  have hz : ∀ W : World, (Instr.alloc 101 true (.tuple #[])).run Tryd.prog W = .ok (.pointer (some ⟨W.heap.size, 0, none⟩)) (W.alloc (.cells (irow .u8 (bl (ks key 0))) 101)) := by rw [ks, bl_zr]; exact z83
  have R0 := hp4_0 w (.cells (irow .u8 (bl (sbl))) 61) (.cells (irow .u8 (bl (key))) 23) (.cells (irow .u8 (zr 240)) 64) (.cells (irow .u8 (bl (ks key 0))) 101)
  have R1 := hp4_1 w (.cells (irow .u8 (bl (sbl))) 61) (.cells (irow .u8 (bl (key))) 23) (.cells (irow .u8 (zr 240)) 64) (.cells (irow .u8 (bl (ks key 0))) 101)
  have R2 := hp4_2 w (.cells (irow .u8 (bl (sbl))) 61) (.cells (irow .u8 (bl (key))) 23) (.cells (irow .u8 (zr 240)) 64) (.cells (irow .u8 (bl (ks key 0))) 101)
  have R3 := hp4_3 w (.cells (irow .u8 (bl (sbl))) 61) (.cells (irow .u8 (bl (key))) 23) (.cells (irow .u8 (zr 240)) 64) (.cells (irow .u8 (bl (ks key 0))) 101)
  have hw : Below w.heap.size w ((((w.alloc (.cells (irow .u8 (bl (sbl))) 61)).alloc (.cells (irow .u8 (bl (key))) 23)).alloc (.cells (irow .u8 (zr 240)) 64)).alloc (.cells (irow .u8 (bl (ks key 0))) 101)) := (((((Below.refl _ _).alloc (Nat.le_refl _) _).alloc (by simp) _).alloc (by simp; omega) _).alloc (by simp; omega) _)

  go_enter Tryd.func45, Tryd.ntmps45
  go_wp2_with (first | (refine wpList_box rfl 61 _ rfl _ rfl (b256 _) ?_) | (refine wpList_box rfl 23 _ rfl _ rfl (bKey _) ?_) | (refine wpList_alloc rfl 64 rfl (irow .u8 (zr 240)) z32 ?_) | (refine wpList_alloc rfl 101 rfl (irow .u8 (bl (ks key 0))) hz ?_) | fail)
  try simp only [size_alloc1, Act.put, List.setIfInBounds_toArray, List.set_cons_succ, List.set_cons_zero]
  clear hz
  generalize World.alloc _ _ = w0 at *
  go_loopw [6, 7] (fun m i wr => ∃ k : Nat, k ≤ 60 ∧ i = .int .i64 k ∧ m = .int .u8 (bv (mrk k)) ∧ wr.heap[w.heap.size]? = some (.cells (irow .u8 (bl (sbl))) 61 (0, 0)) ∧ wr.heap[w.heap.size + 1]? = some (.cells (irow .u8 (bl (key))) 23 (0, 0)) ∧ wr.heap[w.heap.size + 1 + 1]? = some (.cells (irow .u8 (zr 240)) 64 (0, 0)) ∧ wr.heap[w.heap.size + 1 + 1 + 1]? = some (.cells (irow .u8 (bl (ks key k))) 101 (0, 0)) ∧ Below w.heap.size w wr) (fun _ i _ => 60 - (intOf i).toNat)
  case atStart => exact ⟨0, by omega, rfl, rfl, R0, R1, R2, R3, hw⟩
  case round =>
    clear R0 R1 R2 R3 hw
    obtain ⟨k, hk, rfl, rfl, r0, r1, r2, r3, hw⟩ := hrel
    by_cases hlt : k < 60
    · have hd : decide ((k : Int) < 60) = true := by simp; omega
      by_cases h8 : k < 8
      · have hd8 : decide ((k : Int) < 8) = true := by simp; omega
        have hmn := hide (mrk_low k h8)
        have hkn := hide (ks_lown key k h8)
        go_wp2_with (fail)
        go_loopw [8] (fun i wr => ∃ j : Nat, j ≤ 4 ∧ i = .int .i64 j ∧ wr.heap[w.heap.size]? = some (.cells (irow .u8 (bl (sbl))) 61 (0, 0)) ∧ wr.heap[w.heap.size + 1]? = some (.cells (irow .u8 (bl (key))) 23 (0, 0)) ∧ wr.heap[w.heap.size + 1 + 1]? = some (.cells (irow .u8 (zr 240)) 64 (0, 0)) ∧ wr.heap[w.heap.size + 1 + 1 + 1]? = some (.cells (irow .u8 (bl (pj (ks key k) k (colOf key k) j))) 101 (0, 0)) ∧ Below w.heap.size w wr) (fun i _ => 4 - (intOf i).toNat)
        case atStart => exact ⟨0, by omega, rfl, r0, r1, r2, r3, hw⟩
        case round =>
          clear r0 r1 r2 r3 hw
          obtain ⟨j, hj, rfl, r0, r1, r2, r3, hw⟩ := hrel
          by_cases hj4 : j < 4
          · have hdj : decide ((j : Int) < 4) = true := by simp; omega
            have c1 := brow_cell r1 (j := 4 * k + j) (by omega)
            rw [col_get _ _ _ hj4] at c1
            have hset : Hid (pj (ks key k) k (colOf key k) (j + 1) = (pj (ks key k) k (colOf key k) j).set (4 * k + j) (xc (colOf key k) j)) := hide rfl
            generalize xc (colOf key k) j = x1 at *
            go_wp2_with (fail)
            have k1 : ∀ p : Regrown, (grow (redrawn wr p.d) p.os).cell? ⟨w.heap.size + 1, 4 * k + j, none⟩ = some (.int .u8 (bv x1)) := fun p => cell_regrown (c1) p.d p.os
            refine wp_region_tail (C := fun w' => ∃ p : Regrown, w' = grow (redrawn wr p.d) p.os) 10 _ rfl rfl rfl (by kernel_rfl) (by kernel_rfl) (by kernel_rfl) (by kernel_rfl) ⟨⟨wr.drawn + 1, #[]⟩, by rw [grow_empty]; rfl⟩ ?_
            dsimp only [List.set, idle]
            go_big_quiet_step (fail)
            go_big_quiet_step (fail)
            go_big_quiet_step (fail)
            go_big_quiet_step (fail)
            go_big_quiet_step (fail)
            go_big_quiet_step (fail)
            go_big_quiet_step (fail)
            go_big_quiet_step (fail)
            go_big_quiet_step (fail)
            go_big_quiet_step (fail)
            refine wpQuiet_idle rfl rfl rfl ?_
            rintro _ ⟨p, rfl⟩
            have hb := below_regrown wr p.d p.os
            generalize grow (redrawn wr p.d) p.os = w8 at *
            clear k1
            replace r0 := keep hb r0
            replace r1 := keep hb r1
            replace r2 := keep hb r2
            replace r3 := keep hb r3
            replace hw := Below.after hw hb
            clear hb

            have cw := brow_cell r3 (j := 4 * k + j) (by rw [pj_len, ks_len]; omega)
            have hf := row_frozen r3 (4 * k + j)
            rw [Nat.mul_comm 4 k] at cw hf
            clear c1
            go_wp2
            refine ⟨⟨j + 1, by omega, by go_num, heap_other r0 (by omega), heap_other r1 (by omega), heap_other r2 (by omega), by rw [hset.out, Nat.mul_comm 4 k]; exact brow_set r3 (k * 4 + j) _, hw.setCell (show w.heap.size ≤ w.heap.size + 1 + 1 + 1 by omega) _⟩, by simp [intOf]; omega⟩
          · obtain rfl : j = 4 := by omega
            have hdj : decide ((4 : Int) < 4) = false := by decide
            rw [pj_four, ← hkn.out] at r3
            clear hj hj4
            go_wp2
            refine ⟨⟨k + 1, by omega, by go_num, by rw [hmn.out], r0, r1, r2, r3, hw⟩, by simp [intOf]; omega⟩
      · have hd8 : decide ((k : Int) < 8) = false := by simp; omega
        have hk8 : 8 ≤ k := by omega
        have hm8 : (k : Int).tmod 8 = ((k % 8 : Nat) : Int) := by rw [Int.tmod_eq_emod_of_nonneg (by omega)]; rfl
        have hm4 : (k : Int).tmod 4 = ((k % 4 : Nat) : Int) := by rw [Int.tmod_eq_emod_of_nonneg (by omega)]; rfl
        have hpart := bl_col (ks key k) (ks_len _ _) (k - 1) (by omega)
        have hkn := hide (ks_next key k hk8)
        have hmn := hide (mrk_next k hk8)
        obtain ⟨E, hE0⟩ : ∃ E, E = colOf (ks key k) (k - 8) := ⟨_, rfl⟩
        have hE : Hid (∀ j < 4, (ks key k).getD (4 * (k - 8) + j) 0#8 = xc E j) := hide (fun j h => by rw [hE0]; exact col_get _ _ _ h)
        rw [← hE0] at hkn
        clear hE0
        obtain ⟨xa, xb, xc_, xd, hx4⟩ : ∃ a b c d, colOf (ks key k) (k - 1) = (a, b, c, d) := ⟨_, _, _, _, rfl⟩
        rw [hx4] at hpart hkn
        clear hx4
        have hiX := info_bl info82 (L4 (xa, xb, xc_, xd)) (L4_len _)
        have RX := hp1_0 wr (.cells (irow .u8 (zr 4)) 100)
        have HB : Below wr.heap.size wr (wr.alloc (.cells (irow .u8 (zr 4)) 100)) := (Below.refl _ _).alloc (Nat.le_refl _) _
        have hfX : (irow .u8 (zr 4)).size = (irow .u8 (bl (L4 (xa, xb, xc_, xd)))).size := by rw [irow_size, irow_size, zr_len, bl_len, L4_len]
        have bm := bnd (mrk k)
        go_wp2_with (first | (refine wpList_load_part rfl 100 _ rfl (w.heap.size + 1 + 1 + 1) ((k - 1) * 4) rfl 101 (irow .u8 (bl (ks key k))) (0, 0) (irow .u8 (bl (L4 (xa, xb, xc_, xd)))) _ r3 hpart Tryd.underlying100 rfl hiX ?_) | (refine wpList_alloc rfl 100 rfl (irow .u8 (zr 4)) z82 ?_) | (refine wpList_store_row rfl 100 _ _ rfl (wr.heap.size) (irow .u8 (bl (L4 (xa, xb, xc_, xd)))) rfl rfl 100 _ RX hiX hfX (irow_one _ _) ?_; refine wpList_stay ?_) | fail)
        unfold WpStay
        have l0 := lt_of_row r0
        have l1 := lt_of_row r1
        have l2 := lt_of_row r2
        have l3 := lt_of_row r3
        have hsz := hw.size
        replace r0 := (setRow_other _ (wr.heap.size) (w.heap.size) (irow .u8 (bl (L4 (xa, xb, xc_, xd)))) (by omega)).trans (keep HB r0)
        replace r1 := (setRow_other _ (wr.heap.size) (w.heap.size + 1) (irow .u8 (bl (L4 (xa, xb, xc_, xd)))) (by omega)).trans (keep HB r1)
        replace r2 := (setRow_other _ (wr.heap.size) (w.heap.size + 1 + 1) (irow .u8 (bl (L4 (xa, xb, xc_, xd)))) (by omega)).trans (keep HB r2)
        replace r3 := (setRow_other _ (wr.heap.size) (w.heap.size + 1 + 1 + 1) (irow .u8 (bl (L4 (xa, xb, xc_, xd)))) (by omega)).trans (keep HB r3)
        have rX := setRow_heap _ (wr.heap.size) _ (irow .u8 (bl (L4 (xa, xb, xc_, xd)))) _ _ RX
        replace hw := below_setRow (Below.after hw HB) hsz (irow .u8 (bl (L4 (xa, xb, xc_, xd))))
        clear RX HB hfX hiX hpart hsz
        generalize World.setRow _ (wr.heap.size) (irow .u8 (bl (L4 (xa, xb, xc_, xd)))) = w1 at *
        generalize wr.heap.size = gX at *
        by_cases h80 : k % 8 = 0
        · have hd80 : decide (((k % 8 : Nat) : Int) = 0) = true := by rw [h80]; rfl
          rw [if_pos h80] at hmn
          obtain ⟨T, hT⟩ : ∃ T, T = turnC k (xa, xb, xc_, xd) := ⟨_, rfl⟩
          rw [← hT] at hkn
          have hTT : T = (sb xb ^^^ mrk k, sb xc_, sb xd, sb xa) := by rw [hT, turnC, if_pos h80]
          clear hT
          have d0 := brow_cell rX (j := 0) (by rw [L4_len]; omega)
          have d1 := brow_cell rX (j := 1) (by rw [L4_len]; omega)
          have d2 := brow_cell rX (j := 2) (by rw [L4_len]; omega)
          have d3 := brow_cell rX (j := 3) (by rw [L4_len]; omega)
          rw [L4_get _ _ (by omega)] at d0 d1 d2 d3
          simp only [xc] at d0 d1 d2 d3
          have s0 := brow_cell r0 (j := xa.toNat) (by rw [sbl_len]; exact xa.isLt)
          have s1 := brow_cell r0 (j := xb.toNat) (by rw [sbl_len]; exact xb.isLt)
          have s2 := brow_cell r0 (j := xc_.toNat) (by rw [sbl_len]; exact xc_.isLt)
          have s3 := brow_cell r0 (j := xd.toNat) (by rw [sbl_len]; exact xd.isLt)
          rw [sbl_get] at s0 s1 s2 s3
          have n0 := bv_nat xa
          have n1 := bv_nat xb
          have n2 := bv_nat xc_
          have n3 := bv_nat xd
          have b0 := bnd xa
          have b1 := bnd xb
          have b2 := bnd xc_
          have b3 := bnd xd

          have hxm := xor8 (sb xb) (mrk k)
          have tw := r_double (mrk k)
          go_wp2_with (fail)
          have k0 : ∀ p : Regrown, (grow (redrawn w1 p.d) p.os).cell? ⟨gX, 0, none⟩ = some (.int .u8 (bv xa)) := fun p => cell_regrown (d0) p.d p.os
          have t0 : ∀ p : Regrown, (grow (redrawn w1 p.d) p.os).cell? ⟨w.heap.size, xa.toNat, none⟩ = some (.int .u8 (bv (sb xa))) := fun p => cell_regrown (s0) p.d p.os
          have k1 : ∀ p : Regrown, (grow (redrawn w1 p.d) p.os).cell? ⟨gX, 1, none⟩ = some (.int .u8 (bv xb)) := fun p => cell_regrown (d1) p.d p.os
          have t1 : ∀ p : Regrown, (grow (redrawn w1 p.d) p.os).cell? ⟨w.heap.size, xb.toNat, none⟩ = some (.int .u8 (bv (sb xb))) := fun p => cell_regrown (s1) p.d p.os
          have k2 : ∀ p : Regrown, (grow (redrawn w1 p.d) p.os).cell? ⟨gX, 2, none⟩ = some (.int .u8 (bv xc_)) := fun p => cell_regrown (d2) p.d p.os
          have t2 : ∀ p : Regrown, (grow (redrawn w1 p.d) p.os).cell? ⟨w.heap.size, xc_.toNat, none⟩ = some (.int .u8 (bv (sb xc_))) := fun p => cell_regrown (s2) p.d p.os
          have k3 : ∀ p : Regrown, (grow (redrawn w1 p.d) p.os).cell? ⟨gX, 3, none⟩ = some (.int .u8 (bv xd)) := fun p => cell_regrown (d3) p.d p.os
          have t3 : ∀ p : Regrown, (grow (redrawn w1 p.d) p.os).cell? ⟨w.heap.size, xd.toNat, none⟩ = some (.int .u8 (bv (sb xd))) := fun p => cell_regrown (s3) p.d p.os
          refine wp_region_tail (C := fun w' => ∃ p : Regrown, w' = grow (redrawn w1 p.d) p.os) 19 _ rfl rfl rfl (by kernel_rfl) (by kernel_rfl) (by kernel_rfl) (by kernel_rfl) ⟨⟨w1.drawn + 1, #[]⟩, by rw [grow_empty]; rfl⟩ ?_
          dsimp only [List.set, idle]
          go_big_quiet_step (fail)
          go_big_quiet_step (fail)
          go_big_quiet_step (fail)
          go_big_quiet_step (fail)
          go_big_quiet_step (fail)
          go_big_quiet_step (fail)
          go_big_quiet_step (fail)
          go_big_quiet_step (fail)
          go_big_quiet_step (fail)
          go_big_quiet_step (fail)
          go_big_quiet_step (fail)
          go_big_quiet_step (fail)
          go_big_quiet_step (fail)
          go_big_quiet_step (fail)
          go_big_quiet_step (fail)
          go_big_quiet_step (fail)
          go_big_quiet_step (fail)
          go_big_quiet_step (fail)
          refine wpQuiet_build rfl 100 _ rfl _ rfl (irow .u8 (bl (L4 T))) (built_L4 _ _ _ _ T hTT) ?_
          simp only [Act.put, List.setIfInBounds_toArray, List.set_cons_succ, List.set_cons_zero]
          refine wpQuiet_idle rfl rfl rfl ?_
          rintro _ ⟨p, rfl⟩
          have hb := below_regrown w1 p.d p.os
          generalize grow (redrawn w1 p.d) p.os = w2 at *
          clear k0 t0 k1 t1 k2 t2 k3 t3
          replace r0 := keep hb r0
          replace r1 := keep hb r1
          replace r2 := keep hb r2
          replace r3 := keep hb r3
          replace rX := keep hb rX
          replace hw := Below.after hw hb
          clear hb

          have hiT := info_bl info82 (L4 T) (L4_len _)
          refine wpList_store_row rfl 100 _ _ rfl (gX) (irow .u8 (bl (L4 T))) rfl rfl 100 _ rX hiT (by rw [irow_size, irow_size, bl_len, bl_len, L4_len, L4_len]) (irow_one _ _) ?_
          simp only [Act.put]
          replace r0 := (setRow_other w2 gX (w.heap.size) (irow .u8 (bl (L4 T))) (by omega)).trans r0
          replace r1 := (setRow_other w2 gX (w.heap.size + 1) (irow .u8 (bl (L4 T))) (by omega)).trans r1
          replace r2 := (setRow_other w2 gX (w.heap.size + 1 + 1) (irow .u8 (bl (L4 T))) (by omega)).trans r2
          replace r3 := (setRow_other w2 gX (w.heap.size + 1 + 1 + 1) (irow .u8 (bl (L4 T))) (by omega)).trans r3
          replace rX := setRow_heap w2 gX _ (irow .u8 (bl (L4 T))) _ _ rX
          replace hw := below_setRow hw (show w.heap.size ≤ gX by omega) (irow .u8 (bl (L4 T)))
          generalize w2.setRow gX (irow .u8 (bl (L4 T))) = w3 at *
          clear d0 d1 d2 d3 s0 s1 s2 s3 hiT

          go_wp2_with (fail)
          refine (tw.at _).mono ?_
          rintro e_ w4 ⟨rfl, hb⟩
          replace r0 := keep hb r0
          replace r1 := keep hb r1
          replace r2 := keep hb r2
          replace r3 := keep hb r3
          replace hw := Below.after hw hb

          replace rX := keep hb rX
          clear hb tw
          go_wp2_with (fail)
          go_loopw [10] (fun i wr => ∃ j : Nat, j ≤ 4 ∧ i = .int .i64 j ∧ wr.heap[w.heap.size]? = some (.cells (irow .u8 (bl (sbl))) 61 (0, 0)) ∧ wr.heap[w.heap.size + 1]? = some (.cells (irow .u8 (bl (key))) 23 (0, 0)) ∧ wr.heap[w.heap.size + 1 + 1]? = some (.cells (irow .u8 (zr 240)) 64 (0, 0)) ∧ wr.heap[w.heap.size + 1 + 1 + 1]? = some (.cells (irow .u8 (bl (pj (ks key k) k (xorC E T) j))) 101 (0, 0)) ∧ Below w.heap.size w wr ∧ wr.heap[gX]? = some (.cells (irow .u8 (bl (L4 T))) 100 (0, 0))) (fun i _ => 4 - (intOf i).toNat)
          case atStart => exact ⟨0, by omega, rfl, r0, r1, r2, r3, hw, rX⟩
          case round =>
            clear r0 r1 r2 r3 hw rX
            obtain ⟨j, hj, rfl, r0, r1, r2, r3, hw, rX⟩ := hrel
            by_cases hj4 : j < 4
            · have hdj : decide ((j : Int) < 4) = true := by simp; omega
              have c1 := brow_cell r3 (j := 4 * (k - 8) + j) (by rw [pj_len, ks_len]; omega)
              rw [pj_low _ _ _ _ _ (by omega), hE.out j hj4, show 4 * (k - 8) + j = (k - 8) * 4 + j by omega] at c1
              have c2 := brow_cell rX (j := j) (by rw [L4_len]; exact hj4)
              rw [L4_get _ _ hj4] at c2
              have hx := xor8 (xc E j) (xc T j)
              have hset : Hid (pj (ks key k) k (xorC E T) (j + 1) = (pj (ks key k) k (xorC E T) j).set (4 * k + j) (xc E j ^^^ xc T j)) := hide (by rw [pj, xc_xor _ _ _ hj4])
              generalize xc E j = x1 at *
              generalize xc T j = x2 at *
              go_wp2_with (fail)
              have k1 : ∀ p : Regrown, (grow (redrawn wr p.d) p.os).cell? ⟨w.heap.size + 1 + 1 + 1, (k - 8) * 4 + j, none⟩ = some (.int .u8 (bv x1)) := fun p => cell_regrown (c1) p.d p.os
              have k2 : ∀ p : Regrown, (grow (redrawn wr p.d) p.os).cell? ⟨gX, j, none⟩ = some (.int .u8 (bv x2)) := fun p => cell_regrown (c2) p.d p.os
              refine wp_region_tail (C := fun w' => ∃ p : Regrown, w' = grow (redrawn wr p.d) p.os) 14 _ rfl rfl rfl (by kernel_rfl) (by kernel_rfl) (by kernel_rfl) (by kernel_rfl) ⟨⟨wr.drawn + 1, #[]⟩, by rw [grow_empty]; rfl⟩ ?_
              dsimp only [List.set, idle]
              go_big_quiet_step (fail)
              go_big_quiet_step (fail)
              go_big_quiet_step (fail)
              go_big_quiet_step (fail)
              go_big_quiet_step (fail)
              go_big_quiet_step (fail)
              go_big_quiet_step (fail)
              go_big_quiet_step (fail)
              go_big_quiet_step (fail)
              go_big_quiet_step (fail)
              go_big_quiet_step (fail)
              go_big_quiet_step (fail)
              go_big_quiet_step (fail)
              go_big_quiet_step (fail)
              refine wpQuiet_idle rfl rfl rfl ?_
              rintro _ ⟨p, rfl⟩
              have hb := below_regrown wr p.d p.os
              generalize grow (redrawn wr p.d) p.os = w8 at *
              clear k1 k2
              replace r0 := keep hb r0
              replace r1 := keep hb r1
              replace r2 := keep hb r2
              replace r3 := keep hb r3
              replace rX := keep hb rX
              replace hw := Below.after hw hb
              clear hb

              have cw := brow_cell r3 (j := 4 * k + j) (by rw [pj_len, ks_len]; omega)
              have hf := row_frozen r3 (4 * k + j)
              rw [Nat.mul_comm 4 k] at cw hf
              clear c1 c2
              go_wp2
              refine ⟨⟨j + 1, by omega, by go_num, heap_other r0 (by omega), heap_other r1 (by omega), heap_other r2 (by omega), by rw [hset.out, Nat.mul_comm 4 k]; exact brow_set r3 (k * 4 + j) _, hw.setCell (show w.heap.size ≤ w.heap.size + 1 + 1 + 1 by omega) _, heap_other rX (by omega)⟩, by simp [intOf]; omega⟩
            · obtain rfl : j = 4 := by omega
              have hdj : decide ((4 : Int) < 4) = false := by decide
              rw [pj_four, ← hkn.out] at r3
              clear hj hj4
              go_wp2
              refine ⟨⟨k + 1, by omega, by go_num, by rw [hmn.out], r0, r1, r2, r3, hw⟩, by simp [intOf]; omega⟩

        · have hd80 : decide (((k % 8 : Nat) : Int) = 0) = false := by simp; omega
          rw [if_neg h80] at hmn
          by_cases h40 : k % 4 = 0
          · have hd40 : decide (((k % 4 : Nat) : Int) = 0) = true := by rw [h40]; rfl
            obtain ⟨T, hT⟩ : ∃ T, T = turnC k (xa, xb, xc_, xd) := ⟨_, rfl⟩
            rw [← hT] at hkn
            have hTT : T = (sb xa, sb xb, sb xc_, sb xd) := by rw [hT, turnC, if_neg h80, if_pos h40]
            clear hT
            have d0 := brow_cell rX (j := 0) (by rw [L4_len]; omega)
            have d1 := brow_cell rX (j := 1) (by rw [L4_len]; omega)
            have d2 := brow_cell rX (j := 2) (by rw [L4_len]; omega)
            have d3 := brow_cell rX (j := 3) (by rw [L4_len]; omega)
            rw [L4_get _ _ (by omega)] at d0 d1 d2 d3
            simp only [xc] at d0 d1 d2 d3
            have s0 := brow_cell r0 (j := xa.toNat) (by rw [sbl_len]; exact xa.isLt)
            have s1 := brow_cell r0 (j := xb.toNat) (by rw [sbl_len]; exact xb.isLt)
            have s2 := brow_cell r0 (j := xc_.toNat) (by rw [sbl_len]; exact xc_.isLt)
            have s3 := brow_cell r0 (j := xd.toNat) (by rw [sbl_len]; exact xd.isLt)
            rw [sbl_get] at s0 s1 s2 s3
            have n0 := bv_nat xa
            have n1 := bv_nat xb
            have n2 := bv_nat xc_
            have n3 := bv_nat xd
            have b0 := bnd xa
            have b1 := bnd xb
            have b2 := bnd xc_
            have b3 := bnd xd

            go_wp2_with (fail)
            have k0 : ∀ p : Regrown, (grow (redrawn w1 p.d) p.os).cell? ⟨gX, 0, none⟩ = some (.int .u8 (bv xa)) := fun p => cell_regrown (d0) p.d p.os
            have t0 : ∀ p : Regrown, (grow (redrawn w1 p.d) p.os).cell? ⟨w.heap.size, xa.toNat, none⟩ = some (.int .u8 (bv (sb xa))) := fun p => cell_regrown (s0) p.d p.os
            have k1 : ∀ p : Regrown, (grow (redrawn w1 p.d) p.os).cell? ⟨gX, 1, none⟩ = some (.int .u8 (bv xb)) := fun p => cell_regrown (d1) p.d p.os
            have t1 : ∀ p : Regrown, (grow (redrawn w1 p.d) p.os).cell? ⟨w.heap.size, xb.toNat, none⟩ = some (.int .u8 (bv (sb xb))) := fun p => cell_regrown (s1) p.d p.os
            have k2 : ∀ p : Regrown, (grow (redrawn w1 p.d) p.os).cell? ⟨gX, 2, none⟩ = some (.int .u8 (bv xc_)) := fun p => cell_regrown (d2) p.d p.os
            have t2 : ∀ p : Regrown, (grow (redrawn w1 p.d) p.os).cell? ⟨w.heap.size, xc_.toNat, none⟩ = some (.int .u8 (bv (sb xc_))) := fun p => cell_regrown (s2) p.d p.os
            have k3 : ∀ p : Regrown, (grow (redrawn w1 p.d) p.os).cell? ⟨gX, 3, none⟩ = some (.int .u8 (bv xd)) := fun p => cell_regrown (d3) p.d p.os
            have t3 : ∀ p : Regrown, (grow (redrawn w1 p.d) p.os).cell? ⟨w.heap.size, xd.toNat, none⟩ = some (.int .u8 (bv (sb xd))) := fun p => cell_regrown (s3) p.d p.os
            refine wp_region_tail (C := fun w' => ∃ p : Regrown, w' = grow (redrawn w1 p.d) p.os) 17 _ rfl rfl rfl (by kernel_rfl) (by kernel_rfl) (by kernel_rfl) (by kernel_rfl) ⟨⟨w1.drawn + 1, #[]⟩, by rw [grow_empty]; rfl⟩ ?_
            dsimp only [List.set, idle]
            go_big_quiet_step (fail)
            go_big_quiet_step (fail)
            go_big_quiet_step (fail)
            go_big_quiet_step (fail)
            go_big_quiet_step (fail)
            go_big_quiet_step (fail)
            go_big_quiet_step (fail)
            go_big_quiet_step (fail)
            go_big_quiet_step (fail)
            go_big_quiet_step (fail)
            go_big_quiet_step (fail)
            go_big_quiet_step (fail)
            go_big_quiet_step (fail)
            go_big_quiet_step (fail)
            go_big_quiet_step (fail)
            go_big_quiet_step (fail)
            refine wpQuiet_build rfl 100 _ rfl _ rfl (irow .u8 (bl (L4 T))) (built_L4 _ _ _ _ T hTT) ?_
            simp only [Act.put, List.setIfInBounds_toArray, List.set_cons_succ, List.set_cons_zero]
            refine wpQuiet_idle rfl rfl rfl ?_
            rintro _ ⟨p, rfl⟩
            have hb := below_regrown w1 p.d p.os
            generalize grow (redrawn w1 p.d) p.os = w2 at *
            clear k0 t0 k1 t1 k2 t2 k3 t3
            replace r0 := keep hb r0
            replace r1 := keep hb r1
            replace r2 := keep hb r2
            replace r3 := keep hb r3
            replace rX := keep hb rX
            replace hw := Below.after hw hb
            clear hb

            have hiT := info_bl info82 (L4 T) (L4_len _)
            refine wpList_store_row rfl 100 _ _ rfl (gX) (irow .u8 (bl (L4 T))) rfl rfl 100 _ rX hiT (by rw [irow_size, irow_size, bl_len, bl_len, L4_len, L4_len]) (irow_one _ _) ?_
            simp only [Act.put]
            replace r0 := (setRow_other w2 gX (w.heap.size) (irow .u8 (bl (L4 T))) (by omega)).trans r0
            replace r1 := (setRow_other w2 gX (w.heap.size + 1) (irow .u8 (bl (L4 T))) (by omega)).trans r1
            replace r2 := (setRow_other w2 gX (w.heap.size + 1 + 1) (irow .u8 (bl (L4 T))) (by omega)).trans r2
            replace r3 := (setRow_other w2 gX (w.heap.size + 1 + 1 + 1) (irow .u8 (bl (L4 T))) (by omega)).trans r3
            replace rX := setRow_heap w2 gX _ (irow .u8 (bl (L4 T))) _ _ rX
            replace hw := below_setRow hw (show w.heap.size ≤ gX by omega) (irow .u8 (bl (L4 T)))
            generalize w2.setRow gX (irow .u8 (bl (L4 T))) = w3 at *
            clear d0 d1 d2 d3 s0 s1 s2 s3 hiT

            go_wp2_with (fail)
            go_loopw [10] (fun i wr => ∃ j : Nat, j ≤ 4 ∧ i = .int .i64 j ∧ wr.heap[w.heap.size]? = some (.cells (irow .u8 (bl (sbl))) 61 (0, 0)) ∧ wr.heap[w.heap.size + 1]? = some (.cells (irow .u8 (bl (key))) 23 (0, 0)) ∧ wr.heap[w.heap.size + 1 + 1]? = some (.cells (irow .u8 (zr 240)) 64 (0, 0)) ∧ wr.heap[w.heap.size + 1 + 1 + 1]? = some (.cells (irow .u8 (bl (pj (ks key k) k (xorC E T) j))) 101 (0, 0)) ∧ Below w.heap.size w wr ∧ wr.heap[gX]? = some (.cells (irow .u8 (bl (L4 T))) 100 (0, 0))) (fun i _ => 4 - (intOf i).toNat)
            case atStart => exact ⟨0, by omega, rfl, r0, r1, r2, r3, hw, rX⟩
            case round =>
              clear r0 r1 r2 r3 hw rX
              obtain ⟨j, hj, rfl, r0, r1, r2, r3, hw, rX⟩ := hrel
              by_cases hj4 : j < 4
              · have hdj : decide ((j : Int) < 4) = true := by simp; omega
                have c1 := brow_cell r3 (j := 4 * (k - 8) + j) (by rw [pj_len, ks_len]; omega)
                rw [pj_low _ _ _ _ _ (by omega), hE.out j hj4, show 4 * (k - 8) + j = (k - 8) * 4 + j by omega] at c1
                have c2 := brow_cell rX (j := j) (by rw [L4_len]; exact hj4)
                rw [L4_get _ _ hj4] at c2
                have hx := xor8 (xc E j) (xc T j)
                have hset : Hid (pj (ks key k) k (xorC E T) (j + 1) = (pj (ks key k) k (xorC E T) j).set (4 * k + j) (xc E j ^^^ xc T j)) := hide (by rw [pj, xc_xor _ _ _ hj4])
                generalize xc E j = x1 at *
                generalize xc T j = x2 at *
                go_wp2_with (fail)
                have k1 : ∀ p : Regrown, (grow (redrawn wr p.d) p.os).cell? ⟨w.heap.size + 1 + 1 + 1, (k - 8) * 4 + j, none⟩ = some (.int .u8 (bv x1)) := fun p => cell_regrown (c1) p.d p.os
                have k2 : ∀ p : Regrown, (grow (redrawn wr p.d) p.os).cell? ⟨gX, j, none⟩ = some (.int .u8 (bv x2)) := fun p => cell_regrown (c2) p.d p.os
                refine wp_region_tail (C := fun w' => ∃ p : Regrown, w' = grow (redrawn wr p.d) p.os) 14 _ rfl rfl rfl (by kernel_rfl) (by kernel_rfl) (by kernel_rfl) (by kernel_rfl) ⟨⟨wr.drawn + 1, #[]⟩, by rw [grow_empty]; rfl⟩ ?_
                dsimp only [List.set, idle]
                go_big_quiet_step (fail)
                go_big_quiet_step (fail)
                go_big_quiet_step (fail)
                go_big_quiet_step (fail)
                go_big_quiet_step (fail)
                go_big_quiet_step (fail)
                go_big_quiet_step (fail)
                go_big_quiet_step (fail)
                go_big_quiet_step (fail)
                go_big_quiet_step (fail)
                go_big_quiet_step (fail)
                go_big_quiet_step (fail)
                go_big_quiet_step (fail)
                go_big_quiet_step (fail)
                refine wpQuiet_idle rfl rfl rfl ?_
                rintro _ ⟨p, rfl⟩
                have hb := below_regrown wr p.d p.os
                generalize grow (redrawn wr p.d) p.os = w8 at *
                clear k1 k2
                replace r0 := keep hb r0
                replace r1 := keep hb r1
                replace r2 := keep hb r2
                replace r3 := keep hb r3
                replace rX := keep hb rX
                replace hw := Below.after hw hb
                clear hb

                have cw := brow_cell r3 (j := 4 * k + j) (by rw [pj_len, ks_len]; omega)
                have hf := row_frozen r3 (4 * k + j)
                rw [Nat.mul_comm 4 k] at cw hf
                clear c1 c2
                go_wp2
                refine ⟨⟨j + 1, by omega, by go_num, heap_other r0 (by omega), heap_other r1 (by omega), heap_other r2 (by omega), by rw [hset.out, Nat.mul_comm 4 k]; exact brow_set r3 (k * 4 + j) _, hw.setCell (show w.heap.size ≤ w.heap.size + 1 + 1 + 1 by omega) _, heap_other rX (by omega)⟩, by simp [intOf]; omega⟩
              · obtain rfl : j = 4 := by omega
                have hdj : decide ((4 : Int) < 4) = false := by decide
                rw [pj_four, ← hkn.out] at r3
                clear hj hj4
                go_wp2
                refine ⟨⟨k + 1, by omega, by go_num, by rw [hmn.out], r0, r1, r2, r3, hw⟩, by simp [intOf]; omega⟩

          · have hd40 : decide (((k % 4 : Nat) : Int) = 0) = false := by simp; omega
            rw [turnC, if_neg h80, if_neg h40] at hkn
            generalize (xa, xb, xc_, xd) = T at *
            go_wp2_with (fail)
            go_loopw [10] (fun i wr => ∃ j : Nat, j ≤ 4 ∧ i = .int .i64 j ∧ wr.heap[w.heap.size]? = some (.cells (irow .u8 (bl (sbl))) 61 (0, 0)) ∧ wr.heap[w.heap.size + 1]? = some (.cells (irow .u8 (bl (key))) 23 (0, 0)) ∧ wr.heap[w.heap.size + 1 + 1]? = some (.cells (irow .u8 (zr 240)) 64 (0, 0)) ∧ wr.heap[w.heap.size + 1 + 1 + 1]? = some (.cells (irow .u8 (bl (pj (ks key k) k (xorC E T) j))) 101 (0, 0)) ∧ Below w.heap.size w wr ∧ wr.heap[gX]? = some (.cells (irow .u8 (bl (L4 T))) 100 (0, 0))) (fun i _ => 4 - (intOf i).toNat)
            case atStart => exact ⟨0, by omega, rfl, r0, r1, r2, r3, hw, rX⟩
            case round =>
              clear r0 r1 r2 r3 hw rX
              obtain ⟨j, hj, rfl, r0, r1, r2, r3, hw, rX⟩ := hrel
              by_cases hj4 : j < 4
              · have hdj : decide ((j : Int) < 4) = true := by simp; omega
                have c1 := brow_cell r3 (j := 4 * (k - 8) + j) (by rw [pj_len, ks_len]; omega)
                rw [pj_low _ _ _ _ _ (by omega), hE.out j hj4, show 4 * (k - 8) + j = (k - 8) * 4 + j by omega] at c1
                have c2 := brow_cell rX (j := j) (by rw [L4_len]; exact hj4)
                rw [L4_get _ _ hj4] at c2
                have hx := xor8 (xc E j) (xc T j)
                have hset : Hid (pj (ks key k) k (xorC E T) (j + 1) = (pj (ks key k) k (xorC E T) j).set (4 * k + j) (xc E j ^^^ xc T j)) := hide (by rw [pj, xc_xor _ _ _ hj4])
                generalize xc E j = x1 at *
                generalize xc T j = x2 at *
                go_wp2_with (fail)
                have k1 : ∀ p : Regrown, (grow (redrawn wr p.d) p.os).cell? ⟨w.heap.size + 1 + 1 + 1, (k - 8) * 4 + j, none⟩ = some (.int .u8 (bv x1)) := fun p => cell_regrown (c1) p.d p.os
                have k2 : ∀ p : Regrown, (grow (redrawn wr p.d) p.os).cell? ⟨gX, j, none⟩ = some (.int .u8 (bv x2)) := fun p => cell_regrown (c2) p.d p.os
                refine wp_region_tail (C := fun w' => ∃ p : Regrown, w' = grow (redrawn wr p.d) p.os) 14 _ rfl rfl rfl (by kernel_rfl) (by kernel_rfl) (by kernel_rfl) (by kernel_rfl) ⟨⟨wr.drawn + 1, #[]⟩, by rw [grow_empty]; rfl⟩ ?_
                dsimp only [List.set, idle]
                go_big_quiet_step (fail)
                go_big_quiet_step (fail)
                go_big_quiet_step (fail)
                go_big_quiet_step (fail)
                go_big_quiet_step (fail)
                go_big_quiet_step (fail)
                go_big_quiet_step (fail)
                go_big_quiet_step (fail)
                go_big_quiet_step (fail)
                go_big_quiet_step (fail)
                go_big_quiet_step (fail)
                go_big_quiet_step (fail)
                go_big_quiet_step (fail)
                go_big_quiet_step (fail)
                refine wpQuiet_idle rfl rfl rfl ?_
                rintro _ ⟨p, rfl⟩
                have hb := below_regrown wr p.d p.os
                generalize grow (redrawn wr p.d) p.os = w8 at *
                clear k1 k2
                replace r0 := keep hb r0
                replace r1 := keep hb r1
                replace r2 := keep hb r2
                replace r3 := keep hb r3
                replace rX := keep hb rX
                replace hw := Below.after hw hb
                clear hb

                have cw := brow_cell r3 (j := 4 * k + j) (by rw [pj_len, ks_len]; omega)
                have hf := row_frozen r3 (4 * k + j)
                rw [Nat.mul_comm 4 k] at cw hf
                clear c1 c2
                go_wp2
                refine ⟨⟨j + 1, by omega, by go_num, heap_other r0 (by omega), heap_other r1 (by omega), heap_other r2 (by omega), by rw [hset.out, Nat.mul_comm 4 k]; exact brow_set r3 (k * 4 + j) _, hw.setCell (show w.heap.size ≤ w.heap.size + 1 + 1 + 1 by omega) _, heap_other rX (by omega)⟩, by simp [intOf]; omega⟩
              · obtain rfl : j = 4 := by omega
                have hdj : decide ((4 : Int) < 4) = false := by decide
                rw [pj_four, ← hkn.out] at r3
                clear hj hj4
                go_wp2
                refine ⟨⟨k + 1, by omega, by go_num, by rw [hmn.out], r0, r1, r2, r3, hw⟩, by simp [intOf]; omega⟩

    · obtain rfl : k = 60 := by omega
      have hd : decide ((60 : Int) < 60) = false := by decide
      obtain ⟨K, hK⟩ : ∃ K, K = ks key 60 := ⟨_, rfl⟩
      rw [← hK] at r3
      have hKl : K.length = 240 := by rw [hK, ks_len]
      replace hK := hide hK
      clear hk hlt
      have hz : ∀ W : World, (Instr.alloc 64 true (.tuple #[])).run Tryd.prog W = .ok (.pointer (some ⟨W.heap.size, 0, none⟩)) (W.alloc (.cells (irow .u8 (bl (pt (gb K) 240 0))) 64)) := by rw [← zr_pt]; exact z32
      have RX := hp1_0 wr (.cells (irow .u8 (bl (pt (gb K) 240 0))) 64)
      have HB : Below wr.heap.size wr (wr.alloc (.cells (irow .u8 (bl (pt (gb K) 240 0))) 64)) := (Below.refl _ _).alloc (Nat.le_refl _) _
      have l3 := lt_of_row r3
      go_wp2_with (first | (refine wpList_alloc rfl 64 rfl (irow .u8 (bl (pt (gb K) 240 0))) hz ?_) | fail)
      replace r2 := keep HB r2
      replace r3 := keep HB r3
      replace hw := Below.after hw HB
      clear HB hz r0 r1
      generalize World.alloc _ _ = w5 at *
      generalize wr.heap.size = gX at *
      go_loopw [12] (fun i wr => ∃ k : Nat, k ≤ 60 ∧ i = .int .i64 k ∧ wr.heap[w.heap.size + 1 + 1]? = some (.cells (irow .u8 (zr 240)) 64 (0, 0)) ∧ wr.heap[w.heap.size + 1 + 1 + 1]? = some (.cells (irow .u8 (bl (K))) 101 (0, 0)) ∧ wr.heap[gX]? = some (.cells (irow .u8 (bl (pt (gb K) 240 (4 * k)))) 64 (0, 0)) ∧ Below w.heap.size w wr) (fun i _ => 60 - (intOf i).toNat)
      case atStart => exact ⟨0, by omega, rfl, r2, r3, RX, hw⟩
      case round =>
        clear r2 r3 RX hw
        obtain ⟨k, hk, rfl, r2, r3, rX, hw⟩ := hrel
        by_cases hlt : k < 60
        · have hd : decide ((k : Int) < 60) = true := by simp; omega
          go_wp2_with (fail)
          go_loopw [13] (fun i wr => ∃ j : Nat, j ≤ 4 ∧ i = .int .i64 j ∧ wr.heap[w.heap.size + 1 + 1]? = some (.cells (irow .u8 (zr 240)) 64 (0, 0)) ∧ wr.heap[w.heap.size + 1 + 1 + 1]? = some (.cells (irow .u8 (bl (K))) 101 (0, 0)) ∧ wr.heap[gX]? = some (.cells (irow .u8 (bl (pt (gb K) 240 (4 * k + j)))) 64 (0, 0)) ∧ Below w.heap.size w wr) (fun i _ => 4 - (intOf i).toNat)
          case atStart => exact ⟨0, by omega, rfl, r2, r3, rX, hw⟩
          case round =>
            clear r2 r3 rX hw
            obtain ⟨j, hj, rfl, r2, r3, rX, hw⟩ := hrel
            by_cases hj4 : j < 4
            · have hdj : decide ((j : Int) < 4) = true := by simp; omega
              have hq : (k : Int).tdiv 4 = ((k / 4 : Nat) : Int) := by rw [Int.tdiv_eq_ediv_of_nonneg (by omega)]; rfl
              have hr : (k : Int).tmod 4 = ((k % 4 : Nat) : Int) := by rw [Int.tmod_eq_emod_of_nonneg (by omega)]; rfl
              have c1 := brow_cell r3 (j := 4 * k + j) (by omega)
              rw [show K.getD (4 * k + j) 0#8 = gb K (4 * k + j) from rfl] at c1
              have hset := hide (pt_set (gb K) 240 (4 * k + j) (by omega))
              generalize gb K (4 * k + j) = x1 at *
              rw [Nat.mul_comm 4 k] at c1
              go_wp2_with (fail)
              have k1 : ∀ p : Regrown, (grow (redrawn wr p.d) p.os).cell? ⟨w.heap.size + 1 + 1 + 1, k * 4 + j, none⟩ = some (.int .u8 (bv x1)) := fun p => cell_regrown (c1) p.d p.os
              refine wp_region_tail (C := fun w' => ∃ p : Regrown, w' = grow (redrawn wr p.d) p.os) 14 _ rfl rfl rfl (by kernel_rfl) (by kernel_rfl) (by kernel_rfl) (by kernel_rfl) ⟨⟨wr.drawn + 1, #[]⟩, by rw [grow_empty]; rfl⟩ ?_
              dsimp only [List.set, idle]
              go_big_quiet_step (fail)
              go_big_quiet_step (fail)
              go_big_quiet_step (fail)
              go_big_quiet_step (fail)
              go_big_quiet_step (fail)
              go_big_quiet_step (fail)
              go_big_quiet_step (fail)
              go_big_quiet_step (fail)
              go_big_quiet_step (fail)
              go_big_quiet_step (fail)
              go_big_quiet_step (fail)
              go_big_quiet_step (fail)
              go_big_quiet_step (fail)
              go_big_quiet_step (fail)
              refine wpQuiet_idle rfl rfl rfl ?_
              rintro _ ⟨p, rfl⟩
              have hb := below_regrown wr p.d p.os
              generalize grow (redrawn wr p.d) p.os = w8 at *
              clear k1
              replace r2 := keep hb r2
              replace r3 := keep hb r3
              replace rX := keep hb rX
              replace hw := Below.after hw hb
              clear hb

              have cw := brow_cell rX (j := 4 * k + j) (by rw [pt_len]; omega)
              have hf := row_frozen rX (4 * k + j)
              have hof : k / 4 * 16 + (k % 4 * 4 + j) = 4 * k + j := by omega
              clear c1
              go_wp2
              refine ⟨⟨j + 1, by omega, by go_num, heap_other r2 (by omega), heap_other r3 (by omega), by rw [← Nat.add_assoc, ← hset.out]; exact brow_set rX (4 * k + j) x1, hw.setCell (show w.heap.size ≤ gX by omega) _⟩, by simp [intOf]; omega⟩
            · obtain rfl : j = 4 := by omega
              have hdj : decide ((4 : Int) < 4) = false := by decide
              go_wp2
              refine ⟨⟨k + 1, by omega, by go_num, r2, r3, rX, hw⟩, by simp [intOf]; omega⟩
        · obtain rfl : k = 60 := by omega
          have hd : decide ((60 : Int) < 60) = false := by decide
          rw [show pt (gb K) 240 (4 * 60) = K from pt_selfn K 240 hKl] at rX
          have hi9 := info_bl info32 K hKl
          have hfi : (irow .u8 (zr 240)).size = (irow .u8 (bl (K))).size := by rw [irow_size, irow_size, zr_len, bl_len, hKl]
          clear hk hlt
          go_wp2_with (first | (refine wpList_load_want rfl 64 _ rfl (gX) rfl 64 (irow .u8 (bl (K))) (0, 0) _ rX Tryd.underlying64 rfl hi9 ?_) | (refine wpList_store_row rfl 64 _ _ rfl (w.heap.size + 1 + 1) (irow .u8 (bl (K))) rfl rfl 64 _ r2 hi9 hfi (irow_one _ _) ?_) | fail)
          replace r2 := setRow_heap wr (w.heap.size + 1 + 1) _ (irow .u8 (bl (K))) _ _ r2
          replace hw := below_setRow hw (show w.heap.size ≤ w.heap.size + 1 + 1 by omega) (irow .u8 (bl (K)))
          generalize wr.setRow (w.heap.size + 1 + 1) (irow .u8 (bl (K))) = w9 at *
          exact bodyPost_ret (v := .agg (irow .u8 (bl (K)))) (results_cell_row Tryd.results45 _ _ (w.heap.size + 1 + 1) _ _ _ _ rfl r2 Tryd.underlying64 rfl hi9) rfl ⟨by rw [hK.out], hw⟩

end Go.Proofs.YtamieopjigjfiaaDoor

