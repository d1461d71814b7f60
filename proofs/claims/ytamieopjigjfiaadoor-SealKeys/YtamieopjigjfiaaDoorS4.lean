import Derived.Test.YtamieopjigjfiaaDoorProg
import Derived.WalkKit
import Derived.WalkSpells
import Derived.WalkLawsBesides
import Derived.Lib.QuietBelow
import Derived.BigQuiet
import Derived.Test.YtamieopjigjfiaaDoorS0
import Derived.Test.YtamieopjigjfiaaDoorS3
import Derived.Test.YtamieopjigjfiaaDoorS2
import Derived.Deep.RegionHeld3
import Derived.Deep.DeepAppendRoom
import Derived.OrdersHeld
namespace Go.Proofs.YtamieopjigjfiaaDoor
set_option maxRecDepth 100000
open Go Go.RowKit Go.Sort
attribute [local go_sem] setCell_drewN alloc_drewN


/-! A column written byte by byte. -/
def xc (x : B × B × B × B) : Nat → B
  | 0 => x.1
  | 1 => x.2.1
  | 2 => x.2.2.1
  | _ => x.2.2.2
def pj (l : List B) (i : Nat) (x : B × B × B × B) : Nat → List B
  | 0 => l
  | j + 1 => (pj l i x j).set (4 * i + j) (xc x j)
theorem pj_len (l : List B) (i : Nat) (x : B × B × B × B) (j : Nat) : (pj l i x j).length = l.length := by
  induction j with
  | zero => rfl
  | succ j ih => rw [pj, List.length_set, ih]
theorem pj_four (l : List B) (i : Nat) (x : B × B × B × B) : pj l i x 4 = put4 l i x := rfl
theorem pj_low (l : List B) (i : Nat) (x : B × B × B × B) (j n : Nat) (h : n < 4 * i) : (pj l i x j).getD n 0#8 = l.getD n 0#8 := by
  induction j with
  | zero => rfl
  | succ j ih => rw [pj, List.getD_eq_getElem?_getD, List.getElem?_set, if_neg (by omega), ← List.getD_eq_getElem?_getD, ih]
theorem col_get (l : List B) (i j : Nat) (h : j < 4) : l.getD (4 * i + j) 0#8 = xc (colOf l i) j := by
  rcases (show j = 0 ∨ j = 1 ∨ j = 2 ∨ j = 3 by omega) with rfl | rfl | rfl | rfl <;> rfl
theorem xc_xor (x y : B × B × B × B) (j : Nat) (h : j < 4) : xc (xorC x y) j = xc x j ^^^ xc y j := by
  rcases (show j = 0 ∨ j = 1 ∨ j = 2 ∨ j = 3 by omega) with rfl | rfl | rfl | rfl <;> rfl
def L4 (x : B × B × B × B) : List B := [x.1, x.2.1, x.2.2.1, x.2.2.2]
theorem L4_len (x : B × B × B × B) : (L4 x).length = 4 := rfl
theorem L4_get (x : B × B × B × B) (j : Nat) (h : j < 4) : (L4 x).getD j 0#8 = xc x j := by
  rcases (show j = 0 ∨ j = 1 ∨ j = 2 ∨ j = 3 by omega) with rfl | rfl | rfl | rfl <;> rfl
theorem bl_col (l : List B) (hl : l.length = 240) (i : Nat) (h : i < 60) : (irow .u8 (bl (l))).extract (i * 4) (i * 4 + (irow .u8 (bl (L4 (colOf l i)))).size) = (irow .u8 (bl (L4 (colOf l i)))) := by
  apply Array.ext_getElem?
  intro j
  rw [irow_size, bl_len, L4_len, Array.getElem?_extract]
  by_cases hj : j < 4
  · rw [if_pos (by rw [irow_size, bl_len, hl]; omega), irow_get _ _ _ (by rw [bl_len, hl]; omega), irow_get _ _ _ (by rw [bl_len]; exact hj), bl_get, bl_get, L4_get _ _ hj, ← col_get l i j hj, Nat.mul_comm i 4]
  · rw [if_neg (by omega), Array.getElem?_eq_none (by rw [irow_size, bl_len, L4_len]; omega)]
theorem mrk_low (k : Nat) (h : k < 8) : mrk (k + 1) = mrk k := by
  unfold mrk; rw [show (k + 1 - 1) / 8 = (k - 1) / 8 by omega]
theorem ks_lown (key : List B) (k : Nat) (h : k < 8) : ks key (k + 1) = put4 (ks key k) k (colOf key k) := by
  rw [ks, colK, if_pos h]
theorem pt_selfn (l : List B) (n : Nat) (hl : l.length = n) : pt (gb l) n n = l := by
  apply List.ext_getElem (by rw [pt_len, hl])
  intro i h1 h2
  have e := pt_get (gb l) n n (j := i) (by omega) (by omega)
  rw [List.getD_eq_getElem?_getD, List.getElem?_eq_getElem h1] at e
  rw [gb, List.getD_eq_getElem?_getD, List.getElem?_eq_getElem h2] at e
  exact e
theorem z83 (W : World) : (Instr.alloc 101 true (.tuple #[])).run Tryd.prog W = .ok (.pointer (some ⟨W.heap.size, 0, none⟩)) (W.alloc (.cells (irow .u8 (zr 240)) 101)) := by kernel_rfl
theorem z32 (W : World) : (Instr.alloc 64 true (.tuple #[])).run Tryd.prog W = .ok (.pointer (some ⟨W.heap.size, 0, none⟩)) (W.alloc (.cells (irow .u8 (zr 240)) 64)) := by kernel_rfl
theorem z82 (W : World) : (Instr.alloc 100 true (.tuple #[])).run Tryd.prog W = .ok (.pointer (some ⟨W.heap.size, 0, none⟩)) (W.alloc (.cells (irow .u8 (zr 4)) 100)) := by kernel_rfl
theorem info82 : (Tryd.prog.info? 100).map (·.size) = some 4 := by kernel_rfl
theorem info32 : (Tryd.prog.info? 64).map (·.size) = some 240 := by kernel_rfl
theorem built82 (a b c d : Int) : Tryd.prog.built 100 [(0, .int .u8 a), (1, .int .u8 b), (2, .int .u8 c), (3, .int .u8 d)] = some #[.int .u8 a, .int .u8 b, .int .u8 c, .int .u8 d] := by kernel_rfl
theorem built_L4 (a b c d : B) (T : B × B × B × B) (h : T = (a, b, c, d)) : Tryd.prog.built 100 [(0, .int .u8 (bv a)), (1, .int .u8 (bv b)), (2, .int .u8 (bv c)), (3, .int .u8 (bv d))] = some (irow .u8 (bl (L4 T))) := by
  subst h; exact built82 _ _ _ _

set_option maxRecDepth 100000 in
set_option maxHeartbeats 8000000 in
theorem r_keysBy (key : List B) (hl : key.length = 32) : Gives 45 #[.agg (irow .u8 (bl (sbl))), .agg (irow .u8 (bl (key)))] (.agg (irow .u8 (bl (ks key 60)))) := by
  intro w
  have hz : ∀ W : World, (Instr.alloc 101 true (.tuple #[])).run Tryd.prog W = .ok (.pointer (some ⟨W.heap.size, 0, none⟩)) (W.alloc (.cells (irow .u8 (bl (ks key 0))) 101)) := by rw [ks, bl_zr]; exact z83
  have R0 := hp4_0 w (.cells (irow .u8 (bl (sbl))) 61) (.cells (irow .u8 (bl (key))) 23) (.cells (irow .u8 (zr 240)) 64) (.cells (irow .u8 (bl (ks key 0))) 101)
  have R1 := hp4_1 w (.cells (irow .u8 (bl (sbl))) 61) (.cells (irow .u8 (bl (key))) 23) (.cells (irow .u8 (zr 240)) 64) (.cells (irow .u8 (bl (ks key 0))) 101)
  have R2 := hp4_2 w (.cells (irow .u8 (bl (sbl))) 61) (.cells (irow .u8 (bl (key))) 23) (.cells (irow .u8 (zr 240)) 64) (.cells (irow .u8 (bl (ks key 0))) 101)
  have R3 := hp4_3 w (.cells (irow .u8 (bl (sbl))) 61) (.cells (irow .u8 (bl (key))) 23) (.cells (irow .u8 (zr 240)) 64) (.cells (irow .u8 (bl (ks key 0))) 101)
  have hw : Below w.heap.size w ((((w.alloc (.cells (irow .u8 (bl (sbl))) 61)).alloc (.cells (irow .u8 (bl (key))) 23)).alloc (.cells (irow .u8 (zr 240)) 64)).alloc (.cells (irow .u8 (bl (ks key 0))) 101)) := (((((Below.refl _ _).alloc (Nat.le_refl _) _).alloc (by simp) _).alloc (by simp; omega) _).alloc (by simp; omega) _)

  go_enter Tryd.func45, Tryd.ntmps45
  go_wp2_with (first | (refine wpList_box rfl 61 _ rfl _ rfl (b256 _) ?_) | (refine wpList_box rfl 23 _ rfl _ rfl (bKey _) ?_) | (refine wpList_alloc rfl 64 rfl (irow .u8 (zr 240)) z32 ?_) | (refine wpList_alloc rfl 101 rfl (irow .u8 (bl (ks key 0))) hz ?_) | fail)
  try simp only [size_alloc1, Act.put, List.setIfInBounds_toArray, List.set_cons_succ, List.set_cons_zero]
  clear hz
  generalize World.alloc _ _ = w0 at *
  go_loopw [6, 7] (fun m i wr => ∃ k : Nat, k ≤ 60 ∧ i = .int .i64 k ∧ m = .int .u8 (bv (mrk k)) ∧ wr.heap[w.heap.size]? = some (.cells (irow .u8 (bl (sbl))) 61 (0, 0)) ∧ wr.heap[w.heap.size + 1]? = some (.cells (irow .u8 (bl (key))) 23 (0, 0)) ∧ wr.heap[w.heap.size + 1 + 1]? = some (.cells (irow .u8 (zr 240)) 64 (0, 0)) ∧ wr.heap[w.heap.size + 1 + 1 + 1]? = some (.cells (irow .u8 (bl (ks key k))) 101 (0, 0)) ∧ Below w.heap.size w wr) (fun _ i _ => 60 - (intOf i).toNat)
  case atStart => exact ⟨0, by omega, rfl, rfl, R0, R1, R2, R3, hw⟩
  case round =>
    clear R0 R1 R2 R3 hw
    obtain ⟨k, hk, rfl, rfl, r0, r1, r2, r3, hw⟩ := hrel
    by_cases hlt : k < 60
    · have hd : decide ((k : Int) < 60) = true := by simp; omega
      by_cases h8 : k < 8
      · have hd8 : decide ((k : Int) < 8) = true := by simp; omega
        have hmn := hide (mrk_low k h8)
        have hkn := hide (ks_lown key k h8)
        go_wp2_with (fail)
        go_loopw [8] (fun i wr => ∃ j : Nat, j ≤ 4 ∧ i = .int .i64 j ∧ wr.heap[w.heap.size]? = some (.cells (irow .u8 (bl (sbl))) 61 (0, 0)) ∧ wr.heap[w.heap.size + 1]? = some (.cells (irow .u8 (bl (key))) 23 (0, 0)) ∧ wr.heap[w.heap.size + 1 + 1]? = some (.cells (irow .u8 (zr 240)) 64 (0, 0)) ∧ wr.heap[w.heap.size + 1 + 1 + 1]? = some (.cells (irow .u8 (bl (pj (ks key k) k (colOf key k) j))) 101 (0, 0)) ∧ Below w.heap.size w wr) (fun i _ => 4 - (intOf i).toNat)
        case atStart => exact ⟨0, by omega, rfl, r0, r1, r2, r3, hw⟩
        case round =>
          clear r0 r1 r2 r3 hw
          obtain ⟨j, hj, rfl, r0, r1, r2, r3, hw⟩ := hrel
          by_cases hj4 : j < 4
          · have hdj : decide ((j : Int) < 4) = true := by simp; omega
            have c1 := brow_cell r1 (j := 4 * k + j) (by omega)
            rw [col_get _ _ _ hj4] at c1
            have hset : Hid (pj (ks key k) k (colOf key k) (j + 1) = (pj (ks key k) k (colOf key k) j).set (4 * k + j) (xc (colOf key k) j)) := hide rfl
            generalize xc (colOf key k) j = x1 at *
            go_wp2_with (fail)
            have k1 : ∀ p : Regrown, (grow (redrawn wr p.d) p.os).cell? ⟨w.heap.size + 1, 4 * k + j, none⟩ = some (.int .u8 (bv x1)) := fun p => cell_regrown (c1) p.d p.os
            refine wp_region_tail (C := fun w' => ∃ p : Regrown, w' = grow (redrawn wr p.d) p.os) 10 _ rfl rfl rfl (by kernel_rfl) (by kernel_rfl) (by kernel_rfl) (by kernel_rfl) ⟨⟨wr.drawn + 1, #[]⟩, by rw [grow_empty]; rfl⟩ ?_
            dsimp only [List.set, idle]
            go_big_quiet_step (fail)
            go_big_quiet_step (fail)
            go_big_quiet_step (fail)
            go_big_quiet_step (fail)
            go_big_quiet_step (fail)
            go_big_quiet_step (fail)
            go_big_quiet_step (fail)
            go_big_quiet_step (fail)
            go_big_quiet_step (fail)
            go_big_quiet_step (fail)
            refine wpQuiet_idle rfl rfl rfl ?_
            rintro _ ⟨p, rfl⟩
            have hb := below_regrown wr p.d p.os
            generalize grow (redrawn wr p.d) p.os = w8 at *
            clear k1
            replace r0 := keep hb r0
            replace r1 := keep hb r1
            replace r2 := keep hb r2
            replace r3 := keep hb r3
            replace hw := Below.after hw hb
            clear hb

            have cw := brow_cell r3 (j := 4 * k + j) (by rw [pj_len, ks_len]; omega)
            have hf := row_frozen r3 (4 * k + j)
            rw [Nat.mul_comm 4 k] at cw hf
            clear c1
            go_wp2
            refine ⟨⟨j + 1, by omega, by go_num, heap_other r0 (by omega), heap_other r1 (by omega), heap_other r2 (by omega), by rw [hset.out, Nat.mul_comm 4 k]; exact brow_set r3 (k * 4 + j) _, hw.setCell (show w.heap.size ≤ w.heap.size + 1 + 1 + 1 by omega) _⟩, by simp [intOf]; omega⟩
          · obtain rfl : j = 4 := by omega
            have hdj : decide ((4 : Int) < 4) = false := by decide
            rw [pj_four, ← hkn.out] at r3
            clear hj hj4
            go_wp2
            refine ⟨⟨k + 1, by omega, by go_num, by rw [hmn.out], r0, r1, r2, r3, hw⟩, by simp [intOf]; omega⟩
      · have hd8 : decide ((k : Int) < 8) = false := by simp; omega
        have hk8 : 8 ≤ k := by omega
        have hm8 : (k : Int).tmod 8 = ((k % 8 : Nat) : Int) := by rw [Int.tmod_eq_emod_of_nonneg (by omega)]; rfl
        have hm4 : (k : Int).tmod 4 = ((k % 4 : Nat) : Int) := by rw [Int.tmod_eq_emod_of_nonneg (by omega)]; rfl
        have hpart := bl_col (ks key k) (ks_len _ _) (k - 1) (by omega)
        have hkn := hide (ks_next key k hk8)
        have hmn := hide (mrk_next k hk8)
        obtain ⟨E, hE0⟩ : ∃ E, E = colOf (ks key k) (k - 8) := ⟨_, rfl⟩
        have hE : Hid (∀ j < 4, (ks key k).getD (4 * (k - 8) + j) 0#8 = xc E j) := hide (fun j h => by rw [hE0]; exact col_get _ _ _ h)
        rw [← hE0] at hkn
        clear hE0
        obtain ⟨xa, xb, xc_, xd, hx4⟩ : ∃ a b c d, colOf (ks key k) (k - 1) = (a, b, c, d) := ⟨_, _, _, _, rfl⟩
        rw [hx4] at hpart hkn
        clear hx4
        have hiX := info_bl info82 (L4 (xa, xb, xc_, xd)) (L4_len _)
        have RX := hp1_0 wr (.cells (irow .u8 (zr 4)) 100)
        have HB : Below wr.heap.size wr (wr.alloc (.cells (irow .u8 (zr 4)) 100)) := (Below.refl _ _).alloc (Nat.le_refl _) _
        have hfX : (irow .u8 (zr 4)).size = (irow .u8 (bl (L4 (xa, xb, xc_, xd)))).size := by rw [irow_size, irow_size, zr_len, bl_len, L4_len]
        have bm := bnd (mrk k)
        go_wp2_with (first | (refine wpList_load_part rfl 100 _ rfl (w.heap.size + 1 + 1 + 1) ((k - 1) * 4) rfl 101 (irow .u8 (bl (ks key k))) (0, 0) (irow .u8 (bl (L4 (xa, xb, xc_, xd)))) _ r3 hpart Tryd.underlying100 rfl hiX ?_) | (refine wpList_alloc rfl 100 rfl (irow .u8 (zr 4)) z82 ?_) | (refine wpList_store_row rfl 100 _ _ rfl (wr.heap.size) (irow .u8 (bl (L4 (xa, xb, xc_, xd)))) rfl rfl 100 _ RX hiX hfX (irow_one _ _) ?_; refine wpList_stay ?_) | fail)
        unfold WpStay
        have l0 := lt_of_row r0
        have l1 := lt_of_row r1
        have l2 := lt_of_row r2
        have l3 := lt_of_row r3
        have hsz := hw.size
        replace r0 := (setRow_other _ (wr.heap.size) (w.heap.size) (irow .u8 (bl (L4 (xa, xb, xc_, xd)))) (by omega)).trans (keep HB r0)
        replace r1 := (setRow_other _ (wr.heap.size) (w.heap.size + 1) (irow .u8 (bl (L4 (xa, xb, xc_, xd)))) (by omega)).trans (keep HB r1)
        replace r2 := (setRow_other _ (wr.heap.size) (w.heap.size + 1 + 1) (irow .u8 (bl (L4 (xa, xb, xc_, xd)))) (by omega)).trans (keep HB r2)
        replace r3 := (setRow_other _ (wr.heap.size) (w.heap.size + 1 + 1 + 1) (irow .u8 (bl (L4 (xa, xb, xc_, xd)))) (by omega)).trans (keep HB r3)
        have rX := setRow_heap _ (wr.heap.size) _ (irow .u8 (bl (L4 (xa, xb, xc_, xd)))) _ _ RX
        replace hw := below_setRow (Below.after hw HB) hsz (irow .u8 (bl (L4 (xa, xb, xc_, xd))))
        clear RX HB hfX hiX hpart hsz
        generalize World.setRow _ (wr.heap.size) (irow .u8 (bl (L4 (xa, xb, xc_, xd)))) = w1 at *
        generalize wr.heap.size = gX at *
        by_cases h80 : k % 8 = 0
        · have hd80 : decide (((k % 8 : Nat) : Int) = 0) = true := by rw [h80]; rfl
          rw [if_pos h80] at hmn
          obtain ⟨T, hT⟩ : ∃ T, T = turnC k (xa, xb, xc_, xd) := ⟨_, rfl⟩
          rw [← hT] at hkn
          have hTT : T = (sb xb ^^^ mrk k, sb xc_, sb xd, sb xa) := by rw [hT, turnC, if_pos h80]
          clear hT
          have d0 := brow_cell rX (j := 0) (by rw [L4_len]; omega)
          have d1 := brow_cell rX (j := 1) (by rw [L4_len]; omega)
          have d2 := brow_cell rX (j := 2) (by rw [L4_len]; omega)
          have d3 := brow_cell rX (j := 3) (by rw [L4_len]; omega)
          rw [L4_get _ _ (by omega)] at d0 d1 d2 d3
          simp only [xc] at d0 d1 d2 d3
          have s0 := brow_cell r0 (j := xa.toNat) (by rw [sbl_len]; exact xa.isLt)
          have s1 := brow_cell r0 (j := xb.toNat) (by rw [sbl_len]; exact xb.isLt)
          have s2 := brow_cell r0 (j := xc_.toNat) (by rw [sbl_len]; exact xc_.isLt)
          have s3 := brow_cell r0 (j := xd.toNat) (by rw [sbl_len]; exact xd.isLt)
          rw [sbl_get] at s0 s1 s2 s3
          have n0 := bv_nat xa
          have n1 := bv_nat xb
          have n2 := bv_nat xc_
          have n3 := bv_nat xd
          have b0 := bnd xa
          have b1 := bnd xb
          have b2 := bnd xc_
          have b3 := bnd xd

          have hxm := xor8 (sb xb) (mrk k)
          have tw := r_double (mrk k)
          go_wp2_with (fail)
          have k0 : ∀ p : Regrown, (grow (redrawn w1 p.d) p.os).cell? ⟨gX, 0, none⟩ = some (.int .u8 (bv xa)) := fun p => cell_regrown (d0) p.d p.os
          have t0 : ∀ p : Regrown, (grow (redrawn w1 p.d) p.os).cell? ⟨w.heap.size, xa.toNat, none⟩ = some (.int .u8 (bv (sb xa))) := fun p => cell_regrown (s0) p.d p.os
          have k1 : ∀ p : Regrown, (grow (redrawn w1 p.d) p.os).cell? ⟨gX, 1, none⟩ = some (.int .u8 (bv xb)) := fun p => cell_regrown (d1) p.d p.os
          have t1 : ∀ p : Regrown, (grow (redrawn w1 p.d) p.os).cell? ⟨w.heap.size, xb.toNat, none⟩ = some (.int .u8 (bv (sb xb))) := fun p => cell_regrown (s1) p.d p.os
          have k2 : ∀ p : Regrown, (grow (redrawn w1 p.d) p.os).cell? ⟨gX, 2, none⟩ = some (.int .u8 (bv xc_)) := fun p => cell_regrown (d2) p.d p.os
          have t2 : ∀ p : Regrown, (grow (redrawn w1 p.d) p.os).cell? ⟨w.heap.size, xc_.toNat, none⟩ = some (.int .u8 (bv (sb xc_))) := fun p => cell_regrown (s2) p.d p.os
          have k3 : ∀ p : Regrown, (grow (redrawn w1 p.d) p.os).cell? ⟨gX, 3, none⟩ = some (.int .u8 (bv xd)) := fun p => cell_regrown (d3) p.d p.os
          have t3 : ∀ p : Regrown, (grow (redrawn w1 p.d) p.os).cell? ⟨w.heap.size, xd.toNat, none⟩ = some (.int .u8 (bv (sb xd))) := fun p => cell_regrown (s3) p.d p.os
          refine wp_region_tail (C := fun w' => ∃ p : Regrown, w' = grow (redrawn w1 p.d) p.os) 19 _ rfl rfl rfl (by kernel_rfl) (by kernel_rfl) (by kernel_rfl) (by kernel_rfl) ⟨⟨w1.drawn + 1, #[]⟩, by rw [grow_empty]; rfl⟩ ?_
          dsimp only [List.set, idle]
          go_big_quiet_step (fail)
          go_big_quiet_step (fail)
          go_big_quiet_step (fail)
          go_big_quiet_step (fail)
          go_big_quiet_step (fail)
          go_big_quiet_step (fail)
          go_big_quiet_step (fail)
          go_big_quiet_step (fail)
          go_big_quiet_step (fail)
          go_big_quiet_step (fail)
          go_big_quiet_step (fail)
          go_big_quiet_step (fail)
          go_big_quiet_step (fail)
          go_big_quiet_step (fail)
          go_big_quiet_step (fail)
          go_big_quiet_step (fail)
          go_big_quiet_step (fail)
          go_big_quiet_step (fail)
          refine wpQuiet_build rfl 100 _ rfl _ rfl (irow .u8 (bl (L4 T))) (built_L4 _ _ _ _ T hTT) ?_
          simp only [Act.put, List.setIfInBounds_toArray, List.set_cons_succ, List.set_cons_zero]
          refine wpQuiet_idle rfl rfl rfl ?_
          rintro _ ⟨p, rfl⟩
          have hb := below_regrown w1 p.d p.os
          generalize grow (redrawn w1 p.d) p.os = w2 at *
          clear k0 t0 k1 t1 k2 t2 k3 t3
          replace r0 := keep hb r0
          replace r1 := keep hb r1
          replace r2 := keep hb r2
          replace r3 := keep hb r3
          replace rX := keep hb rX
          replace hw := Below.after hw hb
          clear hb

          have hiT := info_bl info82 (L4 T) (L4_len _)
          refine wpList_store_row rfl 100 _ _ rfl (gX) (irow .u8 (bl (L4 T))) rfl rfl 100 _ rX hiT (by rw [irow_size, irow_size, bl_len, bl_len, L4_len, L4_len]) (irow_one _ _) ?_
          simp only [Act.put]
          replace r0 := (setRow_other w2 gX (w.heap.size) (irow .u8 (bl (L4 T))) (by omega)).trans r0
          replace r1 := (setRow_other w2 gX (w.heap.size + 1) (irow .u8 (bl (L4 T))) (by omega)).trans r1
          replace r2 := (setRow_other w2 gX (w.heap.size + 1 + 1) (irow .u8 (bl (L4 T))) (by omega)).trans r2
          replace r3 := (setRow_other w2 gX (w.heap.size + 1 + 1 + 1) (irow .u8 (bl (L4 T))) (by omega)).trans r3
          replace rX := setRow_heap w2 gX _ (irow .u8 (bl (L4 T))) _ _ rX
          replace hw := below_setRow hw (show w.heap.size ≤ gX by omega) (irow .u8 (bl (L4 T)))
          generalize w2.setRow gX (irow .u8 (bl (L4 T))) = w3 at *
          clear d0 d1 d2 d3 s0 s1 s2 s3 hiT

          go_wp2_with (fail)
          refine (tw.at _).mono ?_
          rintro e_ w4 ⟨rfl, hb⟩
          replace r0 := keep hb r0
          replace r1 := keep hb r1
          replace r2 := keep hb r2
          replace r3 := keep hb r3
          replace hw := Below.after hw hb

          replace rX := keep hb rX
          clear hb tw
          go_wp2_with (fail)
          go_loopw [10] (fun i wr => ∃ j : Nat, j ≤ 4 ∧ i = .int .i64 j ∧ wr.heap[w.heap.size]? = some (.cells (irow .u8 (bl (sbl))) 61 (0, 0)) ∧ wr.heap[w.heap.size + 1]? = some (.cells (irow .u8 (bl (key))) 23 (0, 0)) ∧ wr.heap[w.heap.size + 1 + 1]? = some (.cells (irow .u8 (zr 240)) 64 (0, 0)) ∧ wr.heap[w.heap.size + 1 + 1 + 1]? = some (.cells (irow .u8 (bl (pj (ks key k) k (xorC E T) j))) 101 (0, 0)) ∧ Below w.heap.size w wr ∧ wr.heap[gX]? = some (.cells (irow .u8 (bl (L4 T))) 100 (0, 0))) (fun i _ => 4 - (intOf i).toNat)
          case atStart => exact ⟨0, by omega, rfl, r0, r1, r2, r3, hw, rX⟩
          case round =>
            clear r0 r1 r2 r3 hw rX
            obtain ⟨j, hj, rfl, r0, r1, r2, r3, hw, rX⟩ := hrel
            by_cases hj4 : j < 4
            · have hdj : decide ((j : Int) < 4) = true := by simp; omega
              have c1 := brow_cell r3 (j := 4 * (k - 8) + j) (by rw [pj_len, ks_len]; omega)
              rw [pj_low _ _ _ _ _ (by omega), hE.out j hj4, show 4 * (k - 8) + j = (k - 8) * 4 + j by omega] at c1
              have c2 := brow_cell rX (j := j) (by rw [L4_len]; exact hj4)
              rw [L4_get _ _ hj4] at c2
              have hx := xor8 (xc E j) (xc T j)
              have hset : Hid (pj (ks key k) k (xorC E T) (j + 1) = (pj (ks key k) k (xorC E T) j).set (4 * k + j) (xc E j ^^^ xc T j)) := hide (by rw [pj, xc_xor _ _ _ hj4])
              generalize xc E j = x1 at *
              generalize xc T j = x2 at *
              go_wp2_with (fail)
              have k1 : ∀ p : Regrown, (grow (redrawn wr p.d) p.os).cell? ⟨w.heap.size + 1 + 1 + 1, (k - 8) * 4 + j, none⟩ = some (.int .u8 (bv x1)) := fun p => cell_regrown (c1) p.d p.os
              have k2 : ∀ p : Regrown, (grow (redrawn wr p.d) p.os).cell? ⟨gX, j, none⟩ = some (.int .u8 (bv x2)) := fun p => cell_regrown (c2) p.d p.os
              refine wp_region_tail (C := fun w' => ∃ p : Regrown, w' = grow (redrawn wr p.d) p.os) 14 _ rfl rfl rfl (by kernel_rfl) (by kernel_rfl) (by kernel_rfl) (by kernel_rfl) ⟨⟨wr.drawn + 1, #[]⟩, by rw [grow_empty]; rfl⟩ ?_
              dsimp only [List.set, idle]
              go_big_quiet_step (fail)
              go_big_quiet_step (fail)
              go_big_quiet_step (fail)
              go_big_quiet_step (fail)
              go_big_quiet_step (fail)
              go_big_quiet_step (fail)
              go_big_quiet_step (fail)
              go_big_quiet_step (fail)
              go_big_quiet_step (fail)
              go_big_quiet_step (fail)
              go_big_quiet_step (fail)
              go_big_quiet_step (fail)
              go_big_quiet_step (fail)
              go_big_quiet_step (fail)
              refine wpQuiet_idle rfl rfl rfl ?_
              rintro _ ⟨p, rfl⟩
              have hb := below_regrown wr p.d p.os
              generalize grow (redrawn wr p.d) p.os = w8 at *
              clear k1 k2
              replace r0 := keep hb r0
              replace r1 := keep hb r1
              replace r2 := keep hb r2
              replace r3 := keep hb r3
              replace rX := keep hb rX
              replace hw := Below.after hw hb
              clear hb

              have cw := brow_cell r3 (j := 4 * k + j) (by rw [pj_len, ks_len]; omega)
              have hf := row_frozen r3 (4 * k + j)
              rw [Nat.mul_comm 4 k] at cw hf
              clear c1 c2
              go_wp2
              refine ⟨⟨j + 1, by omega, by go_num, heap_other r0 (by omega), heap_other r1 (by omega), heap_other r2 (by omega), by rw [hset.out, Nat.mul_comm 4 k]; exact brow_set r3 (k * 4 + j) _, hw.setCell (show w.heap.size ≤ w.heap.size + 1 + 1 + 1 by omega) _, heap_other rX (by omega)⟩, by simp [intOf]; omega⟩
            · obtain rfl : j = 4 := by omega
              have hdj : decide ((4 : Int) < 4) = false := by decide
              rw [pj_four, ← hkn.out] at r3
              clear hj hj4
              go_wp2
              refine ⟨⟨k + 1, by omega, by go_num, by rw [hmn.out], r0, r1, r2, r3, hw⟩, by simp [intOf]; omega⟩

        · have hd80 : decide (((k % 8 : Nat) : Int) = 0) = false := by simp; omega
          rw [if_neg h80] at hmn
          by_cases h40 : k % 4 = 0
          · have hd40 : decide (((k % 4 : Nat) : Int) = 0) = true := by rw [h40]; rfl
            obtain ⟨T, hT⟩ : ∃ T, T = turnC k (xa, xb, xc_, xd) := ⟨_, rfl⟩
            rw [← hT] at hkn
            have hTT : T = (sb xa, sb xb, sb xc_, sb xd) := by rw [hT, turnC, if_neg h80, if_pos h40]
            clear hT
            have d0 := brow_cell rX (j := 0) (by rw [L4_len]; omega)
            have d1 := brow_cell rX (j := 1) (by rw [L4_len]; omega)
            have d2 := brow_cell rX (j := 2) (by rw [L4_len]; omega)
            have d3 := brow_cell rX (j := 3) (by rw [L4_len]; omega)
            rw [L4_get _ _ (by omega)] at d0 d1 d2 d3
            simp only [xc] at d0 d1 d2 d3
            have s0 := brow_cell r0 (j := xa.toNat) (by rw [sbl_len]; exact xa.isLt)
            have s1 := brow_cell r0 (j := xb.toNat) (by rw [sbl_len]; exact xb.isLt)
            have s2 := brow_cell r0 (j := xc_.toNat) (by rw [sbl_len]; exact xc_.isLt)
            have s3 := brow_cell r0 (j := xd.toNat) (by rw [sbl_len]; exact xd.isLt)
            rw [sbl_get] at s0 s1 s2 s3
            have n0 := bv_nat xa
            have n1 := bv_nat xb
            have n2 := bv_nat xc_
            have n3 := bv_nat xd
            have b0 := bnd xa
            have b1 := bnd xb
            have b2 := bnd xc_
            have b3 := bnd xd

            go_wp2_with (fail)
            have k0 : ∀ p : Regrown, (grow (redrawn w1 p.d) p.os).cell? ⟨gX, 0, none⟩ = some (.int .u8 (bv xa)) := fun p => cell_regrown (d0) p.d p.os
            have t0 : ∀ p : Regrown, (grow (redrawn w1 p.d) p.os).cell? ⟨w.heap.size, xa.toNat, none⟩ = some (.int .u8 (bv (sb xa))) := fun p => cell_regrown (s0) p.d p.os
            have k1 : ∀ p : Regrown, (grow (redrawn w1 p.d) p.os).cell? ⟨gX, 1, none⟩ = some (.int .u8 (bv xb)) := fun p => cell_regrown (d1) p.d p.os
            have t1 : ∀ p : Regrown, (grow (redrawn w1 p.d) p.os).cell? ⟨w.heap.size, xb.toNat, none⟩ = some (.int .u8 (bv (sb xb))) := fun p => cell_regrown (s1) p.d p.os
            have k2 : ∀ p : Regrown, (grow (redrawn w1 p.d) p.os).cell? ⟨gX, 2, none⟩ = some (.int .u8 (bv xc_)) := fun p => cell_regrown (d2) p.d p.os
            have t2 : ∀ p : Regrown, (grow (redrawn w1 p.d) p.os).cell? ⟨w.heap.size, xc_.toNat, none⟩ = some (.int .u8 (bv (sb xc_))) := fun p => cell_regrown (s2) p.d p.os
            have k3 : ∀ p : Regrown, (grow (redrawn w1 p.d) p.os).cell? ⟨gX, 3, none⟩ = some (.int .u8 (bv xd)) := fun p => cell_regrown (d3) p.d p.os
            have t3 : ∀ p : Regrown, (grow (redrawn w1 p.d) p.os).cell? ⟨w.heap.size, xd.toNat, none⟩ = some (.int .u8 (bv (sb xd))) := fun p => cell_regrown (s3) p.d p.os
            refine wp_region_tail (C := fun w' => ∃ p : Regrown, w' = grow (redrawn w1 p.d) p.os) 17 _ rfl rfl rfl (by kernel_rfl) (by kernel_rfl) (by kernel_rfl) (by kernel_rfl) ⟨⟨w1.drawn + 1, #[]⟩, by rw [grow_empty]; rfl⟩ ?_
            dsimp only [List.set, idle]
            go_big_quiet_step (fail)
            go_big_quiet_step (fail)
            go_big_quiet_step (fail)
            go_big_quiet_step (fail)
            go_big_quiet_step (fail)
            go_big_quiet_step (fail)
            go_big_quiet_step (fail)
            go_big_quiet_step (fail)
            go_big_quiet_step (fail)
            go_big_quiet_step (fail)
            go_big_quiet_step (fail)
            go_big_quiet_step (fail)
            go_big_quiet_step (fail)
            go_big_quiet_step (fail)
            go_big_quiet_step (fail)
            go_big_quiet_step (fail)
            refine wpQuiet_build rfl 100 _ rfl _ rfl (irow .u8 (bl (L4 T))) (built_L4 _ _ _ _ T hTT) ?_
            simp only [Act.put, List.setIfInBounds_toArray, List.set_cons_succ, List.set_cons_zero]
            refine wpQuiet_idle rfl rfl rfl ?_
            rintro _ ⟨p, rfl⟩
            have hb := below_regrown w1 p.d p.os
            generalize grow (redrawn w1 p.d) p.os = w2 at *
            clear k0 t0 k1 t1 k2 t2 k3 t3
            replace r0 := keep hb r0
            replace r1 := keep hb r1
            replace r2 := keep hb r2
            replace r3 := keep hb r3
            replace rX := keep hb rX
            replace hw := Below.after hw hb
            clear hb

            have hiT := info_bl info82 (L4 T) (L4_len _)
            refine wpList_store_row rfl 100 _ _ rfl (gX) (irow .u8 (bl (L4 T))) rfl rfl 100 _ rX hiT (by rw [irow_size, irow_size, bl_len, bl_len, L4_len, L4_len]) (irow_one _ _) ?_
            simp only [Act.put]
            replace r0 := (setRow_other w2 gX (w.heap.size) (irow .u8 (bl (L4 T))) (by omega)).trans r0
            replace r1 := (setRow_other w2 gX (w.heap.size + 1) (irow .u8 (bl (L4 T))) (by omega)).trans r1
            replace r2 := (setRow_other w2 gX (w.heap.size + 1 + 1) (irow .u8 (bl (L4 T))) (by omega)).trans r2
            replace r3 := (setRow_other w2 gX (w.heap.size + 1 + 1 + 1) (irow .u8 (bl (L4 T))) (by omega)).trans r3
            replace rX := setRow_heap w2 gX _ (irow .u8 (bl (L4 T))) _ _ rX
            replace hw := below_setRow hw (show w.heap.size ≤ gX by omega) (irow .u8 (bl (L4 T)))
            generalize w2.setRow gX (irow .u8 (bl (L4 T))) = w3 at *
            clear d0 d1 d2 d3 s0 s1 s2 s3 hiT

            go_wp2_with (fail)
            go_loopw [10] (fun i wr => ∃ j : Nat, j ≤ 4 ∧ i = .int .i64 j ∧ wr.heap[w.heap.size]? = some (.cells (irow .u8 (bl (sbl))) 61 (0, 0)) ∧ wr.heap[w.heap.size + 1]? = some (.cells (irow .u8 (bl (key))) 23 (0, 0)) ∧ wr.heap[w.heap.size + 1 + 1]? = some (.cells (irow .u8 (zr 240)) 64 (0, 0)) ∧ wr.heap[w.heap.size + 1 + 1 + 1]? = some (.cells (irow .u8 (bl (pj (ks key k) k (xorC E T) j))) 101 (0, 0)) ∧ Below w.heap.size w wr ∧ wr.heap[gX]? = some (.cells (irow .u8 (bl (L4 T))) 100 (0, 0))) (fun i _ => 4 - (intOf i).toNat)
            case atStart => exact ⟨0, by omega, rfl, r0, r1, r2, r3, hw, rX⟩
            case round =>
              clear r0 r1 r2 r3 hw rX
              obtain ⟨j, hj, rfl, r0, r1, r2, r3, hw, rX⟩ := hrel
              by_cases hj4 : j < 4
              · have hdj : decide ((j : Int) < 4) = true := by simp; omega
                have c1 := brow_cell r3 (j := 4 * (k - 8) + j) (by rw [pj_len, ks_len]; omega)
                rw [pj_low _ _ _ _ _ (by omega), hE.out j hj4, show 4 * (k - 8) + j = (k - 8) * 4 + j by omega] at c1
                have c2 := brow_cell rX (j := j) (by rw [L4_len]; exact hj4)
                rw [L4_get _ _ hj4] at c2
                have hx := xor8 (xc E j) (xc T j)
                have hset : Hid (pj (ks key k) k (xorC E T) (j + 1) = (pj (ks key k) k (xorC E T) j).set (4 * k + j) (xc E j ^^^ xc T j)) := hide (by rw [pj, xc_xor _ _ _ hj4])
                generalize xc E j = x1 at *
                generalize xc T j = x2 at *
                go_wp2_with (fail)
                have k1 : ∀ p : Regrown, (grow (redrawn wr p.d) p.os).cell? ⟨w.heap.size + 1 + 1 + 1, (k - 8) * 4 + j, none⟩ = some (.int .u8 (bv x1)) := fun p => cell_regrown (c1) p.d p.os
                have k2 : ∀ p : Regrown, (grow (redrawn wr p.d) p.os).cell? ⟨gX, j, none⟩ = some (.int .u8 (bv x2)) := fun p => cell_regrown (c2) p.d p.os
                refine wp_region_tail (C := fun w' => ∃ p : Regrown, w' = grow (redrawn wr p.d) p.os) 14 _ rfl rfl rfl (by kernel_rfl) (by kernel_rfl) (by kernel_rfl) (by kernel_rfl) ⟨⟨wr.drawn + 1, #[]⟩, by rw [grow_empty]; rfl⟩ ?_
                dsimp only [List.set, idle]
                go_big_quiet_step (fail)
                go_big_quiet_step (fail)
                go_big_quiet_step (fail)
                go_big_quiet_step (fail)
                go_big_quiet_step (fail)
                go_big_quiet_step (fail)
                go_big_quiet_step (fail)
                go_big_quiet_step (fail)
                go_big_quiet_step (fail)
                go_big_quiet_step (fail)
                go_big_quiet_step (fail)
                go_big_quiet_step (fail)
                go_big_quiet_step (fail)
                go_big_quiet_step (fail)
                refine wpQuiet_idle rfl rfl rfl ?_
                rintro _ ⟨p, rfl⟩
                have hb := below_regrown wr p.d p.os
                generalize grow (redrawn wr p.d) p.os = w8 at *
                clear k1 k2
                replace r0 := keep hb r0
                replace r1 := keep hb r1
                replace r2 := keep hb r2
                replace r3 := keep hb r3
                replace rX := keep hb rX
                replace hw := Below.after hw hb
                clear hb

                have cw := brow_cell r3 (j := 4 * k + j) (by rw [pj_len, ks_len]; omega)
                have hf := row_frozen r3 (4 * k + j)
                rw [Nat.mul_comm 4 k] at cw hf
                clear c1 c2
                go_wp2
                refine ⟨⟨j + 1, by omega, by go_num, heap_other r0 (by omega), heap_other r1 (by omega), heap_other r2 (by omega), by rw [hset.out, Nat.mul_comm 4 k]; exact brow_set r3 (k * 4 + j) _, hw.setCell (show w.heap.size ≤ w.heap.size + 1 + 1 + 1 by omega) _, heap_other rX (by omega)⟩, by simp [intOf]; omega⟩
              · obtain rfl : j = 4 := by omega
                have hdj : decide ((4 : Int) < 4) = false := by decide
                rw [pj_four, ← hkn.out] at r3
                clear hj hj4
                go_wp2
                refine ⟨⟨k + 1, by omega, by go_num, by rw [hmn.out], r0, r1, r2, r3, hw⟩, by simp [intOf]; omega⟩

          · have hd40 : decide (((k % 4 : Nat) : Int) = 0) = false := by simp; omega
            rw [turnC, if_neg h80, if_neg h40] at hkn
            generalize (xa, xb, xc_, xd) = T at *
            go_wp2_with (fail)
            go_loopw [10] (fun i wr => ∃ j : Nat, j ≤ 4 ∧ i = .int .i64 j ∧ wr.heap[w.heap.size]? = some (.cells (irow .u8 (bl (sbl))) 61 (0, 0)) ∧ wr.heap[w.heap.size + 1]? = some (.cells (irow .u8 (bl (key))) 23 (0, 0)) ∧ wr.heap[w.heap.size + 1 + 1]? = some (.cells (irow .u8 (zr 240)) 64 (0, 0)) ∧ wr.heap[w.heap.size + 1 + 1 + 1]? = some (.cells (irow .u8 (bl (pj (ks key k) k (xorC E T) j))) 101 (0, 0)) ∧ Below w.heap.size w wr ∧ wr.heap[gX]? = some (.cells (irow .u8 (bl (L4 T))) 100 (0, 0))) (fun i _ => 4 - (intOf i).toNat)
            case atStart => exact ⟨0, by omega, rfl, r0, r1, r2, r3, hw, rX⟩
            case round =>
              clear r0 r1 r2 r3 hw rX
              obtain ⟨j, hj, rfl, r0, r1, r2, r3, hw, rX⟩ := hrel
              by_cases hj4 : j < 4
              · have hdj : decide ((j : Int) < 4) = true := by simp; omega
                have c1 := brow_cell r3 (j := 4 * (k - 8) + j) (by rw [pj_len, ks_len]; omega)
                rw [pj_low _ _ _ _ _ (by omega), hE.out j hj4, show 4 * (k - 8) + j = (k - 8) * 4 + j by omega] at c1
                have c2 := brow_cell rX (j := j) (by rw [L4_len]; exact hj4)
                rw [L4_get _ _ hj4] at c2
                have hx := xor8 (xc E j) (xc T j)
                have hset : Hid (pj (ks key k) k (xorC E T) (j + 1) = (pj (ks key k) k (xorC E T) j).set (4 * k + j) (xc E j ^^^ xc T j)) := hide (by rw [pj, xc_xor _ _ _ hj4])
                generalize xc E j = x1 at *
                generalize xc T j = x2 at *
                go_wp2_with (fail)
                have k1 : ∀ p : Regrown, (grow (redrawn wr p.d) p.os).cell? ⟨w.heap.size + 1 + 1 + 1, (k - 8) * 4 + j, none⟩ = some (.int .u8 (bv x1)) := fun p => cell_regrown (c1) p.d p.os
                have k2 : ∀ p : Regrown, (grow (redrawn wr p.d) p.os).cell? ⟨gX, j, none⟩ = some (.int .u8 (bv x2)) := fun p => cell_regrown (c2) p.d p.os
                refine wp_region_tail (C := fun w' => ∃ p : Regrown, w' = grow (redrawn wr p.d) p.os) 14 _ rfl rfl rfl (by kernel_rfl) (by kernel_rfl) (by kernel_rfl) (by kernel_rfl) ⟨⟨wr.drawn + 1, #[]⟩, by rw [grow_empty]; rfl⟩ ?_
                dsimp only [List.set, idle]
                go_big_quiet_step (fail)
                go_big_quiet_step (fail)
                go_big_quiet_step (fail)
                go_big_quiet_step (fail)
                go_big_quiet_step (fail)
                go_big_quiet_step (fail)
                go_big_quiet_step (fail)
                go_big_quiet_step (fail)
                go_big_quiet_step (fail)
                go_big_quiet_step (fail)
                go_big_quiet_step (fail)
                go_big_quiet_step (fail)
                go_big_quiet_step (fail)
                go_big_quiet_step (fail)
                refine wpQuiet_idle rfl rfl rfl ?_
                rintro _ ⟨p, rfl⟩
                have hb := below_regrown wr p.d p.os
                generalize grow (redrawn wr p.d) p.os = w8 at *
                clear k1 k2
                replace r0 := keep hb r0
                replace r1 := keep hb r1
                replace r2 := keep hb r2
                replace r3 := keep hb r3
                replace rX := keep hb rX
                replace hw := Below.after hw hb
                clear hb

                have cw := brow_cell r3 (j := 4 * k + j) (by rw [pj_len, ks_len]; omega)
                have hf := row_frozen r3 (4 * k + j)
                rw [Nat.mul_comm 4 k] at cw hf
                clear c1 c2
                go_wp2
                refine ⟨⟨j + 1, by omega, by go_num, heap_other r0 (by omega), heap_other r1 (by omega), heap_other r2 (by omega), by rw [hset.out, Nat.mul_comm 4 k]; exact brow_set r3 (k * 4 + j) _, hw.setCell (show w.heap.size ≤ w.heap.size + 1 + 1 + 1 by omega) _, heap_other rX (by omega)⟩, by simp [intOf]; omega⟩
              · obtain rfl : j = 4 := by omega
                have hdj : decide ((4 : Int) < 4) = false := by decide
                rw [pj_four, ← hkn.out] at r3
                clear hj hj4
                go_wp2
                refine ⟨⟨k + 1, by omega, by go_num, by rw [hmn.out], r0, r1, r2, r3, hw⟩, by simp [intOf]; omega⟩

    · obtain rfl : k = 60 := by omega
      have hd : decide ((60 : Int) < 60) = false := by decide
      obtain ⟨K, hK⟩ : ∃ K, K = ks key 60 := ⟨_, rfl⟩
      rw [← hK] at r3
      have hKl : K.length = 240 := by rw [hK, ks_len]
      replace hK := hide hK
      clear hk hlt
      have hz : ∀ W : World, (Instr.alloc 64 true (.tuple #[])).run Tryd.prog W = .ok (.pointer (some ⟨W.heap.size, 0, none⟩)) (W.alloc (.cells (irow .u8 (bl (pt (gb K) 240 0))) 64)) := by rw [← zr_pt]; exact z32
      have RX := hp1_0 wr (.cells (irow .u8 (bl (pt (gb K) 240 0))) 64)
      have HB : Below wr.heap.size wr (wr.alloc (.cells (irow .u8 (bl (pt (gb K) 240 0))) 64)) := (Below.refl _ _).alloc (Nat.le_refl _) _
      have l3 := lt_of_row r3
      go_wp2_with (first | (refine wpList_alloc rfl 64 rfl (irow .u8 (bl (pt (gb K) 240 0))) hz ?_) | fail)
      replace r2 := keep HB r2
      replace r3 := keep HB r3
      replace hw := Below.after hw HB
      clear HB hz r0 r1
      generalize World.alloc _ _ = w5 at *
      generalize wr.heap.size = gX at *
      go_loopw [12] (fun i wr => ∃ k : Nat, k ≤ 60 ∧ i = .int .i64 k ∧ wr.heap[w.heap.size + 1 + 1]? = some (.cells (irow .u8 (zr 240)) 64 (0, 0)) ∧ wr.heap[w.heap.size + 1 + 1 + 1]? = some (.cells (irow .u8 (bl (K))) 101 (0, 0)) ∧ wr.heap[gX]? = some (.cells (irow .u8 (bl (pt (gb K) 240 (4 * k)))) 64 (0, 0)) ∧ Below w.heap.size w wr) (fun i _ => 60 - (intOf i).toNat)
      case atStart => exact ⟨0, by omega, rfl, r2, r3, RX, hw⟩
      case round =>
        clear r2 r3 RX hw
        obtain ⟨k, hk, rfl, r2, r3, rX, hw⟩ := hrel
        by_cases hlt : k < 60
        · have hd : decide ((k : Int) < 60) = true := by simp; omega
          go_wp2_with (fail)
          go_loopw [13] (fun i wr => ∃ j : Nat, j ≤ 4 ∧ i = .int .i64 j ∧ wr.heap[w.heap.size + 1 + 1]? = some (.cells (irow .u8 (zr 240)) 64 (0, 0)) ∧ wr.heap[w.heap.size + 1 + 1 + 1]? = some (.cells (irow .u8 (bl (K))) 101 (0, 0)) ∧ wr.heap[gX]? = some (.cells (irow .u8 (bl (pt (gb K) 240 (4 * k + j)))) 64 (0, 0)) ∧ Below w.heap.size w wr) (fun i _ => 4 - (intOf i).toNat)
          case atStart => exact ⟨0, by omega, rfl, r2, r3, rX, hw⟩
          case round =>
            clear r2 r3 rX hw
            obtain ⟨j, hj, rfl, r2, r3, rX, hw⟩ := hrel
            by_cases hj4 : j < 4
            · have hdj : decide ((j : Int) < 4) = true := by simp; omega
              have hq : (k : Int).tdiv 4 = ((k / 4 : Nat) : Int) := by rw [Int.tdiv_eq_ediv_of_nonneg (by omega)]; rfl
              have hr : (k : Int).tmod 4 = ((k % 4 : Nat) : Int) := by rw [Int.tmod_eq_emod_of_nonneg (by omega)]; rfl
              have c1 := brow_cell r3 (j := 4 * k + j) (by omega)
              rw [show K.getD (4 * k + j) 0#8 = gb K (4 * k + j) from rfl] at c1
              have hset := hide (pt_set (gb K) 240 (4 * k + j) (by omega))
              generalize gb K (4 * k + j) = x1 at *
              rw [Nat.mul_comm 4 k] at c1
              go_wp2_with (fail)
              have k1 : ∀ p : Regrown, (grow (redrawn wr p.d) p.os).cell? ⟨w.heap.size + 1 + 1 + 1, k * 4 + j, none⟩ = some (.int .u8 (bv x1)) := fun p => cell_regrown (c1) p.d p.os
              refine wp_region_tail (C := fun w' => ∃ p : Regrown, w' = grow (redrawn wr p.d) p.os) 14 _ rfl rfl rfl (by kernel_rfl) (by kernel_rfl) (by kernel_rfl) (by kernel_rfl) ⟨⟨wr.drawn + 1, #[]⟩, by rw [grow_empty]; rfl⟩ ?_
              dsimp only [List.set, idle]
              go_big_quiet_step (fail)
              go_big_quiet_step (fail)
              go_big_quiet_step (fail)
              go_big_quiet_step (fail)
              go_big_quiet_step (fail)
              go_big_quiet_step (fail)
              go_big_quiet_step (fail)
              go_big_quiet_step (fail)
              go_big_quiet_step (fail)
              go_big_quiet_step (fail)
              go_big_quiet_step (fail)
              go_big_quiet_step (fail)
              go_big_quiet_step (fail)
              go_big_quiet_step (fail)
              refine wpQuiet_idle rfl rfl rfl ?_
              rintro _ ⟨p, rfl⟩
              have hb := below_regrown wr p.d p.os
              generalize grow (redrawn wr p.d) p.os = w8 at *
              clear k1
              replace r2 := keep hb r2
              replace r3 := keep hb r3
              replace rX := keep hb rX
              replace hw := Below.after hw hb
              clear hb

              have cw := brow_cell rX (j := 4 * k + j) (by rw [pt_len]; omega)
              have hf := row_frozen rX (4 * k + j)
              have hof : k / 4 * 16 + (k % 4 * 4 + j) = 4 * k + j := by omega
              clear c1
              go_wp2
              refine ⟨⟨j + 1, by omega, by go_num, heap_other r2 (by omega), heap_other r3 (by omega), by rw [← Nat.add_assoc, ← hset.out]; exact brow_set rX (4 * k + j) x1, hw.setCell (show w.heap.size ≤ gX by omega) _⟩, by simp [intOf]; omega⟩
            · obtain rfl : j = 4 := by omega
              have hdj : decide ((4 : Int) < 4) = false := by decide
              go_wp2
              refine ⟨⟨k + 1, by omega, by go_num, r2, r3, rX, hw⟩, by simp [intOf]; omega⟩
        · obtain rfl : k = 60 := by omega
          have hd : decide ((60 : Int) < 60) = false := by decide
          rw [show pt (gb K) 240 (4 * 60) = K from pt_selfn K 240 hKl] at rX
          have hi9 := info_bl info32 K hKl
          have hfi : (irow .u8 (zr 240)).size = (irow .u8 (bl (K))).size := by rw [irow_size, irow_size, zr_len, bl_len, hKl]
          clear hk hlt
          go_wp2_with (first | (refine wpList_load_want rfl 64 _ rfl (gX) rfl 64 (irow .u8 (bl (K))) (0, 0) _ rX Tryd.underlying64 rfl hi9 ?_) | (refine wpList_store_row rfl 64 _ _ rfl (w.heap.size + 1 + 1) (irow .u8 (bl (K))) rfl rfl 64 _ r2 hi9 hfi (irow_one _ _) ?_) | fail)
          replace r2 := setRow_heap wr (w.heap.size + 1 + 1) _ (irow .u8 (bl (K))) _ _ r2
          replace hw := below_setRow hw (show w.heap.size ≤ w.heap.size + 1 + 1 by omega) (irow .u8 (bl (K)))
          generalize wr.setRow (w.heap.size + 1 + 1) (irow .u8 (bl (K))) = w9 at *
          exact bodyPost_ret (v := .agg (irow .u8 (bl (K)))) (results_cell_row Tryd.results45 _ _ (w.heap.size + 1 + 1) _ _ _ _ rfl r2 Tryd.underlying64 rfl hi9) rfl ⟨by rw [hK.out], hw⟩

end Go.Proofs.YtamieopjigjfiaaDoor


namespace Go.Proofs.YtamieopjigjfiaaDoor
set_option maxRecDepth 100000
open Go Go.RowKit Go.Sort
attribute [local go_sem] setCell_drewN alloc_drewN


theorem b32 (cs : Array Value) (W : World) : (Instr.box 64 (.agg cs)).run Tryd.prog W = .ok (.pointer (some ⟨W.heap.size, 0, none⟩)) (W.alloc (.cells cs 64)) := by kernel_rfl
theorem kr_len (K : List B) (r : Nat) : (kr K r).length = 16 := mk16_len _
theorem bl_kr (K : List B) (hK : K.length = 240) (r : Nat) (h : r < 15) : (irow .u8 (bl (K))).extract (r * 16) (r * 16 + (irow .u8 (bl (kr K r))).size) = (irow .u8 (bl (kr K r))) := by
  apply Array.ext_getElem?
  intro j
  rw [irow_size, bl_len, kr_len, Array.getElem?_extract]
  by_cases hj : j < 16
  · rw [if_pos (by rw [irow_size, bl_len, hK]; omega), irow_get _ _ _ (by rw [bl_len, hK]; omega), irow_get _ _ _ (by rw [bl_len, kr_len]; exact hj), bl_get, bl_get, kr, mk16_get _ hj, Nat.mul_comm r 16]
  · rw [if_neg (by omega), Array.getElem?_eq_none (by rw [irow_size, bl_len, kr_len]; omega)]

set_option maxRecDepth 100000 in
set_option maxHeartbeats 4000000 in
theorem r_encryptBy (K l : List B) (hK : K.length = 240) (hl : l.length = 16) : Gives 47 #[.agg (irow .u8 (bl (sbl))), .agg (irow .u8 (bl (K))), .agg (irow .u8 (bl (l)))] (.agg (irow .u8 (bl (enc K l)))) := by
  intro w
  have R0 := hp4_0 w (.cells (irow .u8 (bl (sbl))) 61) (.cells (irow .u8 (bl (K))) 64) (.cells (irow .u8 (bl (l))) 63) (.cells (irow .u8 (zr 16)) 63)
  have R1 := hp4_1 w (.cells (irow .u8 (bl (sbl))) 61) (.cells (irow .u8 (bl (K))) 64) (.cells (irow .u8 (bl (l))) 63) (.cells (irow .u8 (zr 16)) 63)
  have R2 := hp4_2 w (.cells (irow .u8 (bl (sbl))) 61) (.cells (irow .u8 (bl (K))) 64) (.cells (irow .u8 (bl (l))) 63) (.cells (irow .u8 (zr 16)) 63)
  have R3 := hp4_3 w (.cells (irow .u8 (bl (sbl))) 61) (.cells (irow .u8 (bl (K))) 64) (.cells (irow .u8 (bl (l))) 63) (.cells (irow .u8 (zr 16)) 63)
  have hw : Below w.heap.size w ((((w.alloc (.cells (irow .u8 (bl (sbl))) 61)).alloc (.cells (irow .u8 (bl (K))) 64)).alloc (.cells (irow .u8 (bl (l))) 63)).alloc (.cells (irow .u8 (zr 16)) 63)) := (((((Below.refl _ _).alloc (Nat.le_refl _) _).alloc (by simp) _).alloc (by simp; omega) _).alloc (by simp; omega) _)

  have hiT := info256 sbl sbl_len
  have hi0 := info_bl infoR l hl
  have hik0 := info_bl infoR (kr K 0) (kr_len _ _)
  have cx := r_xor l (kr K 0) hl (kr_len _ _)
  go_enter Tryd.func47, Tryd.ntmps47
  go_wp2_with (first | (refine wpList_box rfl 61 _ rfl _ rfl (b256 _) ?_) | (refine wpList_box rfl 64 _ rfl _ rfl (b32 _) ?_) | (refine wpList_box rfl 63 _ rfl _ rfl (bR _) ?_) | (refine wpList_alloc rfl 63 rfl (irow .u8 (zr 16)) zR ?_) | ((try simp only [size_alloc1]); refine wpList_load_want rfl 63 _ rfl (w.heap.size + 1 + 1) rfl 63 (irow .u8 (bl (l))) (0, 0) _ R2 Tryd.underlying63 rfl hi0 ?_) | (refine wpList_load_part rfl 63 _ rfl (w.heap.size + 1) 0 rfl 64 (irow .u8 (bl (K))) (0, 0) (irow .u8 (bl (kr K 0))) _ R1 (bl_kr K hK 0 (by omega)) Tryd.underlying63 rfl hik0 ?_) | fail)
  try simp only [size_alloc1, Act.put, List.setIfInBounds_toArray, List.set_cons_succ, List.set_cons_zero]
  generalize World.alloc _ _ = w0 at *
  refine (cx.at _).mono ?_
  rintro e_ w1 ⟨rfl, hb⟩
  replace R0 := keep hb R0
  replace R1 := keep hb R1
  replace R2 := keep hb R2
  replace R3 := keep hb R3
  replace hw := Below.after hw hb
  clear hb cx
  go_wp2_with (first | (refine wpList_store_row rfl 63 _ _ rfl (w.heap.size + 1 + 1) (irow .u8 (bl (rnd5 K l 0))) rfl rfl 63 _ R2 (info_bl infoR _ (rnd_len _ _ _)) (by rw [irow_size, irow_size, bl_len, bl_len, rnd_len, hl]) (irow_one _ _) ?_; refine wpList_stay ?_) | fail)
  unfold WpStay
  replace R0 := (setRow_other w1 (w.heap.size + 1 + 1) (w.heap.size) (irow .u8 (bl (rnd5 K l 0))) (by omega)).trans R0
  replace R1 := (setRow_other w1 (w.heap.size + 1 + 1) (w.heap.size + 1) (irow .u8 (bl (rnd5 K l 0))) (by omega)).trans R1
  replace R3 := (setRow_other w1 (w.heap.size + 1 + 1) (w.heap.size + 1 + 1 + 1) (irow .u8 (bl (rnd5 K l 0))) (by omega)).trans R3
  replace R2 := setRow_heap w1 (w.heap.size + 1 + 1) _ (irow .u8 (bl (rnd5 K l 0))) _ _ R2
  replace hw := below_setRow hw (show w.heap.size ≤ w.heap.size + 1 + 1 by omega) (irow .u8 (bl (rnd5 K l 0)))
  generalize w1.setRow (w.heap.size + 1 + 1) (irow .u8 (bl (rnd5 K l 0))) = w2 at *
  go_wp2_with (fail)
  go_loopw [7] (fun i wr => ∃ n : Nat, n ≤ 13 ∧ i = .int .i64 ((n : Int) + 1) ∧ wr.heap[w.heap.size]? = some (.cells (irow .u8 (bl (sbl))) 61 (0, 0)) ∧ wr.heap[w.heap.size + 1]? = some (.cells (irow .u8 (bl (K))) 64 (0, 0)) ∧ wr.heap[w.heap.size + 1 + 1]? = some (.cells (irow .u8 (bl (rnd5 K l n))) 63 (0, 0)) ∧ wr.heap[w.heap.size + 1 + 1 + 1]? = some (.cells (irow .u8 (zr 16)) 63 (0, 0)) ∧ Below w.heap.size w wr) (fun i _ => 14 - (intOf i).toNat)
  case atStart => exact ⟨0, by omega, rfl, R0, R1, R2, R3, hw⟩
  case round =>
    clear R0 R1 R2 R3 hw
    obtain ⟨n, hn, rfl, r0, r1, r2, r3, hw⟩ := hrel
    by_cases hlt : n < 13
    · have hd : decide ((n : Int) + 1 < 14) = true := by simp; omega
      have hiB := info_bl infoR (rnd5 K l n) (rnd_len _ _ _)
      have hik := info_bl infoR (kr K (n + 1)) (kr_len _ _)
      have hpk := bl_kr K hK (n + 1) (by omega)
      have cs1 := r_subShift (rnd5 K l n) (rnd_len _ _ _)
      have cs2 := r_mix (shiftL (subL (rnd5 K l n))) (shiftL_len _)
      have cs3 := r_xor (mixL (shiftL (subL (rnd5 K l n)))) (kr K (n + 1)) (mix_len _) (kr_len _ _)
      go_wp2_with (fail)
      have HR0 := keepr r0
      have HR1 := keepr r1
      have HR2 := keepr r2
      refine wp_region_tail (C := fun w' => ∃ p : Regrown, w' = grow (redrawn wr p.d) p.os) 8 _ rfl rfl rfl (by kernel_rfl) (by kernel_rfl) (by kernel_rfl) (by kernel_rfl) ⟨⟨wr.drawn + 1, #[]⟩, by rw [grow_empty]; rfl⟩ ?_
      dsimp only [List.set, idle]
      refine wpQuiet_load_row rfl 61 _ rfl (w.heap.size) rfl 61 (irow .u8 (bl (sbl))) (0, 0) _ HR0.out Tryd.underlying61 rfl hiT ?_
      simp only [Act.put, List.setIfInBounds_toArray, List.set_cons_succ, List.set_cons_zero]
      refine wpQuiet_load_row rfl 63 _ rfl (w.heap.size + 1 + 1) rfl 63 (irow .u8 (bl (rnd5 K l n))) (0, 0) _ HR2.out Tryd.underlying63 rfl hiB ?_
      simp only [Act.put, List.setIfInBounds_toArray, List.set_cons_succ, List.set_cons_zero]
      go_big_quiet_step (exact cs1.re)
      go_big_quiet_step (exact cs2.re)
      go_big_quiet_step (fail)
      go_big_quiet_step (fail)
      refine wpQuiet_load_part rfl 63 _ rfl (w.heap.size + 1) ((n + 1) * 16) rfl 64 (irow .u8 (bl (K))) (0, 0) (irow .u8 (bl (kr K (n + 1)))) _ HR1.out hpk Tryd.underlying63 rfl hik ?_
      simp only [Act.put, List.setIfInBounds_toArray, List.set_cons_succ, List.set_cons_zero]
      go_big_quiet_step (exact cs3.re)
      refine wpQuiet_idle rfl rfl rfl ?_
      rintro _ ⟨p, rfl⟩
      have hb := below_regrown wr p.d p.os
      generalize grow (redrawn wr p.d) p.os = w3 at *
      replace r0 := keep hb r0
      replace r1 := keep hb r1
      replace r2 := keep hb r2
      replace r3 := keep hb r3
      replace hw := Below.after hw hb
      clear hb

      refine wpList_store_row rfl 63 _ _ rfl (w.heap.size + 1 + 1) (irow .u8 (bl (rnd5 K l (n + 1)))) rfl rfl 63 _ r2 (info_bl infoR _ (rnd_len _ _ _)) (by rw [irow_size, irow_size, bl_len, bl_len, rnd_len, rnd_len]) (irow_one _ _) ?_
      simp only [Act.put]
      replace r0 := (setRow_other w3 (w.heap.size + 1 + 1) (w.heap.size) (irow .u8 (bl (rnd5 K l (n + 1)))) (by omega)).trans r0
      replace r1 := (setRow_other w3 (w.heap.size + 1 + 1) (w.heap.size + 1) (irow .u8 (bl (rnd5 K l (n + 1)))) (by omega)).trans r1
      replace r3 := (setRow_other w3 (w.heap.size + 1 + 1) (w.heap.size + 1 + 1 + 1) (irow .u8 (bl (rnd5 K l (n + 1)))) (by omega)).trans r3
      replace r2 := setRow_heap w3 (w.heap.size + 1 + 1) _ (irow .u8 (bl (rnd5 K l (n + 1)))) _ _ r2
      replace hw := below_setRow hw (show w.heap.size ≤ w.heap.size + 1 + 1 by omega) (irow .u8 (bl (rnd5 K l (n + 1))))
      generalize w3.setRow (w.heap.size + 1 + 1) (irow .u8 (bl (rnd5 K l (n + 1)))) = w4 at *

      clear HR0 HR1 HR2 cs1 cs2 cs3 hpk
      go_wp2
      refine ⟨⟨n + 1, by omega, by go_num, r0, r1, r2, r3, hw⟩, by simp [intOf]; omega⟩
    · obtain rfl : n = 13 := by omega
      have hd : decide (((13 : Nat) : Int) + 1 < 14) = false := by decide
      have hiB := info_bl infoR (rnd5 K l 13) (rnd_len _ _ _)
      have hik := info_bl infoR (kr K 14) (kr_len _ _)
      have hpk := bl_kr K hK 14 (by omega)
      have cs1 := r_subShift (rnd5 K l 13) (rnd_len _ _ _)
      have cs3 := r_xor (shiftL (subL (rnd5 K l 13))) (kr K 14) (shiftL_len _) (kr_len _ _)
      have hi9 := info_bl infoR (enc K l) (enc_len _ _)
      clear hn hlt
      go_wp2_with (fail)
      have HR0 := keepr r0
      have HR1 := keepr r1
      have HR2 := keepr r2
      refine wp_region_tail (C := fun w' => ∃ p : Regrown, w' = grow (redrawn wr p.d) p.os) 6 _ rfl rfl rfl (by kernel_rfl) (by kernel_rfl) (by kernel_rfl) (by kernel_rfl) ⟨⟨wr.drawn + 1, #[]⟩, by rw [grow_empty]; rfl⟩ ?_
      dsimp only [List.set, idle]
      refine wpQuiet_load_row rfl 61 _ rfl (w.heap.size) rfl 61 (irow .u8 (bl (sbl))) (0, 0) _ HR0.out Tryd.underlying61 rfl hiT ?_
      simp only [Act.put, List.setIfInBounds_toArray, List.set_cons_succ, List.set_cons_zero]
      refine wpQuiet_load_row rfl 63 _ rfl (w.heap.size + 1 + 1) rfl 63 (irow .u8 (bl (rnd5 K l 13))) (0, 0) _ HR2.out Tryd.underlying63 rfl hiB ?_
      simp only [Act.put, List.setIfInBounds_toArray, List.set_cons_succ, List.set_cons_zero]
      go_big_quiet_step (exact cs1.re)
      go_big_quiet_step (fail)
      refine wpQuiet_load_part rfl 63 _ rfl (w.heap.size + 1) (14 * 16) rfl 64 (irow .u8 (bl (K))) (0, 0) (irow .u8 (bl (kr K 14))) _ HR1.out hpk Tryd.underlying63 rfl hik ?_
      simp only [Act.put, List.setIfInBounds_toArray, List.set_cons_succ, List.set_cons_zero]
      go_big_quiet_step (exact cs3.re)
      refine wpQuiet_idle rfl rfl rfl ?_
      rintro _ ⟨p, rfl⟩
      have hb := below_regrown wr p.d p.os
      generalize grow (redrawn wr p.d) p.os = w3 at *
      replace r0 := keep hb r0
      replace r1 := keep hb r1
      replace r2 := keep hb r2
      replace r3 := keep hb r3
      replace hw := Below.after hw hb
      clear hb

      refine wpList_store_row rfl 63 _ _ rfl (w.heap.size + 1 + 1 + 1) (irow .u8 (bl (enc K l))) rfl rfl 63 _ r3 hi9 (by rw [irow_size, irow_size, zr_len, bl_len, enc_len]) (irow_one _ _) ?_
      simp only [Act.put]
      replace r3 := setRow_heap w3 (w.heap.size + 1 + 1 + 1) _ (irow .u8 (bl (enc K l))) _ _ r3
      replace hw := below_setRow hw (show w.heap.size ≤ w.heap.size + 1 + 1 + 1 by omega) (irow .u8 (bl (enc K l)))
      generalize w3.setRow (w.heap.size + 1 + 1 + 1) (irow .u8 (bl (enc K l))) = w4 at *

      go_wp2_with (fail)
      exact bodyPost_ret (v := .agg (irow .u8 (bl (enc K l)))) (results_cell_row Tryd.results47 _ _ (w.heap.size + 1 + 1 + 1) _ _ _ _ rfl r3 Tryd.underlying63 rfl hi9) rfl ⟨rfl, hw⟩

end Go.Proofs.YtamieopjigjfiaaDoor


namespace Go.Proofs.YtamieopjigjfiaaDoor
set_option maxRecDepth 100000
open Go Go.RowKit Go.Sort
attribute [local go_sem] setCell_drewN alloc_drewN


/-- The first k bytes of a list, in a list of its own. -/
def OwnN (W : World) (b : Nat) (v : Value) (k : Nat) (d : List B) : Prop := W.ownsRow b 5 1 v k ((bl (d.take k)).map (Value.int .u8))
theorem OwnN.full {W : World} {b : Nat} {v : Value} {d : List B} (h : OwnN W b v d.length d) : Own W b v d := by
  unfold OwnN at h
  rw [List.take_length] at h
  exact h
theorem take_bl (d : List B) (k : Nat) (h : k < d.length) : (bl (d.take k)).map (Value.int .u8) ++ [.int .u8 (bv (gb d k))] = (bl (d.take (k + 1))).map (Value.int .u8) := by
  rw [List.take_add_one, List.getElem?_eq_getElem h]
  simp only [bl, List.map_append, gb, List.getD_eq_getElem?_getD, List.getElem?_eq_getElem h]; rfl
theorem OwnN.keep {W V : World} {b k : Nat} {v : Value} {d : List B} (h : OwnN W b v k d) (hb : Below W.heap.size W V) : OwnN V b v k d := by
  obtain ⟨h1, h2 | ⟨g, cap, cur, rfl, hb2, hg, h3⟩⟩ := h
  · exact ⟨h1, .inl h2⟩
  · exact ⟨h1, .inr ⟨g, cap, cur, rfl, hb2, Go.Proofs.YtamieopjigjfiaaDoor.keep hb hg, h3⟩⟩
theorem OwnN.setRow {W : World} {b k g : Nat} {v : Value} {d : List B} (h : OwnN W b v k d) (hg : g < b) (cs : Array Value) : OwnN (W.setRow g cs) b v k d := by
  obtain ⟨h1, h2 | ⟨g', cap, cur, rfl, hb2, hg', h3⟩⟩ := h
  · exact ⟨h1, .inl h2⟩
  · exact ⟨h1, .inr ⟨g', cap, cur, rfl, hb2, (setRow_other W g g' cs (by omega)).trans hg', h3⟩⟩
/-- One cell. -/
def CellAt (W : World) (a : Addr) (v : Value) : Prop := a.block < W.heap.size ∧ W.cell? a = some v
theorem CellAt.keep {W V : World} {a : Addr} {v : Value} (h : CellAt W a v) (hb : Below W.heap.size W V) : CellAt V a v := ⟨Nat.lt_of_lt_of_le h.1 hb.size, (hb.cell h.1).trans h.2⟩
theorem hx_load1 {a : Act} {o : Oper} (t : TypeId) (x : Operand) (ho : o.op = .load t x) (ad : Addr) (hx : a.eval x = .pointer (some ad)) (W : World) (v : Value) (hg : (isAgg t).run Tryd.prog W = .ok false W) (hc : W.cell? ad = some v) : (execOp a.eval o).run Tryd.prog W = .ok (.value v) W := by
  unfold execOp
  simp [ho, hx, Instr.loadAt, Instr.sureAddr, loadVar, hg, hc]
def SizeAt (W : World) (n : Nat) : Prop := n ≤ W.heap.size
theorem SizeAt.keep {W V : World} {n : Nat} (h : SizeAt W n) (hb : Below W.heap.size W V) : SizeAt V n := Nat.le_trans h hb.size
theorem one_cell {W : World} {g : Nat} {z : Int} {t : TypeId} (h : W.heap[g]? = some (.cells #[.int .u8 z] t (0, 0))) : ∀ j u, [Value.int .u8 z][j]? = some u → W.cell? ((⟨g, 0, none⟩ : Addr).add j) = some u := by
  intro j u hu
  have hj : j = 0 := by
    have := (List.getElem?_eq_some_iff.1 hu).1
    simp at this
    exact this
  subst hj
  simp at hu
  subst hu
  rw [addr_add]
  simp only [World.cell?, h]
  rfl
theorem sby_at (K nonce : List B) (q pl i : Nat) (h : 16 * q + pl = i) (hp : pl < 16) : sby K nonce i = gb (enc K (ctr nonce q)) pl := by
  rw [sby, show i / 16 = q by omega, show i % 16 = pl by omega]

set_option maxRecDepth 100000 in
set_option maxHeartbeats 8000000 in
theorem r_crypt (key nonce : List B) (hk : key.length = 32) (hno : nonce.length = 16) (at_ : Nat) (hat : at_ < 18446744073709551616) (d : List B) (w : World) (v : Value) (hB : BysB w v d) : Calls Tryd.prog 28 #[.agg (irow .u8 (bl (key))), .agg (irow .u8 (bl (nonce))), .int .u64 (at_ : Int), v] w fun e w' => ∃ u, e = .returned u ∧ Own w' w.heap.size u (cry (ks key 60) nonce at_ d) ∧ Below w.heap.size w w' := by
  have R0 := hp2_0 w (.cells (irow .u8 (bl (key))) 23) (.cells (irow .u8 (bl (nonce))) 28)
  have R1 := hp2_1 w (.cells (irow .u8 (bl (key))) 23) (.cells (irow .u8 (bl (nonce))) 28)
  have hw : Below w.heap.size w ((w.alloc (.cells (irow .u8 (bl (key))) 23)).alloc (.cells (irow .u8 (bl (nonce))) 28)) := (((Below.refl _ _).alloc (Nat.le_refl _) _).alloc (by simp) _)

  have hB00 := hB
  replace hB := hB.keep hw
  obtain ⟨i0, hi, hz0, hz1, hz2⟩ := info85
  have hzT : ∀ W : World, (Instr.alloc 61 true (.tuple #[])).run Tryd.prog W = .ok (.pointer (some ⟨W.heap.size, 0, none⟩)) (W.alloc (.cells (irow .u8 (bl (pt (fun x => sb (BitVec.ofNat 8 x)) 256 0))) 61)) := by rw [← zr_pt]; exact z256
  have hiT := info256 sbl sbl_len
  have hfT := fit256 (pt (fun x => sb (BitVec.ofNat 8 x)) 256 0) sbl (pt_len _ _ _) sbl_len
  have hiK := info_bl infoKy key hk
  have hiN := info_bl infoN nonce hno
  have ct := r_table
  have ck := r_keysBy key hk
  have cc := r_counter nonce hno (at_ / 16) (by omega)
  obtain ⟨K, hK⟩ : ∃ K, K = ks key 60 := ⟨_, rfl⟩
  have hKl : K.length = 240 := by rw [hK, ks_len]
  rw [← hK] at ck ⊢
  clear hK
  have hdv : ((at_ / 16 : Nat) : Int) = (at_ : Int) / 16 := rfl
  rw [hdv] at cc
  clear hdv
  have ce : Hid (∀ l : List B, l.length = 16 → Gives 47 #[.agg (irow .u8 (bl (sbl))), .agg (irow .u8 (bl (K))), .agg (irow .u8 (bl (l)))] (.agg (irow .u8 (bl (enc K l))))) := hide (fun l h => r_encryptBy K l hKl h)
  obtain ⟨sbx, hsx⟩ : ∃ t, t = sbl := ⟨_, rfl⟩
  obtain ⟨zT, hzx⟩ : ∃ t, t = pt (fun x => sb (BitVec.ofNat 8 x)) 256 0 := ⟨_, rfl⟩
  rw [← hsx] at ct ck ce hiT hfT
  rw [← hzx] at hzT hfT
  clear hsx hzx
  have hiQ := info_bl info32 K hKl
  have hfQ : (irow .u8 (zr 240)).size = (irow .u8 (bl (K))).size := by rw [irow_size, irow_size, zr_len, bl_len, hKl]
  go_enter Tryd.func28, Tryd.ntmps28
  go_wp2_with (first | (refine wpList_box rfl 23 _ rfl _ rfl (bKey _) ?_) | (refine wpList_box rfl 28 _ rfl _ rfl (bNo _) ?_) | fail)
  try simp only [size_alloc1, Act.put, List.setIfInBounds_toArray, List.set_cons_succ, List.set_cons_zero]
  generalize World.alloc _ _ = w0 at *
  refine (ct.at _).mono ?_
  rintro e_ w1 ⟨rfl, hb⟩
  replace R0 := keep hb R0
  replace R1 := keep hb R1
  replace hB := hB.keep hb
  replace hw := Below.after hw hb
  clear hb

  have rT := hp1_0 w1 (.cells (irow .u8 (bl (zT))) 61)
  have HB : Below w1.heap.size w1 (w1.alloc (.cells (irow .u8 (bl (zT))) 61)) := (Below.refl _ _).alloc (Nat.le_refl _) _
  go_wp2_with (first | (refine wpList_alloc rfl 61 rfl (irow .u8 (bl (zT))) hzT ?_) | (refine wpList_store_row rfl 61 _ _ rfl (w1.heap.size) (irow .u8 (bl (sbx))) rfl rfl 61 _ rT hiT hfT (irow_one _ _) ?_; refine wpList_stay ?_) | fail)
  unfold WpStay
  have hb := below_setRow HB (Nat.le_refl _) (irow .u8 (bl (sbx)))
  replace rT := setRow_heap _ (w1.heap.size) _ (irow .u8 (bl (sbx))) _ _ rT
  clear HB
  have lR0rT := lt_of_row R0
  have lR1rT := lt_of_row R1
  have hsrT := hw.size
  replace R0 := keep hb R0
  replace R1 := keep hb R1
  replace hB := hB.keep hb
  replace hw := Below.after hw hb
  clear hb
  generalize World.setRow _ (w1.heap.size) (irow .u8 (bl (sbx))) = w2 at *
  generalize w1.heap.size = gT at *

  go_wp2_with (first | (refine wpList_load_want rfl 61 _ rfl (gT) rfl 61 (irow .u8 (bl (sbx))) (0, 0) _ rT Tryd.underlying61 rfl hiT ?_) | (refine wpList_load_want rfl 23 _ rfl (w.heap.size) rfl 23 (irow .u8 (bl (key))) (0, 0) _ R0 Tryd.underlying23 rfl hiK ?_) | fail)
  refine (ck.at _).mono ?_
  rintro e_ w3 ⟨rfl, hb⟩
  replace R0 := keep hb R0
  replace R1 := keep hb R1
  replace rT := keep hb rT
  replace hB := hB.keep hb
  replace hw := Below.after hw hb
  clear hb

  have rK := hp1_0 w3 (.cells (irow .u8 (zr 240)) 64)
  have HB : Below w3.heap.size w3 (w3.alloc (.cells (irow .u8 (zr 240)) 64)) := (Below.refl _ _).alloc (Nat.le_refl _) _
  go_wp2_with (first | (refine wpList_alloc rfl 64 rfl (irow .u8 (zr 240)) z32 ?_) | (refine wpList_store_row rfl 64 _ _ rfl (w3.heap.size) (irow .u8 (bl (K))) rfl rfl 64 _ rK hiQ hfQ (irow_one _ _) ?_; refine wpList_stay ?_) | fail)
  unfold WpStay
  have hb := below_setRow HB (Nat.le_refl _) (irow .u8 (bl (K)))
  replace rK := setRow_heap _ (w3.heap.size) _ (irow .u8 (bl (K))) _ _ rK
  clear HB
  have lR0rK := lt_of_row R0
  have lR1rK := lt_of_row R1
  have lrTrK := lt_of_row rT
  have hsrK := hw.size
  replace R0 := keep hb R0
  replace R1 := keep hb R1
  replace rT := keep hb rT
  replace hB := hB.keep hb
  replace hw := Below.after hw hb
  clear hb
  generalize World.setRow _ (w3.heap.size) (irow .u8 (bl (K))) = w4 at *
  generalize w3.heap.size = gK at *

  go_wp2_with (first | (refine wpList_load_want rfl 28 _ rfl (w.heap.size + 1) rfl 28 (irow .u8 (bl (nonce))) (0, 0) _ R1 Tryd.underlying28 rfl hiN ?_) | fail)
  refine (cc.at _).mono ?_
  rintro e_ w5 ⟨rfl, hb⟩
  replace rT := keep hb rT
  replace rK := keep hb rK
  replace hB := hB.keep hb
  replace hw := Below.after hw hb
  clear hb

  have hiC0 := info_bl infoR (ctr nonce (at_ / 16)) (ctr_len _ _)
  have rC := hp1_0 w5 (.cells (irow .u8 (zr 16)) 63)
  have HB : Below w5.heap.size w5 (w5.alloc (.cells (irow .u8 (zr 16)) 63)) := (Below.refl _ _).alloc (Nat.le_refl _) _
  go_wp2_with (first | (refine wpList_alloc rfl 63 rfl (irow .u8 (zr 16)) zR ?_) | (refine wpList_store_row rfl 63 _ _ rfl (w5.heap.size) (irow .u8 (bl (ctr nonce (at_ / 16)))) rfl rfl 63 _ rC hiC0 (by rw [irow_size, irow_size, zr_len, bl_len, ctr_len]) (irow_one _ _) ?_; refine wpList_stay ?_) | fail)
  unfold WpStay
  have hb := below_setRow HB (Nat.le_refl _) (irow .u8 (bl (ctr nonce (at_ / 16))))
  replace rC := setRow_heap _ (w5.heap.size) _ (irow .u8 (bl (ctr nonce (at_ / 16)))) _ _ rC
  clear HB
  have lrTrC := lt_of_row rT
  have lrKrC := lt_of_row rK
  have hsrC := hw.size
  replace rT := keep hb rT
  replace rK := keep hb rK
  replace hB := hB.keep hb
  replace hw := Below.after hw hb
  clear hb
  generalize World.setRow _ (w5.heap.size) (irow .u8 (bl (ctr nonce (at_ / 16)))) = w6 at *
  generalize w5.heap.size = gC at *

  have ce0 := ce.out _ (ctr_len nonce (at_ / 16))
  go_wp2_with (first | (refine wpList_load_want rfl 61 _ rfl (gT) rfl 61 (irow .u8 (bl (sbx))) (0, 0) _ rT Tryd.underlying61 rfl hiT ?_) | (refine wpList_load_want rfl 64 _ rfl (gK) rfl 64 (irow .u8 (bl (K))) (0, 0) _ rK Tryd.underlying64 rfl hiQ ?_) | (refine wpList_load_want rfl 63 _ rfl (gC) rfl 63 (irow .u8 (bl (ctr nonce (at_ / 16)))) (0, 0) _ rC Tryd.underlying63 rfl hiC0 ?_) | fail)
  refine (ce0.at _).mono ?_
  rintro e_ w7 ⟨rfl, hb⟩
  replace rT := keep hb rT
  replace rK := keep hb rK
  replace rC := keep hb rC
  replace hB := hB.keep hb
  replace hw := Below.after hw hb
  clear hb

  have hiE0 := info_bl infoR (enc K (ctr nonce (at_ / 16))) (enc_len _ _)
  have rS := hp1_0 w7 (.cells (irow .u8 (zr 16)) 63)
  have HB : Below w7.heap.size w7 (w7.alloc (.cells (irow .u8 (zr 16)) 63)) := (Below.refl _ _).alloc (Nat.le_refl _) _
  go_wp2_with (first | (refine wpList_alloc rfl 63 rfl (irow .u8 (zr 16)) zR ?_) | (refine wpList_store_row rfl 63 _ _ rfl (w7.heap.size) (irow .u8 (bl (enc K (ctr nonce (at_ / 16))))) rfl rfl 63 _ rS hiE0 (by rw [irow_size, irow_size, zr_len, bl_len, enc_len]) (irow_one _ _) ?_; refine wpList_stay ?_) | fail)
  unfold WpStay
  have hb := below_setRow HB (Nat.le_refl _) (irow .u8 (bl (enc K (ctr nonce (at_ / 16)))))
  replace rS := setRow_heap _ (w7.heap.size) _ (irow .u8 (bl (enc K (ctr nonce (at_ / 16))))) _ _ rS
  clear HB
  have lrTrS := lt_of_row rT
  have lrKrS := lt_of_row rK
  have lrCrS := lt_of_row rC
  have hsrS := hw.size
  replace rT := keep hb rT
  replace rK := keep hb rK
  replace rC := keep hb rC
  replace hB := hB.keep hb
  replace hw := Below.after hw hb
  clear hb
  generalize World.setRow _ (w7.heap.size) (irow .u8 (bl (enc K (ctr nonce (at_ / 16))))) = w8 at *
  generalize w7.heap.size = gS at *

  clear hzT ct ck cc ce0
  have hB0 := hB
  obtain ⟨⟨ao, cap, hv, _, _, _⟩, hlen, hnil⟩ := hB0
  rw [bl_len] at hv
  subst hv
  have hs8 := hw.size
  go_wp2_with (at_make; refine wpList_make_own _ rfl _ _ 29 rfl w8.heap.size 5 i0 (.int .u8 0) 1 Tryd.underlying29 hi hz0 hz1 _ _ _ d.length rfl rfl (by omega) ?b2 ?b3 (Nat.le_refl _) ?_)
  case b2 => rw [hz2]; omega
  case b3 => unfold maxLen; omega
  intro w9 hown0 hgrow0
  have hb := (Below.refl w8.heap.size w8).grown hgrow0 (Nat.le_refl _) (fun k h => by cases h)
  have lS := lt_of_row rS
  have hsz9 := hb.size
  have hBh : Hid (∀ V, Below w.heap.size w V → BysB V (.slice ao d.length cap) d) := hide (fun V h => hB00.keep h)
  replace rT := keep hb rT
  replace rK := keep hb rK
  replace rC := keep hb rC
  replace rS := keep hb rS
  replace hw := Below.after hw hb
  clear hb hgrow0 hB
  generalize w8.heap.size = gR at *
  have hOw : OwnN w9 gR (.slice (some ⟨gR, 0, none⟩) 0 d.length) 0 (cry K nonce at_ d) := hown0
  clear hown0
  go_wp2_with (fail)
  go_loopw [13, 14, 15] (fun pl_ r i wr => ∃ k pl q : Nat, k ≤ d.length ∧ i = .int .i64 k ∧ pl_ = .int .i64 (pl : Int) ∧ pl ≤ 16 ∧ Hid (16 * q + pl = at_ + k) ∧ wr.heap[gT]? = some (.cells (irow .u8 (bl (sbx))) 61 (0, 0)) ∧ wr.heap[gK]? = some (.cells (irow .u8 (bl (K))) 64 (0, 0)) ∧ wr.heap[gC]? = some (.cells (irow .u8 (bl (ctr nonce q))) 63 (0, 0)) ∧ wr.heap[gS]? = some (.cells (irow .u8 (bl (enc K (ctr nonce q)))) 63 (0, 0)) ∧ OwnN wr gR (.slice (some ⟨gR, 0, none⟩) k d.length) k (cry K nonce at_ d) ∧ gR ≤ wr.heap.size ∧ Below w.heap.size w wr ∧ r = .slice (some ⟨gR, 0, none⟩) k d.length) (fun _ _ i _ => d.length - (intOf i).toNat)
  case atStart => exact ⟨0, at_ % 16, at_ / 16, by omega, rfl, rfl, by omega, hide (by omega), rT, rK, rC, rS, hOw, hsz9, hw, rfl⟩
  case round =>
    clear rT rK rC rS hOw hw hsz9
    obtain ⟨k, pl, q, hk2, rfl, rfl, hpl, hq, rT, rK, rC, rS, hOw, hsz9, hw, rfl⟩ := hrel
    by_cases hlt : k < d.length
    · have hd : decide ((k : Int) < (d.length : Int)) = true := by simp; omega
      have hB := hBh.out wr hw
      by_cases h16 : pl = 16
      · subst h16
        have hd16 : decide (((16 : Nat) : Int) = 16) = true := by decide
        have cc := r_counter (ctr nonce q) (ctr_len _ _) 1 (by omega)
        rw [ctr_ctr] at cc
        have hq' : Hid (16 * (q + 1) + 0 = at_ + k) := hide (by have := hq.out; omega)
        have hiC := info_bl infoR (ctr nonce q) (ctr_len _ _)
        have hiC1 := info_bl infoR (ctr nonce (q + 1)) (ctr_len _ _)
        have hiE1 := info_bl infoR (enc K (ctr nonce (q + 1))) (enc_len _ _)
        have ce1 := ce.out _ (ctr_len nonce (q + 1))
        go_wp2_with (first | (refine wpList_load_want rfl 63 _ rfl (gC) rfl 63 (irow .u8 (bl (ctr nonce q))) (0, 0) _ rC Tryd.underlying63 rfl hiC ?_) | fail)
        refine (cc.at _).mono ?_
        rintro e_ w10 ⟨rfl, hb⟩
        replace rT := keep hb rT
        replace rK := keep hb rK
        replace rC := keep hb rC
        replace rS := keep hb rS
        replace hOw := hOw.keep hb
        replace hsz9 := Nat.le_trans hsz9 hb.size
        replace hw := Below.after hw hb
        clear hb

        go_wp2_with (first | (refine wpList_store_row rfl 63 _ _ rfl (gC) (irow .u8 (bl (ctr nonce (q + 1)))) rfl rfl 63 _ rC hiC1 (by rw [irow_size, irow_size, bl_len, bl_len, ctr_len, ctr_len]) (irow_one _ _) ?_; refine wpList_stay ?_) | fail)
        unfold WpStay
        replace rT := (setRow_other w10 gC gT (irow .u8 (bl (ctr nonce (q + 1)))) (by omega)).trans rT
        replace rK := (setRow_other w10 gC gK (irow .u8 (bl (ctr nonce (q + 1)))) (by omega)).trans rK
        replace rS := (setRow_other w10 gC gS (irow .u8 (bl (ctr nonce (q + 1)))) (by omega)).trans rS
        replace rC := setRow_heap w10 gC _ (irow .u8 (bl (ctr nonce (q + 1)))) _ _ rC
        replace hOw := hOw.setRow (g := gC) (by omega) (irow .u8 (bl (ctr nonce (q + 1))))
        replace hsz9 : gR ≤ (w10.setRow gC (irow .u8 (bl (ctr nonce (q + 1))))).heap.size := by rw [size_setRow]; exact hsz9
        replace hw := below_setRow hw (show w.heap.size ≤ gC by omega) (irow .u8 (bl (ctr nonce (q + 1))))
        generalize w10.setRow gC (irow .u8 (bl (ctr nonce (q + 1)))) = w11 at *

        go_wp2_with (first | (refine wpList_load_want rfl 61 _ rfl (gT) rfl 61 (irow .u8 (bl (sbx))) (0, 0) _ rT Tryd.underlying61 rfl hiT ?_) | (refine wpList_load_want rfl 64 _ rfl (gK) rfl 64 (irow .u8 (bl (K))) (0, 0) _ rK Tryd.underlying64 rfl hiQ ?_) | (refine wpList_load_want rfl 63 _ rfl (gC) rfl 63 (irow .u8 (bl (ctr nonce (q + 1)))) (0, 0) _ rC Tryd.underlying63 rfl hiC1 ?_) | fail)
        refine (ce1.at _).mono ?_
        rintro e_ w12 ⟨rfl, hb⟩
        replace rT := keep hb rT
        replace rK := keep hb rK
        replace rC := keep hb rC
        replace rS := keep hb rS
        replace hOw := hOw.keep hb
        replace hsz9 := Nat.le_trans hsz9 hb.size
        replace hw := Below.after hw hb
        clear hb

        go_wp2_with (first | (refine wpList_store_row rfl 63 _ _ rfl (gS) (irow .u8 (bl (enc K (ctr nonce (q + 1))))) rfl rfl 63 _ rS hiE1 (by rw [irow_size, irow_size, bl_len, bl_len, enc_len, enc_len]) (irow_one _ _) ?_; refine wpList_stay ?_) | fail)
        unfold WpStay
        replace rT := (setRow_other w12 gS gT (irow .u8 (bl (enc K (ctr nonce (q + 1))))) (by omega)).trans rT
        replace rK := (setRow_other w12 gS gK (irow .u8 (bl (enc K (ctr nonce (q + 1))))) (by omega)).trans rK
        replace rC := (setRow_other w12 gS gC (irow .u8 (bl (enc K (ctr nonce (q + 1))))) (by omega)).trans rC
        replace rS := setRow_heap w12 gS _ (irow .u8 (bl (enc K (ctr nonce (q + 1))))) _ _ rS
        replace hOw := hOw.setRow (g := gS) (by omega) (irow .u8 (bl (enc K (ctr nonce (q + 1)))))
        replace hsz9 : gR ≤ (w12.setRow gS (irow .u8 (bl (enc K (ctr nonce (q + 1)))))).heap.size := by rw [size_setRow]; exact hsz9
        replace hw := below_setRow hw (show w.heap.size ≤ gS by omega) (irow .u8 (bl (enc K (ctr nonce (q + 1)))))
        generalize w12.setRow gS (irow .u8 (bl (enc K (ctr nonce (q + 1))))) = w13 at *

        go_wp2_with (fail)
        clear cc ce1 hq
        replace hB := hBh.out w13 hw
        obtain ⟨⟨ao', cap', hv', _, hc, _⟩, _, _⟩ := hB
        obtain ⟨bb, off, e5, hbb, hcl⟩ := hc k (by rw [bl_len]; exact hlt)
        obtain rfl : ao' = ao := by injection hv' with h1 _ _; exact h1.symm
        subst e5
        rw [bl_get] at hcl
        have c0 : CellAt w13 ⟨bb, off + k, none⟩ (.int .u8 (bv (gb d k))) := ⟨hbb, hcl⟩
        clear hc hv' hcl
        have c1 : CellAt w13 ⟨gS, 0, none⟩ (.int .u8 (bv (gb (enc K (ctr nonce (q + 1))) (0)))) := ⟨lt_of_row rS, brow_cell rS (by rw [enc_len]; omega)⟩
        have hset := hide (take_bl (cry K nonce at_ d) k (by rw [cry_len]; exact hlt))
        rw [cry_get _ _ _ _ _ hlt, sby_at K nonce (q + 1) (0) (at_ + k) hq'.out (by omega)] at hset
        have hx := xor8 (gb d k) (gb (enc K (ctr nonce (q + 1))) (0))
        have hsq : SizeAt w13 gR := hsz9
        generalize gb d k = x0 at *
        generalize gb (enc K (ctr nonce (q + 1))) (0) = x1 at *
        generalize x0 ^^^ x1 = x2 at *
        have hbd : Below w13.heap.size w13 w13.drew := below_drN (Below.refl _ _) 1
        replace rT := keep hbd rT
        replace rK := keep hbd rK
        replace rC := keep hbd rC
        replace rS := keep hbd rS
        replace hOw := hOw.keep hbd
        replace c0 := c0.keep hbd
        replace c1 := c1.keep hbd
        replace hsq := hsq.keep hbd
        replace hw := Below.after hw hbd
        clear hbd
        refine wp_region_noPanic ?_
        refine wp_region_any (by kernel_rfl) ?_
        change wpAny _ _ _ _ _ _ _ (World.drew _)
        generalize w13.drew = wd at *
        refine wpAny_take (i := 0) (v := ?v1) rfl (by kernel_rfl) (by kernel_rfl) (by kernel_rfl) (fun _ _ _ h => h) (Or.inl ⟨by rfl, ?y1⟩) ?r1
        case y1 =>
          intro w_
          go_simp
          try with_reducible rfl
        simp only [Act.put, List.getElem_toArray, List.getElem_cons_zero, List.setIfInBounds_toArray, List.set_cons_succ, List.set_cons_zero]
        refine wpAny_take (i := 1) (v := ?v2) rfl (by kernel_rfl) (by kernel_rfl) (by kernel_rfl) (fun _ _ _ h => h) (Or.inl ⟨by rfl, ?y2⟩) ?r2
        case y2 =>
          intro w_
          go_simp
          try with_reducible rfl
        simp only [Act.put, List.getElem_toArray, List.getElem_cons_succ, List.getElem_cons_zero, List.setIfInBounds_toArray, List.set_cons_succ, List.set_cons_zero]
        refine wpAny_take (i := 2) (v := ?v3) rfl (by kernel_rfl) (by kernel_rfl) (by kernel_rfl) (fun _ _ _ h => h) (Or.inl ⟨by rfl, ?y3⟩) ?r3
        case y3 =>
          intro w_
          go_simp
          try with_reducible rfl
        simp only [Act.put, List.getElem_toArray, List.getElem_cons_succ, List.getElem_cons_zero, List.setIfInBounds_toArray, List.set_cons_succ, List.set_cons_zero]
        refine wpAny_take (i := 3) (v := ?v4) rfl (by kernel_rfl) (by kernel_rfl) (by kernel_rfl) (fun _ _ _ h => h) (Or.inl ⟨by rfl, ?y4⟩) ?r4
        case y4 =>
          intro w_
          go_simp
          try with_reducible rfl
        simp only [Act.put, List.getElem_toArray, List.getElem_cons_succ, List.getElem_cons_zero, List.setIfInBounds_toArray, List.set_cons_succ, List.set_cons_zero]
        refine wpAny_take (i := 5) (v := ?v5) rfl (by kernel_rfl) (by kernel_rfl) (by kernel_rfl) (fun _ _ _ h => h) (Or.inl ⟨by rfl, ?y5⟩) ?r5
        case y5 =>
          intro w_
          go_simp
          try with_reducible rfl
        simp only [Act.put, List.getElem_toArray, List.getElem_cons_succ, List.getElem_cons_zero, List.setIfInBounds_toArray, List.set_cons_succ, List.set_cons_zero]
        refine wpAny_take (i := 6) (v := ?v6) rfl (by kernel_rfl) (by kernel_rfl) (by kernel_rfl) (fun _ _ _ h => h) (Or.inl ⟨by rfl, ?y6⟩) ?r6
        case y6 =>
          intro w_
          go_simp
          try with_reducible rfl
        simp only [Act.put, List.getElem_toArray, List.getElem_cons_succ, List.getElem_cons_zero, List.setIfInBounds_toArray, List.set_cons_succ, List.set_cons_zero]
        refine wpAny_ready (rs := [4, 7]) (fuel := 5) (by kernel_rfl) (by simp) (AllReady.cons rfl (fun K' hK => ?_) (AllReady.cons rfl (fun K' hK => ?_) AllReady.nil))
        · rw [if_pos (by kernel_rfl)]
          simp only [List.getElem_toArray, List.getElem_cons_succ, List.getElem_cons_zero]
          refine wp_pure_op (.int .u8 (bv x0)) (hx_load1 5 _ rfl ⟨bb, off + k, none⟩ rfl _ _ (by kernel_rfl) (c0.2)) (hK _ _ ?_)
          simp only [Act.put, List.setIfInBounds_toArray, List.set_cons_succ, List.set_cons_zero]
          clear hK
          refine wpAny_ready (rs := [7]) (fuel := 4) (by kernel_rfl) (by simp) (AllReady.cons rfl (fun K' hK => ?_) AllReady.nil)
          rw [if_pos (by kernel_rfl)]
          simp only [List.getElem_toArray, List.getElem_cons_succ, List.getElem_cons_zero]
          refine wp_pure_op (.int .u8 (bv x1)) (hx_load1 5 _ rfl ⟨gS, 0, none⟩ rfl _ _ (by kernel_rfl) (c1.2)) (hK _ _ ?_)
          simp only [Act.put, List.setIfInBounds_toArray, List.set_cons_succ, List.set_cons_zero]
          clear hK
          refine wpAny_take (i := 8) (v := ?v7) rfl (by kernel_rfl) (by kernel_rfl) (by kernel_rfl) (fun _ _ _ h => h) (Or.inl ⟨by rfl, ?y7⟩) ?r7
          case y7 =>
            intro w_
            go_simp
            try with_reducible rfl
          simp only [Act.put, List.getElem_toArray, List.getElem_cons_succ, List.getElem_cons_zero, List.setIfInBounds_toArray, List.set_cons_succ, List.set_cons_zero]
          refine wpAny_ready (rs := [9]) (fuel := 2) (by kernel_rfl) (by simp) (AllReady.cons rfl (fun K' hK => ?_) AllReady.nil)
          rw [if_pos (by kernel_rfl)]
          simp only [List.getElem_toArray, List.getElem_cons_succ, List.getElem_cons_zero]
          refine wp_world_op (.slice (some ⟨wd.heap.size, 0, none⟩) 1 1) (wd.alloc (.cells #[.int .u8 (bv x2)] 5)) (by kernel_rfl) (hK _ _ ?_)
          simp only [Act.put, List.setIfInBounds_toArray, List.set_cons_succ, List.set_cons_zero]
          clear hK
          have hb_ : Below wd.heap.size wd (wd.alloc (.cells #[.int .u8 (bv x2)] 5)) := (Below.refl _ _).alloc (Nat.le_refl _) _
          have rB := hp1_0 wd (.cells #[.int .u8 (bv x2)] 5)
          replace rT := keep hb_ rT
          replace rK := keep hb_ rK
          replace rC := keep hb_ rC
          replace rS := keep hb_ rS
          replace hOw := hOw.keep hb_
          replace c0 := c0.keep hb_
          replace c1 := c1.keep hb_
          replace hsq := hsq.keep hb_
          replace hw := Below.after hw hb_
          clear hb_
          generalize wd.alloc (.cells #[.int .u8 (bv x2)] 5) = q1 at *
          generalize wd.heap.size = g2 at *
          refine wpAny_ready (rs := [10]) (fuel := 1) (by kernel_rfl) (by simp) (AllReady.cons rfl (fun K' hK => ?_) AllReady.nil)
          rw [if_pos (by kernel_rfl)]
          simp only [List.getElem_toArray, List.getElem_cons_succ, List.getElem_cons_zero]
          have hnews : ∀ j u, [Value.int .u8 (bv x2)][j]? = some u → q1.cell? ((⟨g2, 0, none⟩ : Addr).add j) = some u := one_cell rB
          refine wp_append_own_spare (w := q1) (.tmp 48) (.tmp 57) 29 rfl gR 5 i0 1 Tryd.underlying29 hi hz1 gR k d.length ((bl ((cry K nonce at_ d).take k)).map (Value.int .u8)) rfl hOw ⟨g2, 0, none⟩ 1 1 [.int .u8 (bv x2)] rfl rfl hnews (by simp [Value.oneCell']) (by omega) (fun q3 hown2 hgr => hK _ _ ?_)
          simp only [Act.put, List.setIfInBounds_toArray, List.set_cons_succ, List.set_cons_zero]
          clear hK
          have hb_ : Below gR q1 q3 := (Below.refl gR q1).grown hgr hsq (fun k h => by cases h; exact Nat.le_refl _)
          have hgw := hw.grown hgr hw.size (fun k h => by cases h; omega)
          replace rT := (hb_.block gT (by omega)).trans rT
          replace rK := (hb_.block gK (by omega)).trans rK
          replace rC := (hb_.block gC (by omega)).trans rC
          replace rS := (hb_.block gS (by omega)).trans rS
          replace hw := hgw
          have hszn := Nat.le_trans hsq hgr.size
          clear hb_ hgr hgw hOw rB hnews
          have hOw : OwnN q3 gR (.slice (some ⟨gR, 0, none⟩) (k + 1) d.length) (k + 1) (cry K nonce at_ d) := by unfold OwnN; rw [← hset.out]; exact hown2
          clear hown2
          refine wpAny_take (i := 11) (v := ?v8) rfl (by kernel_rfl) (by kernel_rfl) (by kernel_rfl) (fun _ _ _ h => h) (Or.inl ⟨by rfl, ?y8⟩) ?r8
          case y8 =>
            intro w_
            go_simp
            try with_reducible rfl
          simp only [Act.put, List.getElem_toArray, List.getElem_cons_succ, List.getElem_cons_zero, List.setIfInBounds_toArray, List.set_cons_succ, List.set_cons_zero]
          refine wpAny_done (by kernel_rfl) ?_ _
          refine NoPanic.normal ?_
          go_wp2
          refine ⟨⟨k + 1, 0 + 1, (q + 1), by omega, by go_num, by go_num, by omega, hide (by have := hq'.out; omega), rT, rK, rC, rS, hOw, hszn, hw, rfl⟩, by simp [intOf]; omega⟩
        · rw [if_pos (by kernel_rfl)]
          simp only [List.getElem_toArray, List.getElem_cons_succ, List.getElem_cons_zero]
          refine wp_pure_op (.int .u8 (bv x1)) (hx_load1 5 _ rfl ⟨gS, 0, none⟩ rfl _ _ (by kernel_rfl) (c1.2)) (hK _ _ ?_)
          simp only [Act.put, List.setIfInBounds_toArray, List.set_cons_succ, List.set_cons_zero]
          clear hK
          refine wpAny_ready (rs := [4]) (fuel := 4) (by kernel_rfl) (by simp) (AllReady.cons rfl (fun K' hK => ?_) AllReady.nil)
          rw [if_pos (by kernel_rfl)]
          simp only [List.getElem_toArray, List.getElem_cons_succ, List.getElem_cons_zero]
          refine wp_pure_op (.int .u8 (bv x0)) (hx_load1 5 _ rfl ⟨bb, off + k, none⟩ rfl _ _ (by kernel_rfl) (c0.2)) (hK _ _ ?_)
          simp only [Act.put, List.setIfInBounds_toArray, List.set_cons_succ, List.set_cons_zero]
          clear hK
          refine wpAny_take (i := 8) (v := ?v9) rfl (by kernel_rfl) (by kernel_rfl) (by kernel_rfl) (fun _ _ _ h => h) (Or.inl ⟨by rfl, ?y9⟩) ?r9
          case y9 =>
            intro w_
            go_simp
            try with_reducible rfl
          simp only [Act.put, List.getElem_toArray, List.getElem_cons_succ, List.getElem_cons_zero, List.setIfInBounds_toArray, List.set_cons_succ, List.set_cons_zero]
          refine wpAny_ready (rs := [9]) (fuel := 2) (by kernel_rfl) (by simp) (AllReady.cons rfl (fun K' hK => ?_) AllReady.nil)
          rw [if_pos (by kernel_rfl)]
          simp only [List.getElem_toArray, List.getElem_cons_succ, List.getElem_cons_zero]
          refine wp_world_op (.slice (some ⟨wd.heap.size, 0, none⟩) 1 1) (wd.alloc (.cells #[.int .u8 (bv x2)] 5)) (by kernel_rfl) (hK _ _ ?_)
          simp only [Act.put, List.setIfInBounds_toArray, List.set_cons_succ, List.set_cons_zero]
          clear hK
          have hb_ : Below wd.heap.size wd (wd.alloc (.cells #[.int .u8 (bv x2)] 5)) := (Below.refl _ _).alloc (Nat.le_refl _) _
          have rB := hp1_0 wd (.cells #[.int .u8 (bv x2)] 5)
          replace rT := keep hb_ rT
          replace rK := keep hb_ rK
          replace rC := keep hb_ rC
          replace rS := keep hb_ rS
          replace hOw := hOw.keep hb_
          replace c0 := c0.keep hb_
          replace c1 := c1.keep hb_
          replace hsq := hsq.keep hb_
          replace hw := Below.after hw hb_
          clear hb_
          generalize wd.alloc (.cells #[.int .u8 (bv x2)] 5) = q4 at *
          generalize wd.heap.size = g5 at *
          refine wpAny_ready (rs := [10]) (fuel := 1) (by kernel_rfl) (by simp) (AllReady.cons rfl (fun K' hK => ?_) AllReady.nil)
          rw [if_pos (by kernel_rfl)]
          simp only [List.getElem_toArray, List.getElem_cons_succ, List.getElem_cons_zero]
          have hnews : ∀ j u, [Value.int .u8 (bv x2)][j]? = some u → q4.cell? ((⟨g5, 0, none⟩ : Addr).add j) = some u := one_cell rB
          refine wp_append_own_spare (w := q4) (.tmp 48) (.tmp 57) 29 rfl gR 5 i0 1 Tryd.underlying29 hi hz1 gR k d.length ((bl ((cry K nonce at_ d).take k)).map (Value.int .u8)) rfl hOw ⟨g5, 0, none⟩ 1 1 [.int .u8 (bv x2)] rfl rfl hnews (by simp [Value.oneCell']) (by omega) (fun q6 hown2 hgr => hK _ _ ?_)
          simp only [Act.put, List.setIfInBounds_toArray, List.set_cons_succ, List.set_cons_zero]
          clear hK
          have hb_ : Below gR q4 q6 := (Below.refl gR q4).grown hgr hsq (fun k h => by cases h; exact Nat.le_refl _)
          have hgw := hw.grown hgr hw.size (fun k h => by cases h; omega)
          replace rT := (hb_.block gT (by omega)).trans rT
          replace rK := (hb_.block gK (by omega)).trans rK
          replace rC := (hb_.block gC (by omega)).trans rC
          replace rS := (hb_.block gS (by omega)).trans rS
          replace hw := hgw
          have hszn := Nat.le_trans hsq hgr.size
          clear hb_ hgr hgw hOw rB hnews
          have hOw : OwnN q6 gR (.slice (some ⟨gR, 0, none⟩) (k + 1) d.length) (k + 1) (cry K nonce at_ d) := by unfold OwnN; rw [← hset.out]; exact hown2
          clear hown2
          refine wpAny_take (i := 11) (v := ?v10) rfl (by kernel_rfl) (by kernel_rfl) (by kernel_rfl) (fun _ _ _ h => h) (Or.inl ⟨by rfl, ?y10⟩) ?r10
          case y10 =>
            intro w_
            go_simp
            try with_reducible rfl
          simp only [Act.put, List.getElem_toArray, List.getElem_cons_succ, List.getElem_cons_zero, List.setIfInBounds_toArray, List.set_cons_succ, List.set_cons_zero]
          refine wpAny_done (by kernel_rfl) ?_ _
          refine NoPanic.normal ?_
          go_wp2
          refine ⟨⟨k + 1, 0 + 1, (q + 1), by omega, by go_num, by go_num, by omega, hide (by have := hq'.out; omega), rT, rK, rC, rS, hOw, hszn, hw, rfl⟩, by simp [intOf]; omega⟩

      · have hd16 : decide ((pl : Int) = 16) = false := by simp; omega
        have hp16 : pl < 16 := by omega
        have hp16i : (pl : Int) < 16 := by omega
        have hd17 : decide ((pl : Int) < 16) = true := by simp; omega
        go_wp2_with (fail)
        obtain ⟨⟨ao', cap', hv', _, hc, _⟩, _, _⟩ := hB
        obtain ⟨bb, off, e5, hbb, hcl⟩ := hc k (by rw [bl_len]; exact hlt)
        obtain rfl : ao' = ao := by injection hv' with h1 _ _; exact h1.symm
        subst e5
        rw [bl_get] at hcl
        have c0 : CellAt wr ⟨bb, off + k, none⟩ (.int .u8 (bv (gb d k))) := ⟨hbb, hcl⟩
        clear hc hv' hcl
        have c1 : CellAt wr ⟨gS, pl, none⟩ (.int .u8 (bv (gb (enc K (ctr nonce q)) (pl)))) := ⟨lt_of_row rS, brow_cell rS (by rw [enc_len]; omega)⟩
        have hset := hide (take_bl (cry K nonce at_ d) k (by rw [cry_len]; exact hlt))
        rw [cry_get _ _ _ _ _ hlt, sby_at K nonce q (pl) (at_ + k) hq.out (by omega)] at hset
        have hx := xor8 (gb d k) (gb (enc K (ctr nonce q)) (pl))
        have hsq : SizeAt wr gR := hsz9
        generalize gb d k = x0 at *
        generalize gb (enc K (ctr nonce q)) (pl) = x1 at *
        generalize x0 ^^^ x1 = x2 at *
        have hbd : Below wr.heap.size wr wr.drew := below_drN (Below.refl _ _) 1
        replace rT := keep hbd rT
        replace rK := keep hbd rK
        replace rC := keep hbd rC
        replace rS := keep hbd rS
        replace hOw := hOw.keep hbd
        replace c0 := c0.keep hbd
        replace c1 := c1.keep hbd
        replace hsq := hsq.keep hbd
        replace hw := Below.after hw hbd
        clear hbd
        refine wp_region_noPanic ?_
        refine wp_region_any (by kernel_rfl) ?_
        change wpAny _ _ _ _ _ _ _ (World.drew _)
        generalize wr.drew = wd at *
        refine wpAny_take (i := 0) (v := ?v11) rfl (by kernel_rfl) (by kernel_rfl) (by kernel_rfl) (fun _ _ _ h => h) (Or.inl ⟨by rfl, ?y11⟩) ?r11
        case y11 =>
          intro w_
          go_simp
          try with_reducible rfl
        simp only [Act.put, List.getElem_toArray, List.getElem_cons_zero, List.setIfInBounds_toArray, List.set_cons_succ, List.set_cons_zero]
        refine wpAny_take (i := 1) (v := ?v12) rfl (by kernel_rfl) (by kernel_rfl) (by kernel_rfl) (fun _ _ _ h => h) (Or.inl ⟨by rfl, ?y12⟩) ?r12
        case y12 =>
          intro w_
          go_simp
          try with_reducible rfl
        simp only [Act.put, List.getElem_toArray, List.getElem_cons_succ, List.getElem_cons_zero, List.setIfInBounds_toArray, List.set_cons_succ, List.set_cons_zero]
        refine wpAny_take (i := 2) (v := ?v13) rfl (by kernel_rfl) (by kernel_rfl) (by kernel_rfl) (fun _ _ _ h => h) (Or.inl ⟨by rfl, ?y13⟩) ?r13
        case y13 =>
          intro w_
          go_simp
          try with_reducible rfl
        simp only [Act.put, List.getElem_toArray, List.getElem_cons_succ, List.getElem_cons_zero, List.setIfInBounds_toArray, List.set_cons_succ, List.set_cons_zero]
        refine wpAny_take (i := 3) (v := ?v14) rfl (by kernel_rfl) (by kernel_rfl) (by kernel_rfl) (fun _ _ _ h => h) (Or.inl ⟨by rfl, ?y14⟩) ?r14
        case y14 =>
          intro w_
          go_simp
          try with_reducible rfl
        simp only [Act.put, List.getElem_toArray, List.getElem_cons_succ, List.getElem_cons_zero, List.setIfInBounds_toArray, List.set_cons_succ, List.set_cons_zero]
        refine wpAny_take (i := 5) (v := ?v15) rfl (by kernel_rfl) (by kernel_rfl) (by kernel_rfl) (fun _ _ _ h => h) (Or.inl ⟨by rfl, ?y15⟩) ?r15
        case y15 =>
          intro w_
          go_simp
          try with_reducible rfl
        simp only [Act.put, List.getElem_toArray, List.getElem_cons_succ, List.getElem_cons_zero, List.setIfInBounds_toArray, List.set_cons_succ, List.set_cons_zero]
        refine wpAny_take (i := 6) (v := ?v16) rfl (by kernel_rfl) (by kernel_rfl) (by kernel_rfl) (fun _ _ _ h => h) (Or.inl ⟨by rfl, ?y16⟩) ?r16
        case y16 =>
          intro w_
          go_simp
          try with_reducible rfl
        simp only [Act.put, List.getElem_toArray, List.getElem_cons_succ, List.getElem_cons_zero, List.setIfInBounds_toArray, List.set_cons_succ, List.set_cons_zero]
        refine wpAny_ready (rs := [4, 7]) (fuel := 5) (by kernel_rfl) (by simp) (AllReady.cons rfl (fun K' hK => ?_) (AllReady.cons rfl (fun K' hK => ?_) AllReady.nil))
        · rw [if_pos (by kernel_rfl)]
          simp only [List.getElem_toArray, List.getElem_cons_succ, List.getElem_cons_zero]
          refine wp_pure_op (.int .u8 (bv x0)) (hx_load1 5 _ rfl ⟨bb, off + k, none⟩ rfl _ _ (by kernel_rfl) (c0.2)) (hK _ _ ?_)
          simp only [Act.put, List.setIfInBounds_toArray, List.set_cons_succ, List.set_cons_zero]
          clear hK
          refine wpAny_ready (rs := [7]) (fuel := 4) (by kernel_rfl) (by simp) (AllReady.cons rfl (fun K' hK => ?_) AllReady.nil)
          rw [if_pos (by kernel_rfl)]
          simp only [List.getElem_toArray, List.getElem_cons_succ, List.getElem_cons_zero]
          refine wp_pure_op (.int .u8 (bv x1)) (hx_load1 5 _ rfl ⟨gS, pl, none⟩ rfl _ _ (by kernel_rfl) (c1.2)) (hK _ _ ?_)
          simp only [Act.put, List.setIfInBounds_toArray, List.set_cons_succ, List.set_cons_zero]
          clear hK
          refine wpAny_take (i := 8) (v := ?v17) rfl (by kernel_rfl) (by kernel_rfl) (by kernel_rfl) (fun _ _ _ h => h) (Or.inl ⟨by rfl, ?y17⟩) ?r17
          case y17 =>
            intro w_
            go_simp
            try with_reducible rfl
          simp only [Act.put, List.getElem_toArray, List.getElem_cons_succ, List.getElem_cons_zero, List.setIfInBounds_toArray, List.set_cons_succ, List.set_cons_zero]
          refine wpAny_ready (rs := [9]) (fuel := 2) (by kernel_rfl) (by simp) (AllReady.cons rfl (fun K' hK => ?_) AllReady.nil)
          rw [if_pos (by kernel_rfl)]
          simp only [List.getElem_toArray, List.getElem_cons_succ, List.getElem_cons_zero]
          refine wp_world_op (.slice (some ⟨wd.heap.size, 0, none⟩) 1 1) (wd.alloc (.cells #[.int .u8 (bv x2)] 5)) (by kernel_rfl) (hK _ _ ?_)
          simp only [Act.put, List.setIfInBounds_toArray, List.set_cons_succ, List.set_cons_zero]
          clear hK
          have hb_ : Below wd.heap.size wd (wd.alloc (.cells #[.int .u8 (bv x2)] 5)) := (Below.refl _ _).alloc (Nat.le_refl _) _
          have rB := hp1_0 wd (.cells #[.int .u8 (bv x2)] 5)
          replace rT := keep hb_ rT
          replace rK := keep hb_ rK
          replace rC := keep hb_ rC
          replace rS := keep hb_ rS
          replace hOw := hOw.keep hb_
          replace c0 := c0.keep hb_
          replace c1 := c1.keep hb_
          replace hsq := hsq.keep hb_
          replace hw := Below.after hw hb_
          clear hb_
          generalize wd.alloc (.cells #[.int .u8 (bv x2)] 5) = q7 at *
          generalize wd.heap.size = g8 at *
          refine wpAny_ready (rs := [10]) (fuel := 1) (by kernel_rfl) (by simp) (AllReady.cons rfl (fun K' hK => ?_) AllReady.nil)
          rw [if_pos (by kernel_rfl)]
          simp only [List.getElem_toArray, List.getElem_cons_succ, List.getElem_cons_zero]
          have hnews : ∀ j u, [Value.int .u8 (bv x2)][j]? = some u → q7.cell? ((⟨g8, 0, none⟩ : Addr).add j) = some u := one_cell rB
          refine wp_append_own_spare (w := q7) (.tmp 48) (.tmp 57) 29 rfl gR 5 i0 1 Tryd.underlying29 hi hz1 gR k d.length ((bl ((cry K nonce at_ d).take k)).map (Value.int .u8)) rfl hOw ⟨g8, 0, none⟩ 1 1 [.int .u8 (bv x2)] rfl rfl hnews (by simp [Value.oneCell']) (by omega) (fun q9 hown2 hgr => hK _ _ ?_)
          simp only [Act.put, List.setIfInBounds_toArray, List.set_cons_succ, List.set_cons_zero]
          clear hK
          have hb_ : Below gR q7 q9 := (Below.refl gR q7).grown hgr hsq (fun k h => by cases h; exact Nat.le_refl _)
          have hgw := hw.grown hgr hw.size (fun k h => by cases h; omega)
          replace rT := (hb_.block gT (by omega)).trans rT
          replace rK := (hb_.block gK (by omega)).trans rK
          replace rC := (hb_.block gC (by omega)).trans rC
          replace rS := (hb_.block gS (by omega)).trans rS
          replace hw := hgw
          have hszn := Nat.le_trans hsq hgr.size
          clear hb_ hgr hgw hOw rB hnews
          have hOw : OwnN q9 gR (.slice (some ⟨gR, 0, none⟩) (k + 1) d.length) (k + 1) (cry K nonce at_ d) := by unfold OwnN; rw [← hset.out]; exact hown2
          clear hown2
          refine wpAny_take (i := 11) (v := ?v18) rfl (by kernel_rfl) (by kernel_rfl) (by kernel_rfl) (fun _ _ _ h => h) (Or.inl ⟨by rfl, ?y18⟩) ?r18
          case y18 =>
            intro w_
            go_simp
            try with_reducible rfl
          simp only [Act.put, List.getElem_toArray, List.getElem_cons_succ, List.getElem_cons_zero, List.setIfInBounds_toArray, List.set_cons_succ, List.set_cons_zero]
          refine wpAny_done (by kernel_rfl) ?_ _
          refine NoPanic.normal ?_
          go_wp2
          refine ⟨⟨k + 1, pl + 1, q, by omega, by go_num, by go_num, by omega, hide (by have := hq.out; omega), rT, rK, rC, rS, hOw, hszn, hw, rfl⟩, by simp [intOf]; omega⟩
        · rw [if_pos (by kernel_rfl)]
          simp only [List.getElem_toArray, List.getElem_cons_succ, List.getElem_cons_zero]
          refine wp_pure_op (.int .u8 (bv x1)) (hx_load1 5 _ rfl ⟨gS, pl, none⟩ rfl _ _ (by kernel_rfl) (c1.2)) (hK _ _ ?_)
          simp only [Act.put, List.setIfInBounds_toArray, List.set_cons_succ, List.set_cons_zero]
          clear hK
          refine wpAny_ready (rs := [4]) (fuel := 4) (by kernel_rfl) (by simp) (AllReady.cons rfl (fun K' hK => ?_) AllReady.nil)
          rw [if_pos (by kernel_rfl)]
          simp only [List.getElem_toArray, List.getElem_cons_succ, List.getElem_cons_zero]
          refine wp_pure_op (.int .u8 (bv x0)) (hx_load1 5 _ rfl ⟨bb, off + k, none⟩ rfl _ _ (by kernel_rfl) (c0.2)) (hK _ _ ?_)
          simp only [Act.put, List.setIfInBounds_toArray, List.set_cons_succ, List.set_cons_zero]
          clear hK
          refine wpAny_take (i := 8) (v := ?v19) rfl (by kernel_rfl) (by kernel_rfl) (by kernel_rfl) (fun _ _ _ h => h) (Or.inl ⟨by rfl, ?y19⟩) ?r19
          case y19 =>
            intro w_
            go_simp
            try with_reducible rfl
          simp only [Act.put, List.getElem_toArray, List.getElem_cons_succ, List.getElem_cons_zero, List.setIfInBounds_toArray, List.set_cons_succ, List.set_cons_zero]
          refine wpAny_ready (rs := [9]) (fuel := 2) (by kernel_rfl) (by simp) (AllReady.cons rfl (fun K' hK => ?_) AllReady.nil)
          rw [if_pos (by kernel_rfl)]
          simp only [List.getElem_toArray, List.getElem_cons_succ, List.getElem_cons_zero]
          refine wp_world_op (.slice (some ⟨wd.heap.size, 0, none⟩) 1 1) (wd.alloc (.cells #[.int .u8 (bv x2)] 5)) (by kernel_rfl) (hK _ _ ?_)
          simp only [Act.put, List.setIfInBounds_toArray, List.set_cons_succ, List.set_cons_zero]
          clear hK
          have hb_ : Below wd.heap.size wd (wd.alloc (.cells #[.int .u8 (bv x2)] 5)) := (Below.refl _ _).alloc (Nat.le_refl _) _
          have rB := hp1_0 wd (.cells #[.int .u8 (bv x2)] 5)
          replace rT := keep hb_ rT
          replace rK := keep hb_ rK
          replace rC := keep hb_ rC
          replace rS := keep hb_ rS
          replace hOw := hOw.keep hb_
          replace c0 := c0.keep hb_
          replace c1 := c1.keep hb_
          replace hsq := hsq.keep hb_
          replace hw := Below.after hw hb_
          clear hb_
          generalize wd.alloc (.cells #[.int .u8 (bv x2)] 5) = q10 at *
          generalize wd.heap.size = g11 at *
          refine wpAny_ready (rs := [10]) (fuel := 1) (by kernel_rfl) (by simp) (AllReady.cons rfl (fun K' hK => ?_) AllReady.nil)
          rw [if_pos (by kernel_rfl)]
          simp only [List.getElem_toArray, List.getElem_cons_succ, List.getElem_cons_zero]
          have hnews : ∀ j u, [Value.int .u8 (bv x2)][j]? = some u → q10.cell? ((⟨g11, 0, none⟩ : Addr).add j) = some u := one_cell rB
          refine wp_append_own_spare (w := q10) (.tmp 48) (.tmp 57) 29 rfl gR 5 i0 1 Tryd.underlying29 hi hz1 gR k d.length ((bl ((cry K nonce at_ d).take k)).map (Value.int .u8)) rfl hOw ⟨g11, 0, none⟩ 1 1 [.int .u8 (bv x2)] rfl rfl hnews (by simp [Value.oneCell']) (by omega) (fun q12 hown2 hgr => hK _ _ ?_)
          simp only [Act.put, List.setIfInBounds_toArray, List.set_cons_succ, List.set_cons_zero]
          clear hK
          have hb_ : Below gR q10 q12 := (Below.refl gR q10).grown hgr hsq (fun k h => by cases h; exact Nat.le_refl _)
          have hgw := hw.grown hgr hw.size (fun k h => by cases h; omega)
          replace rT := (hb_.block gT (by omega)).trans rT
          replace rK := (hb_.block gK (by omega)).trans rK
          replace rC := (hb_.block gC (by omega)).trans rC
          replace rS := (hb_.block gS (by omega)).trans rS
          replace hw := hgw
          have hszn := Nat.le_trans hsq hgr.size
          clear hb_ hgr hgw hOw rB hnews
          have hOw : OwnN q12 gR (.slice (some ⟨gR, 0, none⟩) (k + 1) d.length) (k + 1) (cry K nonce at_ d) := by unfold OwnN; rw [← hset.out]; exact hown2
          clear hown2
          refine wpAny_take (i := 11) (v := ?v20) rfl (by kernel_rfl) (by kernel_rfl) (by kernel_rfl) (fun _ _ _ h => h) (Or.inl ⟨by rfl, ?y20⟩) ?r20
          case y20 =>
            intro w_
            go_simp
            try with_reducible rfl
          simp only [Act.put, List.getElem_toArray, List.getElem_cons_succ, List.getElem_cons_zero, List.setIfInBounds_toArray, List.set_cons_succ, List.set_cons_zero]
          refine wpAny_done (by kernel_rfl) ?_ _
          refine NoPanic.normal ?_
          go_wp2
          refine ⟨⟨k + 1, pl + 1, q, by omega, by go_num, by go_num, by omega, hide (by have := hq.out; omega), rT, rK, rC, rS, hOw, hszn, hw, rfl⟩, by simp [intOf]; omega⟩

    · obtain rfl : k = d.length := by omega
      have hd : decide ((d.length : Int) < (d.length : Int)) = false := by simp
      go_wp2
      go_ret
      refine ⟨_, rfl, ?_, hw⟩
      have hl_ := cry_len K nonce at_ d
      have := hOw
      rw [← hl_] at this
      exact (OwnN.full (by rw [hl_] at this ⊢; exact this)).base (by omega)

end Go.Proofs.YtamieopjigjfiaaDoor


namespace Go.Proofs.YtamieopjigjfiaaDoor
set_option maxRecDepth 100000
open Go Go.RowKit Go.Sort
attribute [local go_sem] setCell_drewN alloc_drewN


/-- What is asked. -/
def askr (key nonce : List B) (at_ : Nat) (v : Value) : Array Value := (irow .u8 (bl (key))) ++ ((irow .u8 (bl (nonce))) ++ #[.int .u64 (at_ : Int), v])
theorem ask_key (key nonce : List B) (at_ : Nat) (v : Value) : (askr key nonce at_ v).extract 0 (0 + (irow .u8 (bl (key))).size) = (irow .u8 (bl (key))) := by
  rw [askr, Nat.zero_add]; simp
theorem ask_nonce (key nonce : List B) (at_ : Nat) (v : Value) (hk : key.length = 32) : (askr key nonce at_ v).extract 32 (32 + (irow .u8 (bl (nonce))).size) = (irow .u8 (bl (nonce))) := by
  apply Array.ext'
  have h1 : ((irow .u8 (bl (key))).toList).length = 32 := by rw [Array.length_toList, irow_size, bl_len, hk]
  rw [askr, Array.toList_extract, Array.toList_append, Array.toList_append, List.extract_eq_take_drop, Nat.add_sub_cancel_left, List.drop_append_of_le_length (by omega), List.drop_of_length_le (by omega), List.nil_append, List.take_append_of_le_length (by rw [Array.length_toList]; exact Nat.le_refl _), List.take_of_length_le (by rw [Array.length_toList]; exact Nat.le_refl _)]
theorem ask_at {W : World} {g : Nat} {key nonce : List B} {at_ : Nat} {v : Value} {t : TypeId} (h : W.heap[g]? = some (.cells (askr key nonce at_ v) t (0, 0))) (hk : key.length = 32) (hn : nonce.length = 16) : W.cell? ⟨g, 48, none⟩ = some (.int .u64 (at_ : Int)) := by
  rw [cell_of_row W g 48 _ t (0, 0) h, askr, Array.getElem?_append_right (by rw [irow_size, bl_len, hk]; omega), irow_size, bl_len, hk, Array.getElem?_append_right (by rw [irow_size, bl_len, hn]; omega), irow_size, bl_len, hn]; rfl
theorem ask_data {W : World} {g : Nat} {key nonce : List B} {at_ : Nat} {v : Value} {t : TypeId} (h : W.heap[g]? = some (.cells (askr key nonce at_ v) t (0, 0))) (hk : key.length = 32) (hn : nonce.length = 16) : W.cell? ⟨g, 49, none⟩ = some v := by
  rw [cell_of_row W g 49 _ t (0, 0) h, askr, Array.getElem?_append_right (by rw [irow_size, bl_len, hk]; omega), irow_size, bl_len, hk, Array.getElem?_append_right (by rw [irow_size, bl_len, hn]; omega), irow_size, bl_len, hn]; rfl
theorem Own.keep {W V : World} {b : Nat} {v : Value} {d : List B} (h : Own W b v d) (hb : Below W.heap.size W V) : Own V b v d := by
  obtain ⟨h1, h2 | ⟨g, cap, cur, rfl, hb2, hg, h3⟩⟩ := h
  · exact ⟨h1, .inl h2⟩
  · exact ⟨h1, .inr ⟨g, cap, cur, rfl, hb2, Go.Proofs.YtamieopjigjfiaaDoor.keep hb hg, h3⟩⟩
theorem Own.bys {W : World} {b : Nat} {v : Value} {d : List B} (h : Own W b v d) : Bys W v (bl d) := by
  rcases Nat.eq_zero_or_pos d.length with h0 | h0
  · obtain rfl : d = [] := List.length_eq_zero_iff.1 h0
    obtain ⟨ao, cap, rfl⟩ := slen_own5 h
    exact ⟨ao, cap, rfl, by decide, fun j hj => by simp [bl] at hj, bl_bnd _⟩
  · obtain ⟨g, cap, T, rfl, _, hg, hn, hm, _⟩ := own_row h h0
    refine ⟨some ⟨g, 0, none⟩, cap, by rw [bl_len], by rw [bl_len]; unfold maxLen at hm; omega, fun j hj => ?_, bl_bnd _⟩
    rw [bl_len] at hj
    refine ⟨g, 0, rfl, lt_of_row hg, ?_⟩
    rw [Nat.zero_add, bl_get]
    exact trow_cell hg hj
theorem Own.block {W : World} {b : Nat} {v : Value} {d : List B} (h : Own W b v d) (hv : v ≠ .slice none 0 0) : ∃ g cap cur, v = .slice (some ⟨g, 0, none⟩) d.length cap ∧ b ≤ g ∧ W.heap[g]? = some (.cells cur 5 (0, 0)) ∧ d.length ≤ cap ∧ cap ≤ maxLen ∧ cur.size = cap := by
  obtain ⟨h1, ⟨h2, _⟩ | ⟨g, cap, cur, rfl, hb2, hg, hn, hm, hs, _⟩⟩ := h
  · exact absurd h2 hv
  · exact ⟨g, cap, cur, rfl, hb2, hg, hn, hm, by rw [hs, Nat.mul_one]⟩
theorem Own.low {W : World} {b : Nat} {v : Value} {d : List B} (h : Own W b v d) : ∀ g l c, v = .slice (some ⟨g, 0, none⟩) l c → g < W.heap.size := by
  intro g l c hv
  obtain ⟨h1, ⟨rfl, _⟩ | ⟨g', cap, cur, rfl, hb2, hr, h3⟩⟩ := h
  · cases hv
  · cases hv; exact lt_of_row hr
theorem Own.grown {W V : World} {b gx : Nat} {v : Value} {d : List B} (h : Own W b v d) (hg : W.grownBy V (some gx)) (hx : ∀ g l c, v = .slice (some ⟨g, 0, none⟩) l c → g ≠ gx) : Own V b v d := by
  obtain ⟨h1, h2 | ⟨g, cap, cur, rfl, hb2, hr, h3⟩⟩ := h
  · exact ⟨h1, .inl h2⟩
  · exact ⟨h1, .inr ⟨g, cap, cur, rfl, hb2, (hg.block g (lt_of_row hr) (fun e => hx g _ _ rfl (Option.some.inj e))).trans hr, h3⟩⟩

theorem ex15 {f : FuncId} {args : Array Value} {w : World} {v : Value} {Bp : World → Prop} (h : Calls Tryd.prog f args w fun e w' => e = .returned v ∧ Bp w') : Calls Tryd.prog f args w fun e w' => ∃ v', e = .returned v' ∧ v' = v ∧ Bp w' := h.mono fun _ _ ⟨a, b⟩ => ⟨v, a, rfl, b⟩
theorem own_low {W : World} {b : Nat} {v : Value} {d : List B} (h : Own W b v d) : ∀ k, v.ownBlock = some k → b ≤ k := by
  obtain ⟨h1, ⟨rfl, _⟩ | ⟨g, cap, cur, rfl, hb, _⟩⟩ := h
  · intro k hk; cases hk
  · intro k hk
    have : g = k := by simpa [Value.ownBlock] using hk
    omega
theorem Own.bysB {W : World} {b : Nat} {v : Value} {d : List B} (h : Own W b v d) (hl : d.length ≤ 140737488351232) : BysB W v d := by
  refine ⟨h.bys, hl, fun a l c hv hn => ?_⟩
  obtain ⟨h1, ⟨rfl, _⟩ | ⟨g, cap, cur, rfl, hb, _⟩⟩ := h
  · cases hv; rfl
  · cases hv; cases hn
theorem own_high {W : World} {b : Nat} {v : Value} {d : List B} (h : Own W b v d) : ∀ k, v.ownBlock = some k → k < W.heap.size := by
  obtain ⟨h1, ⟨rfl, _⟩ | ⟨g, cap, cur, rfl, hb, hg, _⟩⟩ := h
  · intro k hk; cases hk
  · intro k hk
    have : g = k := by simpa [Value.ownBlock] using hk
    have := lt_of_row hg
    omega
theorem Own.grown2 {W V : World} {b : Nat} {v : Value} {d : List B} {ob : Option Nat} (h : Own W b v d) (hg : W.grownBy V ob) (hx : ∀ k, ob = some k → k < b) : Own V b v d := by
  obtain ⟨h1, h2 | ⟨g, cap, cur, rfl, hb2, hr, h3⟩⟩ := h
  · exact ⟨h1, .inl h2⟩
  · exact ⟨h1, .inr ⟨g, cap, cur, rfl, hb2, (hg.block g (lt_of_row hr) (fun e => by have := hx g e.symm; omega)).trans hr, h3⟩⟩
theorem bys_one (W : World) (x : B) : BysB (W.alloc (.cells #[.int .u8 (bv x)] 5)) (.slice (some ⟨W.heap.size, 0, none⟩) 1 1) [x] := by
  have hr : (W.alloc (.cells #[.int .u8 (bv x)] 5)).heap[W.heap.size]? = some (.cells #[.int .u8 (bv x)] 5 (0, 0)) := hp1_0 W _
  refine ⟨⟨some ⟨W.heap.size, 0, none⟩, 1, rfl, by simp [bl], fun j hj => ⟨W.heap.size, 0, rfl, lt_of_row hr, ?_⟩, bl_bnd _⟩, by simp, fun a l c h h2 => by cases h; cases h2⟩
  obtain rfl : j = 0 := by rw [bl_len, List.length_singleton] at hj; omega
  rw [cell_of_row _ W.heap.size _ _ 5 (0, 0) hr]
  rfl
theorem cell_one {W : World} {g : Nat} {y : B} {T : Array Value} (h : W.heap[g]? = some (.cells ((irow .u8 (bl ([y]))) ++ T) 5 (0, 0))) : W.cell? ⟨g, 0, none⟩ = some (.int .u8 (bv y)) := trow_cell (l := [y]) h Nat.zero_lt_one
theorem cry_one (K nonce : List B) (at_ : Nat) : ∃ s : B, Hid (∀ x : B, cry K nonce at_ [x] = [x ^^^ s]) := ⟨sby K nonce at_, hide (fun _ => rfl)⟩
theorem own_nil5 (W : World) : Own (W.alloc (.cells #[] 5)) W.heap.size (.slice (some ⟨W.heap.size, 0, none⟩) 0 0) [] := ⟨rfl, .inr ⟨W.heap.size, 0, #[], rfl, Nat.le_refl _, hp1_0 _ _, Nat.le_refl _, by decide, rfl, by simp [bl]⟩⟩
section
variable {P : Program} {ops : Array Oper} {Q : Exit → Act → World → Prop} {md : Region.Mode} {S : World → Prop}
/-- The one operation that may come up, where S is kept. -/
theorem wpAnyH_one {k : Nat} {o : Oper} {fuel : Nat} {listed : Array Bool} {a : Act} {w : World} (hr : Region.ready md ops listed = [k]) (hi : ops[k]? = some o) (hw : Region.wanted o (yielded ops a.tmps) = true)
    (h : ∀ K : Act → World → Prop, (∀ a' w', S w' → wpAnyH P md ops Q S fuel (listed.setIfInBounds k true) a' w' → K a' w') → o.wp P a w K Q) : wpAnyH P md ops Q S (fuel + 1) listed a w := by
  refine wpAnyH_all hr (by simp) (fun i hi' => ?_)
  obtain rfl : i = k := by simpa using hi'
  unfold wpOp
  simp only [hi, hw, if_true]
  exact .inl (h _ (fun a' w' hS hn => ⟨hS, hn⟩))
/-- Bytes laid behind a list of one's own. -/
theorem wp_append_bytes {o : Oper} {a : Act} {w : World} {K : Act → World → Prop} {Q : Exit → Act → World → Prop} (s x : Operand) (ho : o.op = .call { callee := .builtin .append, args := #[s, x], argTypes := #[29, 29] }) (base : Nat) (v : Value) (d : List B) (hs : a.eval s = v) (hO : Own w base v d) (y : Value) (e : List B) (hx : a.eval x = y) (hE : BysB w y e) (hlen : d.length + e.length ≤ 140737488351232) (hbase : base ≤ w.heap.size)
    (h : ∀ v' w', Own w' base v' (d ++ e) → w.grownBy w' v.ownBlock → K (a.put o.dst v') w') : o.wp Tryd.prog a w K Q := by
  obtain ⟨i0, hi, hz0, hz1, hz2⟩ := info85
  obtain ⟨⟨ao, cap, rfl, _, hc, _⟩, _, hnil⟩ := hE
  rw [bl_len] at hx hnil hc
  have hfin : ∀ v' w', w'.ownsRow base 5 1 v' (d.length + e.length) ((bl d).map (Value.int .u8) ++ (bl e).map (Value.int .u8)) → w.grownBy w' v.ownBlock → K (a.put o.dst v') w' := fun v' w' h1 h2 => h v' w' (by
    unfold Own
    rw [List.length_append, bl, List.map_append, List.map_append]
    exact h1) h2
  cases ao with
  | some ad =>
    refine wp_append_own w s x 29 ho base 5 i0 (.int .u8 0) 1 1 Tryd.underlying29 hi hz0 hz1 hz2 rfl (by decide) v d.length ((bl d).map (Value.int .u8)) hs hO ad e.length cap ((bl e).map (Value.int .u8)) hx (by rw [List.length_map, bl_len, Nat.mul_one]) (fun j u hu => ?_) (ints_one .u8 _) (by unfold maxLen; omega) (by omega) hbase (fun v' w' h2 h3 _ => hfin v' w' h2 h3)
    rw [List.getElem?_map] at hu
    obtain ⟨z, hz, rfl⟩ := Option.map_eq_some_iff.1 hu
    have hj : j < e.length := by have := (List.getElem?_eq_some_iff.1 hz).1; rwa [bl_len] at this
    obtain ⟨b, off, he, _, hcell⟩ := hc j hj
    obtain rfl := Option.some.inj he
    rw [addr_add, hcell, List.getD_eq_getElem?_getD, hz]
    rfl
  | none =>
    have hn0 : e.length = 0 := Nat.eq_zero_of_not_pos (fun h0 => by obtain ⟨b, off, he, _⟩ := hc 0 h0; cases he)
    obtain rfl := hnil _ _ _ rfl rfl
    have he0 : e = [] := List.length_eq_zero_iff.1 hn0
    subst he0
    have hrun := run_append_owned_none (P := Tryd.prog) w base 29 o.type 5 i0 1 Tryd.underlying29 hi _ d.length _ hO
    unfold Oper.wp
    simp [execOp, ho, resolve, invoke, builtin, hs, hx, hrun, Result.andThen]
    have h_ := hfin v w (by simpa [bl, Own] using hO) (World.grownBy.refl _ _)
    exact h_
/-- A part of a row, as it is read. -/
theorem run_load_part {o : Oper} {a : Act} {w : World} (ty : TypeId) (x : Operand) (ho : o.op = .load ty x) (g off : Nat) (hx : a.eval x = .pointer (some ⟨g, off, none⟩)) (t : TypeId) (cs : Array Value) (fr : Nat × Nat) (part : Array Value) (d : TypeDesc) (hg : w.heap[g]? = some (.cells cs t fr)) (hp : cs.extract off (off + part.size) = part)
    (hu : P.underlying ty = some d) (hd : d.isRow = true) (hi : (P.info? ty).map (·.size) = some part.size) : (execOp a.eval o).run P w = .ok (.value (.agg part)) w := by
  have hr := World.rangeAt_of_block hg off part.size
  rw [hp] at hr
  have hl := run_loadVar_mid (P := P) w g off ty part.toList d hr hu hd (by simpa using hi)
  unfold execOp
  simp only [ho, hx, Instr.loadAt, Instr.sureAddr, Sem.run_bind, Sem.run_pure, Result.andThen_ok, hl]
end

end Go.Proofs.YtamieopjigjfiaaDoor

