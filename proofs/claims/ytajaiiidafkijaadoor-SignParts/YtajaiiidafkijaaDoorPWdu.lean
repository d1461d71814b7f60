import Derived.Test.YtajaiiidafkijaaDoorProg
import Derived.WalkKit
import Derived.WalkSpells
import Derived.WalkLawsBesides
import Derived.Lib.QuietBelow
import Derived.BigQuiet
import Derived.Test.YtajaiiidafkijaaDoorPKa
import Derived.Test.YtajaiiidafkijaaDoorPHk
import Derived.OwnWalk
namespace Go.Proofs.YtajaiiidafkijaaDoor.Wi
set_option maxRecDepth 100000
open Go Go.RowKit Go.Sort
attribute [local go_sem] setCell_drewN alloc_drewN
def pk64 (W : Nat → Int) (t : Nat) : List Int := (List.range 64).map fun j => if j < t then W j else 0
theorem pk64_len (W : Nat → Int) (t : Nat) : (pk64 W t).length = 64 := by simp [pk64]
theorem pk64_set (W : Nat → Int) (t : Nat) (h : t < 64) : (pk64 W t).set t (W t) = pk64 W (t + 1) := by
 apply List.ext_getElem?
 intro j
 rw [List.getElem?_set]
 by_cases e : t = j
 ·subst e
  rw [if_pos rfl, if_pos (by rw [pk64_len]; exact h)]
  simp [pk64, h]
 ·rw [if_neg e]
  simp only [pk64, List.getElem?_map]
  by_cases hj : j < 64
  ·simp only [List.getElem?_range hj, Option.map_some]
   by_cases h1 : j < t
   ·rw [if_pos h1, if_pos (by omega)]
   ·rw [if_neg h1, if_neg (by omega)]
  ·rw [List.getElem?_eq_none (by simp; omega)]; rfl
set_option maxRecDepth 10000 in
theorem pk64_zero (W : Nat → Int) : pk64 W 0 = zr 64 := rfl
def prq (W : Nat → Int) (t : Nat) : List Int := (List.range 128).map fun j => if j < t then W j else 0
theorem prq_len (W : Nat → Int) (t : Nat) : (prq W t).length = 128 := by simp [prq]
set_option maxRecDepth 10000 in
theorem prq_zero (W : Nat → Int) : prq W 0 = zr 128 := rfl
def bte (h : List Int) (j : Nat) : Int := h.getD (j / 8) 0 / 2 ^ (56 - 8 * (j % 8)) % 256
def byts (h : List Int) : List Int := pk64 (bte h) 64
theorem byts_len (h : List Int) : (byts h).length = 64 := pk64_len _ _
theorem byts_bd (h : List Int) : ∀ z ∈ byts h, 0 ≤ z ∧ z < 256 := by
 intro z hz
 simp only [byts, pk64, List.mem_map, List.mem_range] at hz
 obtain ⟨j, hj, rfl⟩ := hz
 rw [if_pos hj]
 unfold bte
 omega
theorem infok8 (l : List Int) (hl : l.length = 64) : (Tryd.prog.info? 37).map (·.size) = some (irow .u8 l).size := by
 rw [irow_size, hl]; kernel_rfl
theorem fit64 (l m : List Int) (hl : l.length = 64) (hm : m.length = 64) : (irow .u8 l).size = (irow .u8 m).size := by
 rw [irow_size, irow_size, hl, hm]
theorem index23 (h : List Int) (hl : h.length = 8) (k : Nat) (hk : k < 8) (W : World) : (Instr.index 135 (.agg (irow .u64 h)) (.int .i64 (k : Int))).run Tryd.prog W = .ok (.int .u64 (h.getD k 0)) W := by
 obtain ⟨i0, hi⟩ : ∃ i, Tryd.prog.info? 40 = some i := ⟨_, rfl⟩
 have hs : (sizeOf 40).run Tryd.prog W = .ok 1 W := by kernel_rfl
 have hp := run_part_int (P := Tryd.prog) W Tryd.underlying40 hi h k (by omega)
 have e : h.getD k 0 = h[k]'(by omega) := by simp [List.getD_eq_getElem?_getD, List.getElem?_eq_getElem (show k < h.length by omega)]
 rw [e]
 unfold Instr.index
 have h2 : (0 : Int) ≤ (k : Int) ∧ (k : Int) < ((8 : Nat) : Int) := by omega
 simp only [asIntOf, Sem.run_bind, Sem.run_pure, Result.andThen_ok, run_underlying Tryd.underlying135 W, if_pos h2, hs, Int.toNat_natCast, Nat.mul_one]
 exact hp
set_option maxRecDepth 100000 in
set_option maxHeartbeats 4000000 in
theorem a_told (h : List Int) (hl : h.length = 8) (hz : ∀ x ∈ h, 0 ≤ x ∧ x < 18446744073709551616) : Gives 110 #[.agg (irow .u64 h)] (.agg (irow .u8 (byts h))) := by
 intro w
 have r0 := hp3_0 w (.cells (irow .u64 h) 135) (.cells (irow .u8 (zr 64)) 37) (.cells (irow .u8 (zr 64)) 37)
 have r1 := hp3_1 w (.cells (irow .u64 h) 135) (.cells (irow .u8 (zr 64)) 37) (.cells (irow .u8 (zr 64)) 37)
 have r2 := hp3_2 w (.cells (irow .u64 h) 135) (.cells (irow .u8 (zr 64)) 37) (.cells (irow .u8 (zr 64)) 37)
 have hw : Below w.heap.size w (((w.alloc (.cells (irow .u64 h) 135)).alloc (.cells (irow .u8 (zr 64)) 37)).alloc (.cells (irow .u8 (zr 64)) 37)) := ((((Below.refl _ _).alloc (Nat.le_refl _) _).alloc (by simp) _).alloc (by simp; omega) _)
 go_enter Tryd.func110, Tryd.ntmps110
 go_wp2_with (first | (refine wpList_box rfl 135 _ rfl _ rfl (bw8 _) ?_) | (refine wpList_alloc rfl 37 rfl (irow .u8 (zr 64)) zwide ?_) | (refine wpList_load_want rfl 135 _ rfl (w.heap.size) rfl 135 (irow .u64 h) (0, 0) _ r0 Tryd.underlying135 rfl (info23 _ hl) ?_) | fail)
 try simp only [size_alloc1, Act.put, List.setIfInBounds_toArray, List.set_cons_succ, List.set_cons_zero]
 generalize (((w.alloc (.cells (irow .u64 h) 135)).alloc (.cells (irow .u8 (zr 64)) 37)).alloc (.cells (irow .u8 (zr 64)) 37)) = w0 at *
 rw [← pk64_zero (bte h)] at r2
 go_loopw [8] (fun i wr => ∃ k : Nat, k ≤ 8 ∧ i = .int .i64 k ∧ wr.heap[w.heap.size]? = some (.cells (irow .u64 h) 135 (0, 0)) ∧ wr.heap[w.heap.size + 1]? = some (.cells (irow .u8 (zr 64)) 37 (0, 0)) ∧ wr.heap[w.heap.size + 1 + 1]? = some (.cells (irow .u8 (pk64 (bte h) (8 * k))) 37 (0, 0)) ∧ Below w.heap.size w wr) (fun i _ => 8 - (intOf i).toNat)
 case atStart => exact ⟨0, by omega, rfl, r0, r1, r2, hw⟩
 case round =>
  clear r0 r1 r2 hw
  obtain ⟨k, hk, rfl, r0, r1, r2, hw⟩ := hrel
  by_cases hlt : k < 8
  ·have hd : decide ((k : Int) < 8) = true := by simp; omega
   have hb : 0 ≤ h.getD k 0 ∧ h.getD k 0 < 18446744073709551616 := by
    apply hz
    rw [List.getD_eq_getElem?_getD, List.getElem?_eq_getElem (by omega)]
    exact List.getElem_mem _
   have hix := index23 h hl k hlt
   have hbt : ∀ j, j < 8 → bte h (8 * k + j) = h.getD k 0 / 2 ^ (56 - 8 * j) % 256 := fun j hj => by
    unfold bte
    rw [show (8 * k + j) / 8 = k by omega, show (8 * k + j) % 8 = j by omega]
   generalize h.getD k 0 = x at *
   go_wp2
   go_loopw [12] (fun i wr => ∃ j : Nat, j ≤ 8 ∧ i = .int .i64 j ∧ wr.heap[w.heap.size]? = some (.cells (irow .u64 h) 135 (0, 0)) ∧ wr.heap[w.heap.size + 1]? = some (.cells (irow .u8 (zr 64)) 37 (0, 0)) ∧ wr.heap[w.heap.size + 1 + 1]? = some (.cells (irow .u8 (pk64 (bte h) (8 * k + j))) 37 (0, 0)) ∧ Below w.heap.size w wr) (fun i _ => 8 - (intOf i).toNat)
   case atStart => exact ⟨0, by omega, rfl, r0, r1, r2, hw⟩
   case round =>
    clear r0 r1 r2 hw hix
    obtain ⟨j, hj, rfl, r0, r1, r2, hw⟩ := hrel
    by_cases hlj : j < 8
    ·have hdj : decide ((j : Int) < 8) = true := by simp; omega
     have hset := pk64_set (bte h) (8 * k + j) (by omega)
     have hpl := pk64_len (bte h) (8 * k + j)
     rw [hbt j hlj] at hset
     have cz := irow_cell r2 (j := 8 * k + j) (by omega)
     have hf := row_frozen r2 (8 * k + j)
     clear hbt
     replace hset := hide hset
     go_wp2
     refine ⟨⟨j + 1, by omega, by go_num, heap_other r0 (by omega), heap_other r1 (by omega), by rw [show 8 * k + (j + 1) = 8 * k + j + 1 from rfl, ← hset.out]; exact irow_set r2 _ _, hw.setCell (show w.heap.size ≤ w.heap.size + 1 + 1 by omega) _⟩, ?_⟩
     simp [intOf]; omega
    ·obtain rfl : j = 8 := by omega
     have hdj : decide ((8 : Int) < 8) = false := by decide
     clear hbt
     go_wp2
     refine ⟨⟨k + 1, by omega, by go_num, r0, r1, r2, hw⟩, ?_⟩
     simp [intOf]; omega
  ·obtain rfl : k = 8 := by omega
   have hd : decide ((8 : Int) < 8) = false := by decide
   have hq := byts_len h
   go_wp2_with (first | (refine wpList_load_want rfl 37 _ rfl (w.heap.size + 1 + 1) rfl 37 (irow .u8 (byts h)) (0, 0) _ r2 Tryd.underlying37 rfl (infok8 _ hq) ?_) | (refine wpList_store_row rfl 37 _ _ rfl (w.heap.size + 1) (irow .u8 (byts h)) rfl rfl 37 _ r1 (infok8 _ hq) (fit64 _ _ (zr_len 64) hq) (irow_one _ _) ?_) | fail)
   replace r1 := setRow_heap wr (w.heap.size + 1) _ (irow .u8 (byts h)) _ _ r1
   replace hw := below_setRow hw (show w.heap.size ≤ w.heap.size + 1 by omega) (irow .u8 (byts h))
   generalize wr.setRow (w.heap.size + 1) (irow .u8 (byts h)) = w9 at *
   exact bodyPost_ret (v := .agg (irow .u8 (byts h))) (results_cell_row Tryd.results110 _ _ (w.heap.size + 1) _ _ _ _ rfl r1 Tryd.underlying37 rfl (infok8 _ hq)) rfl ⟨rfl, hw⟩
end Go.Proofs.YtajaiiidafkijaaDoor.Wi
namespace Go.Proofs.YtajaiiidafkijaaDoor.Wi
open Go Go.RowKit Go.Sort
attribute [local go_sem] setCell_drewN alloc_drewN
def plen (n : Nat) : Nat := 17 + (239 - n % 128) % 128
def pbit (n i : Nat) : Int := ((8 * n / 2 ^ (8 * i) % 256 : Nat) : Int)
def padP (n k : Nat) : List Int := (List.range (plen n)).map fun j => if j = 0 then 128 else if plen n - k ≤ j ∨ (plen n - 8 - k ≤ j ∧ j < plen n - 8) then pbit n (plen n - 1 - j) else 0
def padL (n : Nat) : List Int := padP n 8
theorem plen_bd (n : Nat) : 17 ≤ plen n ∧ plen n ≤ 144 := by unfold plen; omega
theorem padP_len (n k : Nat) : (padP n k).length = plen n := by simp [padP]
theorem pbit_bd (n i : Nat) : 0 ≤ pbit n i ∧ pbit n i < 256 := by unfold pbit; omega
theorem padP_zero (n : Nat) : padP n 0 = (zr (plen n)).set 0 128 := by
 have hb := plen_bd n
 apply List.ext_getElem?
 intro j
 simp only [padP, zr, List.getElem?_set, List.getElem?_map, List.length_replicate, List.getElem?_replicate]
 by_cases hj : j < plen n
 ·rw [List.getElem?_range hj]
  by_cases h0 : j = 0
  ·subst h0; simp; omega
  ·rw [if_neg (Ne.symm h0)]; simp [h0, hj]; omega
 ·rw [List.getElem?_eq_none (by simp; omega)]
  simp [hj]; omega
theorem padP_set (n k : Nat) (hk : k < 8) : ((padP n k).set (plen n - 9 - k) (pbit n (8 + k))).set (plen n - 1 - k) (pbit n k) = padP n (k + 1) := by
 have hb := plen_bd n
 apply List.ext_getElem?
 intro j
 rw [List.getElem?_set, List.getElem?_set, List.length_set]
 by_cases e : plen n - 1 - k = j
 ·rw [if_pos e, if_pos (by rw [padP_len]; omega)]
  subst e
  simp only [padP, List.getElem?_map, List.getElem?_range (show plen n - 1 - k < plen n by omega), Option.map_some]
  rw [if_neg (by omega), if_pos (by omega), show plen n - 1 - (plen n - 1 - k) = k by omega]
 ·rw [if_neg e]
  by_cases e2 : plen n - 9 - k = j
  ·rw [if_pos e2, if_pos (by rw [padP_len]; omega)]
   subst e2
   simp only [padP, List.getElem?_map, List.getElem?_range (show plen n - 9 - k < plen n by omega), Option.map_some]
   rw [if_neg (by omega), if_pos (by omega), show plen n - 1 - (plen n - 9 - k) = 8 + k by omega]
  ·rw [if_neg e2]
   simp only [padP, List.getElem?_map]
   by_cases hj : j < plen n
   ·simp only [List.getElem?_range hj, Option.map_some]
    by_cases h0 : j = 0
    ·rw [if_pos h0, if_pos h0]
    ·rw [if_neg h0, if_neg h0]
     by_cases h1 : plen n - k ≤ j ∨ (plen n - 8 - k ≤ j ∧ j < plen n - 8)
     ·rw [if_pos h1, if_pos (by omega)]
     ·rw [if_neg h1, if_neg (by omega)]
   ·rw [List.getElem?_eq_none (by simp; omega)]; rfl
theorem padL_bd (n : Nat) : ∀ z ∈ padL n, 0 ≤ z ∧ z < 256 := by
 intro z hz
 simp only [padL, padP, List.mem_map] at hz
 obtain ⟨j, _, rfl⟩ := hz
 split
 ·omega
 ·split
  ·exact pbit_bd _ _
  ·omega
theorem hi_bit (n k : Nat) : (n : Int) / 2305843009213693952 / 2 ^ (8 * k) % 256 = pbit n (8 + k) := by
 unfold pbit
 rw [show 8 * (8 + k) = 64 + 8 * k by omega, Nat.pow_add, ← Nat.div_div_eq_div_mul, show 8 * n / 2 ^ 64 = n / 2305843009213693952 by omega]
 rw [Int.natCast_emod, Int.natCast_ediv, Int.natCast_ediv, Int.natCast_pow]
 rfl
theorem lo_bit (n k : Nat) (hk : k < 8) : 8 * (n : Int) % 18446744073709551616 / 2 ^ (8 * k) % 256 = pbit n k := by
 unfold pbit
 have e : 8 * n % 18446744073709551616 / 2 ^ (8 * k) % 256 = 8 * n / 2 ^ (8 * k) % 256 := by
  rw [show 18446744073709551616 = 2 ^ (8 * k) * (256 * 2 ^ (8 * (7 - k))) by rw [show 256 = 2 ^ 8 from rfl, ← Nat.pow_add, ← Nat.pow_add, show 8 * k + (8 + 8 * (7 - k)) = 64 by omega], Nat.mod_mul_right_div_self, Nat.mod_mul_right_mod]
 rw [← e, Int.natCast_emod, Int.natCast_ediv, Int.natCast_emod, Int.natCast_mul, Int.natCast_pow]
 rfl
theorem made_irow (n : Nat) : madeCells #[.int .u8 0] n = irow .u8 (zr n) := by
 apply Array.ext'
 simp only [madeCells, irow, zr, Array.toList_map, Array.toList_range, List.map_replicate]
 apply List.ext_getElem
 ·simp
 ·intro i h1 h2
  simp [Nat.mod_one]
theorem make_u64 (n : Nat) (h : n ≤ 281474976710656) (W : World) : (Instr.makeSlice 22 (.int .u64 (n : Int)) (.int .u64 (n : Int))).run Tryd.prog W = .ok (.slice (some ⟨W.heap.size, 0, none⟩) n n) (W.alloc (.cells (irow .u8 (zr n)) 5)) := by
 rw [← made_irow]
 exact run_make_row' 22 5 (.int .u8 0) 1 Tryd.underlying22 (by kernel_rfl) rfl .u64 .u64 n (by omega) (by omega) W
set_option maxHeartbeats 2000000 in
theorem a_pad (n : Nat) (hn : n < 18446744073709551616) (w : World) : Calls Tryd.prog 109 #[.int .u64 (n : Int)] w fun e w' => ∃ v g, e = .returned v ∧ v = .slice (some ⟨g, 0, none⟩) (plen n) (plen n) ∧ w.heap.size ≤ g ∧ w'.heap[g]? = some (.cells (irow .u8 (padL n)) 5 (0, 0)) ∧ Below w.heap.size w w' := by
 have hpb := plen_bd n
 have hpl : 1 + (239 - (n : Int)) % 128 + 16 = (plen n : Int) := by unfold plen; omega
 have hmk := make_u64 (plen n) (by omega) w
 have R0 := hp1_0 w (.cells (irow .u8 (zr (plen n))) 5)
 have HW : Below w.heap.size w (w.alloc (.cells (irow .u8 (zr (plen n))) 5)) := (Below.refl _ _).alloc (Nat.le_refl _) _
 have hc0 := irow_cell R0 (j := 0) (by rw [zr_len]; omega)
 have hf0 := row_frozen R0 0
 have hps := padP_set n
 have hpp := padP_len n
 have hset0 : (irow .u8 (zr (plen n))).setIfInBounds 0 (.int .u8 128) = irow .u8 (padP n 0) := by
  rw [padP_zero n]
  simp [irow, List.map_set]
 replace hset0 := hide hset0
 clear R0 HW
 have hhi := hi_bit n
 have hlo := lo_bit n
 generalize plen n = L at *
 go_enter Tryd.func109, Tryd.ntmps109
 go_wp2
 go_loopw [22] (fun i wr => ∃ k : Nat, k ≤ 8 ∧ i = .int .i64 k ∧ wr.heap[w.heap.size]? = some (.cells (irow .u8 (padP n k)) 5 (0, 0)) ∧ Below w.heap.size w wr) (fun i _ => 8 - (intOf i).toNat)
 case atStart => exact ⟨0, by omega, rfl, by rw [hset0.out]; exact hp1_0 w _, (Below.refl _ _).alloc (Nat.le_refl _) _⟩
 case round =>
  clear hset0 hmk hc0 hf0
  obtain ⟨k, hk, rfl, r0, hw⟩ := hrel
  by_cases hlt : k < 8
  ·have hd : decide ((k : Int) < 8) = true := by simp; omega
   have hc := irow_cell r0 (j := L - 9 - k) (by rw [hpp]; omega)
   have hf := row_frozen r0 (L - 9 - k)
   have hs := hps k hlt
   have hb1 := hhi k
   have hb2 := hlo k hlt
   have hq1 := pbit_bd n k
   have hq2 := pbit_bd n (8 + k)
   have r1 := irow_set r0 (L - 9 - k) (pbit n (8 + k))
   have hc2 := irow_cell r1 (j := L - 1 - k) (by rw [List.length_set, hpp]; omega)
   have hf2 := row_frozen r1 (L - 1 - k)
   clear hps hhi hlo
   go_wp2
   refine ⟨⟨k + 1, by omega, by go_num, ?_, (hw.setCell (show w.heap.size ≤ w.heap.size from Nat.le_refl _) _).setCell (show w.heap.size ≤ w.heap.size from Nat.le_refl _) _⟩, ?_⟩
   ·rw [IntKind.wrap_u64, Int.mul_comm, hb2, ← hs]
    exact irow_set r1 _ _
   ·simp [intOf]; omega
  ·obtain rfl : k = 8 := by omega
   have hd : decide ((8 : Int) < 8) = false := by decide
   go_wp2
   go_ret
   exact ⟨_, _, rfl, rfl, Nat.le_refl _, r0, hw⟩
end Go.Proofs.YtajaiiidafkijaaDoor.Wi
namespace Go.Proofs.YtajaiiidafkijaaDoor.Wi
set_option maxRecDepth 100000
open Go Go.RowKit Go.Sort
/-! Blocks in a row; a hash under way. -/
def wat (bs : List Int) (q i : Nat) : Int := bs.getD (128 * q + i) 0
def chunk (bs : List Int) (k : Nat) : List Int := prq (wat bs k) 128
def fol (h bs : List Int) : Nat → List Int
 | 0 => h
 | k + 1 => blk (fol h bs k) (chunk bs k)
theorem fol_len {h : List Int} (hl : h.length = 8) (bs : List Int) : ∀ k, (fol h bs k).length = 8
 | 0 => hl
 | _ + 1 => blk_len _ _
theorem fol_bd {h : List Int} (hz : ∀ x ∈ h, 0 ≤ x ∧ x < 18446744073709551616) (bs : List Int) : ∀ k, ∀ x ∈ fol h bs k, 0 ≤ x ∧ x < 18446744073709551616
 | 0 => hz
 | _ + 1 => sums_bd _ _
theorem prq_congr {W V : Nat → Int} {t : Nat} (h : ∀ j, j < t → j < 128 → W j = V j) : prq W t = prq V t := by
 unfold prq
 apply List.map_congr_left
 intro j hj
 rw [List.mem_range] at hj
 by_cases e : j < t
 ·rw [if_pos e, if_pos e, h j e hj]
 ·rw [if_neg e, if_neg e]
theorem prq_bd {W : Nat → Int} (h : ∀ j, 0 ≤ W j ∧ W j < 256) (t : Nat) : ∀ z ∈ prq W t, 0 ≤ z ∧ z < 256 := by
 intro z hz
 simp only [prq, List.mem_map] at hz
 obtain ⟨j, _, rfl⟩ := hz
 split
 ·exact h j
 ·omega
theorem wat_bd {bs : List Int} (hz : ∀ z ∈ bs, 0 ≤ z ∧ z < 256) (q : Nat) : ∀ j, 0 ≤ wat bs q j ∧ wat bs q j < 256 := fun _ => getD_bd hz _
theorem getD_append_lt (a b : List Int) (j : Nat) (h : j < a.length) : (a ++ b).getD j 0 = a.getD j 0 := by
 rw [List.getD_eq_getElem?_getD, List.getD_eq_getElem?_getD, List.getElem?_append_left h]
theorem getD_append_ge (a b : List Int) (j : Nat) (h : a.length ≤ j) : (a ++ b).getD j 0 = b.getD (j - a.length) 0 := by
 rw [List.getD_eq_getElem?_getD, List.getD_eq_getElem?_getD, List.getElem?_append_right h]
theorem fol_append (h a b : List Int) : ∀ k, 128 * k ≤ a.length → fol h (a ++ b) k = fol h a k
 | 0, _ => rfl
 | k + 1, hk => by
  unfold fol
  rw [fol_append h a b k (by omega)]
  congr 1
  unfold chunk
  apply prq_congr
  intro j _ hj
  exact getD_append_lt a b _ (by omega)
theorem part_over (a c : List Int) (q r : Nat) (hr : a.length = 128 * q + r) (hc : r + c.length ≤ 128) : (prq (wat a q) r).take r ++ c ++ (prq (wat a q) r).drop (r + c.length) = prq (wat (a ++ c) q) (r + c.length) := by
 have hl := prq_len (wat a q) r
 apply List.ext_getElem?
 intro j
 by_cases h1 : j < r
 ·rw [List.append_assoc, List.getElem?_append_left (by simp; omega), List.getElem?_take_of_lt h1]
  simp only [prq, List.getElem?_map, List.getElem?_range (show j < 128 by omega), Option.map_some, if_pos h1, if_pos (show j < r + c.length by omega)]
  rw [wat, wat, getD_append_lt a c _ (by omega)]
 ·by_cases h2 : j < r + c.length
  ·rw [List.getElem?_append_left (by simp; omega), List.getElem?_append_right (by simp; omega)]
   have e : ((prq (wat a q) r).take r).length = r := by simp; omega
   rw [e]
   simp only [prq, List.getElem?_map, List.getElem?_range (show j < 128 by omega), Option.map_some, if_pos h2]
   rw [wat, getD_append_ge a c _ (by omega), List.getElem?_eq_getElem (by omega), List.getD_eq_getElem?_getD, show 128 * q + j - a.length = j - r by omega, List.getElem?_eq_getElem (by omega)]
   rfl
  ·rw [List.getElem?_append_right (by simp; omega), List.getElem?_drop]
   have e : r + c.length + (j - ((prq (wat a q) r).take r ++ c).length) = j := by simp; omega
   rw [e]
   by_cases hj : j < 128
   ·simp only [prq, List.getElem?_map, List.getElem?_range hj, Option.map_some, if_neg h1, if_neg h2]
   ·rw [List.getElem?_eq_none (by omega), List.getElem?_eq_none (by rw [prq_len]; omega)]
def hcells (ws ps : List Int) (sz : Int) : Array Value := (ws.map (Value.int .u64) ++ (ps.map (Value.int .u8) ++ [Value.int .u64 sz])).toArray
def hwords (bs : List Int) : List Int := fol sl bs (bs.length / 128)
def hpart (bs : List Int) : List Int := prq (wat bs (bs.length / 128)) (bs.length % 128)
def hst (bs : List Int) : Array Value := hcells (hwords bs) (hpart bs) (bs.length : Int)
theorem hwords_len (bs : List Int) : (hwords bs).length = 8 := fol_len rfl _ _
theorem hpart_len (bs : List Int) : (hpart bs).length = 128 := prq_len _ _
theorem sl_bd : ∀ x ∈ sl, 0 ≤ x ∧ x < 18446744073709551616 := by decide
theorem hst_less (a c : List Int) (h : a.length % 128 + c.length < 128) : hst (a ++ c) = hcells (hwords a) (prq (wat (a ++ c) (a.length / 128)) (a.length % 128 + c.length)) ((a.length : Int) + c.length) := by
 have e1 : (a ++ c).length / 128 = a.length / 128 := by rw [List.length_append]; omega
 have e2 : (a ++ c).length % 128 = a.length % 128 + c.length := by rw [List.length_append]; omega
 unfold hst hwords hpart
 rw [e1, e2, fol_append _ _ _ _ (by omega), List.length_append]
 rfl
theorem hst_full (a c : List Int) (h : a.length % 128 + c.length = 128) : hst (a ++ c) = hcells (blk (hwords a) (prq (wat (a ++ c) (a.length / 128)) 128)) (zr 128) ((a.length : Int) + c.length) := by
 have e1 : (a ++ c).length / 128 = a.length / 128 + 1 := by rw [List.length_append]; omega
 have e2 : (a ++ c).length % 128 = 0 := by rw [List.length_append]; omega
 unfold hst hwords hpart
 rw [e1, e2, fol, fol_append _ _ _ _ (by omega), List.length_append, prq_zero]
 rfl
theorem hcells_size (ws ps : List Int) (sz : Int) (h1 : ws.length = 8) (h2 : ps.length = 128) : (hcells ws ps sz).size = 137 := by simp [hcells, h1, h2]
theorem hcells_words (ws ps : List Int) (sz : Int) (h1 : ws.length = 8) : (hcells ws ps sz).extract 0 (0 + 8) = irow .u64 ws := by
 apply Array.ext'
 simp [hcells, irow, h1]
theorem hcells_part (ws ps : List Int) (sz : Int) (h1 : ws.length = 8) (h2 : ps.length = 128) : (hcells ws ps sz).extract 8 (8 + 128) = irow .u8 ps := by
 apply Array.ext'
 simp [hcells, irow, h1, h2]
theorem hcells_at (ws ps : List Int) (sz : Int) (h1 : ws.length = 8) (h2 : ps.length = 128) : (hcells ws ps sz)[136]? = some (.int .u64 sz) := by
 simp [hcells, h1, h2]
theorem hcells_setsz (ws ps : List Int) (sz z : Int) (h1 : ws.length = 8) (h2 : ps.length = 128) : (hcells ws ps sz).setIfInBounds 136 (.int .u64 z) = hcells ws ps z := by
 apply Array.ext'
 simp [hcells, h1, h2]
theorem hcells_copy (ws ps c : List Int) (sz : Int) (o : Nat) (h1 : ws.length = 8) (h2 : ps.length = 128) (hc : o + c.length ≤ 128) : ((hcells ws ps sz).toList.take (8 + o) ++ c.map (Value.int .u8) ++ (hcells ws ps sz).toList.drop (8 + o + (c.map (Value.int .u8)).length)).toArray = hcells ws (ps.take o ++ c ++ ps.drop (o + c.length)) sz := by
 apply Array.ext'
 have e1 : 8 + o - ws.length = o := by omega
 have e2 : 8 + o + c.length - ws.length = o + c.length := by omega
 simp only [hcells, List.length_map, List.take_append, List.drop_append, h1, h2, List.map_append, List.map_take, List.map_drop]
 rw [List.take_of_length_le (show (ws.map (Value.int .u64)).length ≤ 8 + o by simp; omega), List.drop_eq_nil_of_le (show (ws.map (Value.int .u64)).length ≤ 8 + o + c.length by simp; omega), show 8 + o - 8 = o by omega, show 8 + o + c.length - 8 = o + c.length by omega, show o - 128 = 0 by omega, show o + c.length - 128 = 0 by omega]
 simp [List.append_assoc]
theorem ovw_list : ∀ (vs : List Value) (cs : Array Value) (o : Nat), o + vs.length ≤ cs.size → (ovw cs o vs).toList = cs.toList.take o ++ vs ++ cs.toList.drop (o + vs.length)
 | [], cs, o, _ => by simp [ovw]
 | v :: r, cs, o, h => by
  have h' : o < cs.toList.length := by simp at h ⊢; omega
  rw [ovw, ovw_list r _ _ (by simp at h ⊢; omega), Array.toList_setIfInBounds, List.set_eq_take_append_cons_drop, if_pos h']
  have e : (cs.toList.take o).length = o := by rw [List.length_take]; omega
  rw [List.take_append, List.drop_append, e, List.take_take, show min (o + 1) o = o by omega, show o + 1 - o = 1 by omega, List.drop_eq_nil_of_le (show (cs.toList.take o).length ≤ o + 1 + r.length by omega), show o + 1 + r.length - o = r.length + 1 by omega, List.drop_succ_cons, List.drop_drop, List.length_cons, show o + 1 + r.length = o + (r.length + 1) by omega]
  simp
theorem hcells_setwords (ws vs ps : List Int) (sz : Int) (h1 : ws.length = 8) (h2 : ps.length = 128) (h3 : vs.length = 8) : ovw (hcells ws ps sz) 0 (irow .u64 vs).toList = hcells vs ps sz := by
 apply Array.ext'
 rw [ovw_list _ _ _ (by rw [hcells_size _ _ _ h1 h2]; simp [irow, h3])]
 simp [hcells, irow, h1, h3]
theorem hcells_setpart (ws ps qs : List Int) (sz : Int) (h1 : ws.length = 8) (h2 : ps.length = 128) (h3 : qs.length = 128) : ovw (hcells ws ps sz) 8 (irow .u8 qs).toList = hcells ws qs sz := by
 apply Array.ext'
 rw [ovw_list _ _ _ (by rw [hcells_size _ _ _ h1 h2]; simp [irow, h3])]
 simp only [hcells, irow, h1, h3, List.length_map, List.take_append, List.take_of_length_le (show (ws.map (Value.int .u64)).length ≤ 8 by simp; omega)]
 rw [show 8 - 8 = 0 from rfl, List.take_zero, ← List.append_assoc (ws.map (Value.int .u64)) (ps.map (Value.int .u8)), List.drop_left' (by simp; omega)]
 simp
theorem hcells_one (ws ps : List Int) (sz : Int) : (hcells ws ps sz).all (·.oneCell') = true := by
 simp only [hcells, List.all_toArray, List.all_append, List.all_map, Bool.and_eq_true, List.all_eq_true, List.all_cons, List.all_nil]
 exact ⟨fun _ _ => rfl, fun _ _ => rfl, rfl, trivial⟩
end Go.Proofs.YtajaiiidafkijaaDoor.Wi
namespace Go.Proofs.YtajaiiidafkijaaDoor.Wi
open Go Go.RowKit Go.Sort
attribute [local go_sem] setCell_drewN alloc_drewN
end Go.Proofs.YtajaiiidafkijaaDoor.Wi
namespace Go.Proofs.YtajaiiidafkijaaDoor.Wi
open Go Go.RowKit Go.Sort
attribute [local go_sem] setCell_drewN alloc_drewN
end Go.Proofs.YtajaiiidafkijaaDoor.Wi
namespace Go.Proofs.YtajaiiidafkijaaDoor.Wi
open Go Go.RowKit Go.Sort
attribute [local go_sem] setCell_drewN alloc_drewN
def slen : Value → Nat
 | .slice _ l _ => l
 | _ => 0
theorem slen_own {W : World} {b : Nat} {T : TypeId} {sz : Nat} {v : Value} {n : Nat} {xs : List Value} (h : W.ownsRow b T sz v n xs) : ∃ ao cap, v = .slice ao n cap := by
 obtain ⟨_, ⟨rfl, rfl⟩ | ⟨g, cap, cur, rfl, _⟩⟩ := h
 ·exact ⟨_, _, rfl⟩
 ·exact ⟨_, _, rfl⟩
set_option maxRecDepth 100000 in
theorem info8 : ∃ i, Tryd.prog.info? 5 = some i ∧ i.zero = some (.int .u8 0) ∧ i.size = 1 ∧ i.bytes = 1 := ⟨_, rfl, rfl, rfl, rfl⟩
theorem new_cell (wr : World) (x : Int) : ∀ j u, [Value.int .u8 x][j]? = some u → (wr.alloc (.cells #[.int .u8 x] 5)).cell? ((⟨wr.heap.size, 0, none⟩ : Addr).add j) = some u := by
 intro j u hu
 have hj : j = 0 := by
  have := (List.getElem?_eq_some_iff.1 hu).1
  simp at this
  exact this
 subst hj
 simp at hu
 subst hu
 rw [addr_add]
 have hg : (wr.alloc (.cells #[.int .u8 x] 5)).heap[wr.heap.size]? = some (.cells #[.int .u8 x] 5 (0, 0)) := hp1_0 wr _
 simp only [World.cell?, hg]
 rfl
end Go.Proofs.YtajaiiidafkijaaDoor.Wi
namespace Go.Proofs.YtajaiiidafkijaaDoor.Wi
set_option maxRecDepth 100000
open Go Go.RowKit Go.Sort
attribute [local go_sem] setCell_drewN alloc_drewN
end Go.Proofs.YtajaiiidafkijaaDoor.Wi
namespace Go.Proofs.YtajaiiidafkijaaDoor.Wi
set_option maxRecDepth 100000
open Go Go.RowKit Go.Sort
attribute [local go_sem] setCell_drewN alloc_drewN
def sumW (bs : List Int) : List Int := fol sl (bs ++ padL bs.length) ((bs ++ padL bs.length).length / 128)
def sumL (bs : List Int) : List Int := byts (sumW bs)
theorem sumW_len (bs : List Int) : (sumW bs).length = 8 := fol_len rfl _ _
theorem sumW_bd (bs : List Int) : ∀ x ∈ sumW bs, 0 ≤ x ∧ x < 18446744073709551616 := fol_bd sl_bd _ _
theorem sumL_len (bs : List Int) : (sumL bs).length = 64 := byts_len _
theorem padL_len (n : Nat) : (padL n).length = plen n := padP_len n 8
theorem Bys.of_own {W : World} {b n : Nat} {v : Value} {l : List Int} (h : W.ownsRow b 5 1 v n (l.map (Value.int .u8))) (hl : l.length ≤ 9223372036854775807) (hz : ∀ z ∈ l, 0 ≤ z ∧ z < 256) : Bys W v l := by
 obtain ⟨h1, ⟨rfl, rfl⟩ | ⟨g, cap, cur, rfl, hb, hg, hn, hm, hs, ht⟩⟩ := h
 ·have : l = [] := List.eq_nil_of_length_eq_zero (by simpa using h1)
  subst this
  exact ⟨none, 0, rfl, by decide, fun j hj => by simp at hj, by simp⟩
 ·have hln : l.length = n := by simpa using h1
  refine ⟨_, cap, by rw [hln], hl, fun j hj => ⟨g, 0, rfl, lt_of_row hg, ?_⟩, hz⟩
  rw [Nat.zero_add, cell_of_row _ _ _ _ _ _ hg]
  have h2 := congrArg (fun q => q[j]?) ht
  simp only [Nat.mul_one] at h2
  rw [List.getElem?_take_of_lt (by omega), List.getElem?_map, List.getElem?_eq_getElem hj] at h2
  rw [← Array.getElem?_toList, h2, List.getD_eq_getElem?_getD, List.getElem?_eq_getElem hj]
  rfl
theorem own_keep {W W' : World} {b n : Nat} {T : TypeId} {v : Value} {xs : List Value} (h : W.ownsRow b T 1 v n xs) (hb : Below W.heap.size W W') : W'.ownsRow b T 1 v n xs := by
 obtain ⟨h1, h2 | ⟨g, cap, cur, rfl, hb2, hg, h3⟩⟩ := h
 ·exact ⟨h1, .inl h2⟩
 ·exact ⟨h1, .inr ⟨g, cap, cur, rfl, hb2, keep hb hg, h3⟩⟩
theorem both_bd {a b : List Int} (ha : ∀ z ∈ a, 0 ≤ z ∧ z < 256) (hb : ∀ z ∈ b, 0 ≤ z ∧ z < 256) : ∀ z ∈ a ++ b, 0 ≤ z ∧ z < 256 := fun z hz => (List.mem_append.1 hz).elim (ha z) (hb z)
theorem own_empty (w : World) : (w.alloc (.cells #[] 5)).ownsRow w.heap.size 5 1 (.slice (some ⟨w.heap.size, 0, none⟩) 0 0) 0 [] :=
 ⟨rfl, .inr ⟨w.heap.size, 0, #[], rfl, Nat.le_refl _, hp1_0 w _, Nat.le_refl _, by decide, rfl, rfl⟩⟩
end Go.Proofs.YtajaiiidafkijaaDoor.Wi
namespace Go.Proofs.YtajaiiidafkijaaDoor.Wi
open Go Go.RowKit Go.Sort
attribute [local go_sem] setCell_drewN alloc_drewN
theorem grown_setCell {a b : World} {g j : Nat} {v : Value} (h : a.grownBy b (some g)) : a.grownBy (b.setCell ⟨g, j, none⟩ v) (some g) := by
 refine ⟨h.os, h.tape, h.output, ?_, fun k hk hn => ?_⟩
 ·have e : (b.setCell ⟨g, j, none⟩ v).heap.size = b.heap.size := by simp [World.setCell]
  rw [e]; exact h.size
 ·rw [heap_setCell_other b ⟨g, j, none⟩ k v (fun e => hn (by rw [e]))]
  exact h.block k hk hn
end Go.Proofs.YtajaiiidafkijaaDoor.Wi
namespace Go.Proofs.YtajaiiidafkijaaDoor.Wi
set_option maxRecDepth 100000
open Go Go.RowKit Go.Sort
attribute [local go_sem] setCell_drewN alloc_drewN
theorem cell_of {W : World} {g : Nat} {cs : Array Value} {t : TypeId} (hg : W.heap[g]? = some (.cells cs t (0, 0))) {j : Nat} {v : Value} (h : cs[j]? = some v) : W.cell? ⟨g, j, none⟩ = some v := by
 rw [cell_of_row _ _ _ _ _ _ hg]; exact h
theorem blk_lt {w : World} {b o : Nat} {v : Value} (h : w.cell? ⟨b, o, none⟩ = some v) : b < w.heap.size := by
 rcases Nat.lt_or_ge b w.heap.size with q | q
 ·exact q
 ·simp [World.cell?, Array.getElem?_eq_none q] at h
theorem grown_below {a b c : World} {g : Nat} (h : a.grownBy b (some g)) (hb : Below b.heap.size b c) : a.grownBy c (some g) :=
 ⟨hb.os.trans h.os, hb.tape.trans h.tape, hb.output.trans h.output, Nat.le_trans h.size hb.size, fun k hk hn => (hb.block k (Nat.lt_of_lt_of_le hk h.size)).trans (h.block k hk hn)⟩
theorem grown_setRow {a b : World} {g : Nat} (cs : Array Value) (h : a.grownBy b (some g)) : a.grownBy (b.setRow g cs) (some g) := by
 refine ⟨h.os, h.tape, h.output, ?_, fun k hk hn => ?_⟩
 ·have e : (b.setRow g cs).heap.size = b.heap.size := by simp
  rw [e]; exact h.size
 ·rw [setRow_other b g k cs (fun e => hn (by rw [e]))]
  exact h.block k hk hn
theorem slice_part (g r : Nat) (hr : r < 128) (W : World) : (Instr.sliceAt 137 (.pointer (some ⟨g, 8, none⟩)) (some (.int .u64 (r : Int))) none none).run Tryd.prog W = .ok (.slice (some ⟨g, 8 + r, none⟩) (128 - r) (128 - r)) W := by
 have ht : Tryd.prog.underlying 137 = some (.array (Tryd.prog.arrayLen 137) (Tryd.prog.elem 137)) := by kernel_rfl
 have hn : Tryd.prog.arrayLen 137 = 128 := by kernel_rfl
 have hs : (sizeOf (Tryd.prog.elem 137)).run Tryd.prog W = .ok 1 W := by kernel_rfl
 rw [run_sliceAt_array_l W _ _ ht .u64 _ (by omega) (by rw [hn]; omega), hs]
 show Result.ok (slicedAt _ _ _ _ 1) W = _
 rw [Int.toNat_natCast, hn, slicedAt, if_neg (by omega), addr_add]
 simp
theorem elem8 : Tryd.prog.underlying 22 = some (.slice (Tryd.prog.elem 22)) := by kernel_rfl
theorem size8 (W : World) : (sizeOf (Tryd.prog.elem 22)).run Tryd.prog W = .ok 1 W := by kernel_rfl
theorem slice_first (ad : Addr) (m c n : Nat) (h : n ≤ c) (W : World) : (Instr.sliceAt 22 (.slice (some ad) m c) none (some (.int .i64 (n : Int))) (some (.int .i64 (n : Int)))).run Tryd.prog W = .ok (.slice (some (if n = 0 then ad else ad.add 0)) n n) W := by
 rw [run_sliceAt_slice _ _ _ _ _ _ elem8, run_slice_hm W 22 (some ad) m c elem8 .i64 .i64 _ _ (by omega) (Int.le_refl _) (by omega), size8]
 show Result.ok (sliced _ _ _ _ 1) W = _
 rw [Int.toNat_natCast, sliced, Nat.zero_mul]
 by_cases e : n = 0
 ·rw [if_pos e, if_pos e]; rfl
 ·rw [if_neg e, if_neg e]; rfl
theorem slice_rest (b0 o m c n : Nat) (h : n ≤ m) (hc : m ≤ c) : ∃ ao2 : Option Addr, (n < m → ao2 = some ⟨b0, o + n, none⟩) ∧ ∀ W, (Instr.sliceAt 22 (.slice (some ⟨b0, o, none⟩) m c) (some (.int .i64 (n : Int))) none none).run Tryd.prog W = .ok (.slice ao2 (m - n) (c - n)) W := by
 refine ⟨if c = n then some ⟨b0, o, none⟩ else some ⟨b0, o + n, none⟩, fun hn => if_neg (by omega), fun W => ?_⟩
 rw [run_sliceAt_slice _ _ _ _ _ _ elem8, run_slice_l W 22 (some ⟨b0, o, none⟩) m c elem8 .i64 _ (by omega) (by omega), size8]
 show Result.ok (sliced _ _ _ _ 1) W = _
 rw [Int.toNat_natCast, sliced, Nat.mul_one, Option.map_some, addr_add]
theorem zbuilt : Tryd.prog.built 137 [] = some (irow .u8 (zr 128)) := by kernel_rfl
theorem copy_part {W : World} {g r b0 o n : Nat} {ws ps c : List Int} {sz : Int} (hg : W.heap[g]? = some (.cells (hcells ws ps sz) 139 (0, 0))) (h1 : ws.length = 8) (h2 : ps.length = 128) (hc : ∀ j, j < c.length → W.cell? ⟨b0, o + j, none⟩ = some (.int .u8 (c.getD j 0))) (hn : c.length = n) (hr : r + n ≤ 128) :
 (Builtin.copy_ #[22, 22] 3 #[.slice (some ⟨g, 8 + r, none⟩) (128 - r) (128 - r), .slice (some ⟨b0, o, none⟩) n n]).run Tryd.prog W = .ok (goInt n) (W.setRow g (hcells ws (ps.take r ++ c ++ ps.drop (r + n)) sz)) := by
 have hsrc : ∀ j u, (c.map (Value.int .u8))[j]? = some u → W.cell? ((⟨b0, o, none⟩ : Addr).add j) = some u := by
  intro j u hu
  have hj : j < c.length := by have := (List.getElem?_eq_some_iff.1 hu).1; simpa using this
  have : u = .int .u8 (c.getD j 0) := by
   simp only [List.getElem?_map, List.getElem?_eq_getElem hj, Option.map_some, Option.some.injEq] at hu
   rw [← hu, List.getD_eq_getElem?_getD, List.getElem?_eq_getElem hj]; rfl
  rw [this, addr_add]
  exact hc j hj
 have hrun := run_copy_row (P := Tryd.prog) W 22 22 3 5 g (8 + r) (128 - r) (128 - r) ⟨b0, o, none⟩ n n (hcells ws ps sz) 139 (c.map (Value.int .u8)) Tryd.underlying22 (by kernel_rfl) hg (by rw [List.length_map, hn]; exact (Nat.min_eq_left (by omega)).symm) hsrc (by rw [hcells_size _ _ _ h1 h2, List.length_map]; omega) (ints_one .u8 c)
 rw [hcells_copy ws ps c sz r h1 h2 (by omega), List.length_map, hn] at hrun
 exact hrun
set_option maxRecDepth 100000 in
set_option maxHeartbeats 8000000 in
theorem a_write (bs b : List Int) (g : Nat) (w : World) (v : Value) (hH : w.heap[g]? = some (.cells (hst bs) 139 (0, 0))) (hB : Bys w v b) (hne : ∀ a l c, v = .slice (some a) l c → 0 < l → a.block ≠ g) (hcap : ∀ a l c, v = .slice a l c → l ≤ c) (hzb : ∀ z ∈ bs, 0 ≤ z ∧ z < 256) (hlim : bs.length + b.length ≤ 4611686018427387904) :
 Calls Tryd.prog 64 #[.pointer (some ⟨g, 0, none⟩), v] w fun e w' => e = .returned (.tuple #[]) ∧ w'.heap[g]? = some (.cells (hst (bs ++ b)) 139 (0, 0)) ∧ w.grownBy w' (some g) := by
 obtain ⟨ao, cap, rfl, hl63, hc, hz⟩ := hB
 replace hcap := hcap _ _ _ rfl
 generalize elen : b.length = len at *
 have hgl := lt_of_row hH
 go_enter Tryd.func64, Tryd.ntmps64
 go_wp2_with (fail)
 go_loopw [1] (fun x wr => ∃ (k : Nat) (ao' : Option Addr), k ≤ len ∧ x = .slice ao' (len - k) (cap - k) ∧ (k < len → ∃ b0 off, ao = some ⟨b0, off, none⟩ ∧ ao' = some ⟨b0, off + k, none⟩) ∧ wr.heap[g]? = some (.cells (hst (bs ++ b.take k)) 139 (0, 0)) ∧ w.grownBy wr (some g)) (fun x _ => slen x)
 case atStart =>
  refine ⟨0, ao, by omega, rfl, fun h => ?_, by simpa using hH, World.grownBy.refl _ _⟩
  obtain ⟨b0, off, e, _⟩ := hc 0 h
  exact ⟨b0, off, e, e⟩
 case round =>
  obtain ⟨k, ao', hk, rfl, hadr, rH, hw⟩ := hrel
  by_cases hlt : k < len
  ·obtain ⟨b0, off, rfl, rfl⟩ := hadr hlt
   have hb0 := hne _ _ _ rfl (by omega)
   replace hb0 : b0 ≠ g := hb0
   have hcell : ∀ j, j < len → wr.cell? ⟨b0, off + j, none⟩ = some (.int .u8 (b.getD j 0)) := fun j hj => by
    obtain ⟨b1, o1, e, hb1, hb2⟩ := hc j hj
    cases e
    exact hw.cell hb2 (by intro e; injection e with e; exact hb0 e)
   have hal : (bs ++ b.take k).length = bs.length + k := by rw [List.length_append, List.length_take]; omega
   have hab : ∀ z ∈ bs ++ b.take k, 0 ≤ z ∧ z < 256 := both_bd hzb (fun z h => hz z (List.mem_of_mem_take h))
   have hnx : ∀ n, bs ++ b.take (k + n) = bs ++ b.take k ++ (b.drop k).take n := fun n => by rw [List.append_assoc, ← List.take_add]
   have hgl2 := lt_of_row rH
   clear hadr hne hc hH hzb
   generalize bs ++ b.take k = a at *
   have hw8 := hwords_len a
   have hp64 := hpart_len a
   have hless := hst_less a
   have hfull := hst_full a
   have hwat := wat_bd (bs := a)
   have hover := fun c => part_over a c (a.length / 128) (a.length % 128) (by omega)
   rw [show prq (wat a (a.length / 128)) (a.length % 128) = hpart a from rfl] at hover
   rw [hst] at rH
   have csz := cell_of rH (hcells_at _ _ _ hw8 hp64)
   generalize eA : a.length = A at *
   obtain ⟨r, er⟩ : ∃ r : Nat, r = A % 128 := ⟨_, rfl⟩
   have hr : r < 128 := by omega
   have eri : (A : Int) % 128 = (r : Int) := by omega
   rw [← er] at hover hless hfull
   generalize A / 128 = q at *
   generalize hwords a = ws at *
   generalize hpart a = ps at *
   obtain ⟨m, em⟩ : ∃ m : Nat, m = len - k := ⟨_, rfl⟩
   rw [← em]
   have hm : 0 < m := by omega
   obtain ⟨C, eC⟩ : ∃ C : Nat, C = cap - k := ⟨_, rfl⟩
   rw [← eC]
   have hmC : m ≤ C := by omega
   have hAl : A ≤ 4611686018427387904 := by omega
   have hAm : A + m ≤ 4611686018427387904 := by omega
   clear hwat
   -- how many bytes the block takes up
   obtain ⟨n, hn1, hnm, hn64, hdec⟩ : ∃ n : Nat, 0 < n ∧ n ≤ m ∧ r + n ≤ 128 ∧ ((n = m ∧ m < 128 - r) ∨ (n = 128 - r ∧ 128 - r ≤ m)) := by
    by_cases h : m < 128 - r
    ·exact ⟨m, hm, Nat.le_refl _, by omega, .inl ⟨rfl, h⟩⟩
    ·exact ⟨128 - r, by omega, by omega, by omega, .inr ⟨rfl, by omega⟩⟩
   have hcl : ((b.drop k).take n).length = n := by rw [List.length_take, List.length_drop]; omega
   have hcs : ∀ j, j < ((b.drop k).take n).length → wr.cell? ⟨b0, off + k + j, none⟩ = some (.int .u8 (((b.drop k).take n).getD j 0)) := fun j hj => by
    rw [hcl] at hj
    have := hcell (k + j) (by omega)
    rw [← Nat.add_assoc] at this
    rw [this, List.getD_eq_getElem?_getD, List.getD_eq_getElem?_getD, List.getElem?_take_of_lt hj, List.getElem?_drop]
   have hnx' := hnx n
   have hov := hover ((b.drop k).take n) (by rw [hcl]; exact hn64)
   have hls := hless ((b.drop k).take n)
   have hfl := hfull ((b.drop k).take n)
   have hcb : ∀ z ∈ a ++ (b.drop k).take n, 0 ≤ z ∧ z < 256 := both_bd hab (fun z h => hz z (List.mem_of_mem_drop (List.mem_of_mem_take h)))
   have hpo := prq_bd (wat_bd hcb q) 128
   rw [hcl] at hov hls hfl
   clear hover hless hfull hnx hcell hcb hab hz
   generalize (b.drop k).take n = c at *
   generalize eo : off + k = o at *
   replace eo := hide eo
   have sl1 := slice_part g r hr
   have sl2 := slice_first ⟨b0, o, none⟩ m C n (by omega)
   rw [if_neg (show ¬ n = 0 by omega), addr_add, Nat.add_zero] at sl2
   obtain ⟨ao2, hao2, sl3⟩ := slice_rest b0 o m C n hnm hmC
   have hpl : (ps.take r ++ c ++ ps.drop (r + n)).length = 128 := by rw [hov, prq_len]
   have hcp := fun (W : World) (rW : W.heap[g]? = some (.cells (hcells ws ps (A : Int)) 139 (0, 0))) hcW => copy_part (W := W) (r := r) (b0 := b0) (o := o) (c := c) rW hw8 hp64 hcW hcl hn64
   rw [hov] at hpl
   simp only [hov] at hcp
   replace hov := hide hov
   replace hnx' := hide hnx'
   replace hls := hide hls
   replace hfl := hide hfl
   replace hpo := hide hpo
   have hAn : (A : Int) + (n : Int) < 18446744073709551616 := by omega
   rcases hdec with ⟨hE, hE2⟩ | ⟨hE, hE2⟩
   ·have e64 : ¬ ((128 : Int) - (r : Int) ≤ (m : Int)) := by omega
    have hmod : (((A : Int) + (n : Int)) % 128 == 0) = false := by rw [beq_eq_false_iff_ne]; omega
    clear er hal hlim hl63
    replace em := hide em
    replace eC := hide eC
    replace elen := hide elen
    subst hE
    go_wp2
    refine wp_region_alloc_ex 9 9 [] (fun _ => .cells #[] 0 (0, 0)) (by kernel_rfl) (by decide) (by decide) (by kernel_rfl) (by kernel_rfl) (by kernel_rfl) (by kernel_rfl) (by kernel_rfl) (by kernel_rfl) (by kernel_rfl) (by kernel_rfl) (by decide) (by decide) ?_ ?_
    ·intro s l u
     omega
    apply Exists.intro
    constructor
    ·intro v_ hb
     clear hb; dsimp only [List.take]
     go_big_quiet_step (fail)
     go_big_quiet_step (fail)
     go_big_quiet_step (fail)
     go_big_quiet_step (fail)
     go_big_quiet_step (fail)
     go_big_quiet_step (fail)
     go_big_quiet_step (fail)
     go_big_quiet_step (fail)
     go_big_quiet_step (fail)
     refine wpQuiet_nil ?_
     rfl
    intro w1 g_ hb _ _
    simp only [List.drop, puts, ptrs, List.map, List.foldl, Act.put]
    have hcs1 : ∀ j, j < c.length → w1.cell? ⟨b0, o + j, none⟩ = some (.int .u8 (c.getD j 0)) := fun j hj => (hb.cell (p := ⟨b0, o + j, none⟩) (blk_lt (hcs j hj))).trans (hcs j hj)
    have rH1 := keep hb rH
    have hcopy := hcp w1 rH1 hcs1
    replace hw := grown_setRow (hcells ws (prq (wat (a ++ c) q) (r + n)) (A : Int)) (grown_below hw hb)
    have r2 := setRow_heap w1 g _ (hcells ws (prq (wat (a ++ c) q) (r + n)) (A : Int)) _ _ rH1
    have csz2 := cell_of r2 (hcells_at _ _ _ hw8 hpl)
    have hf2 := row_frozen r2 136
    have r3 := heap_setCell_same _ g 136 _ _ (.int .u64 ((A : Int) + (n : Int))) r2
    rw [hcells_setsz _ _ _ _ hw8 hpl] at r3
    replace hw := grown_setCell (j := 136) (v := .int .u64 ((A : Int) + (n : Int))) hw
    clear hcp hcs hcs1 rH rH1 csz hb sl1 sl2
    generalize w1.setRow g (hcells ws (prq (wat (a ++ c) q) (r + n)) (A : Int)) = w2 at *
    go_wp2
    refine ⟨⟨k + n, ao2, by have := em.out; omega, by have e1 := em.out; have e2 := eC.out; rw [show len - (k + n) = 0 by omega, show cap - (k + n) = C - n by omega], fun h => by have e1 := em.out; omega, by rw [hnx'.out, hls.out (by omega)]; exact r3, hw⟩, ?_⟩
    simp [slen]; omega
   ·have h64 : r + n = 128 := by omega
    have e64 : (128 : Int) - (r : Int) ≤ (m : Int) := by omega
    have hmod : (((A : Int) + (n : Int)) % 128 == 0) = true := by rw [beq_iff_eq]; omega
    rw [h64] at hpl
    simp only [h64] at hcp
    have en : (128 : Int) - (r : Int) = (n : Int) := by omega
    replace h64 := hide h64
    replace hE := hide hE
    clear er hal hlim hl63
    replace em := hide em
    replace eC := hide eC
    replace elen := hide elen
    go_wp2
    refine wp_region_alloc_ex 9 9 [] (fun _ => .cells #[] 0 (0, 0)) (by kernel_rfl) (by decide) (by decide) (by kernel_rfl) (by kernel_rfl) (by kernel_rfl) (by kernel_rfl) (by kernel_rfl) (by kernel_rfl) (by kernel_rfl) (by kernel_rfl) (by decide) (by decide) ?_ ?_
    ·intro s l u
     omega
    apply Exists.intro
    constructor
    ·intro v_ hb
     clear hb; dsimp only [List.take]
     go_big_quiet_step (fail)
     go_big_quiet_step (fail)
     go_big_quiet_step (fail)
     go_big_quiet_step (fail)
     go_big_quiet_step (fail)
     go_big_quiet_step (fail)
     go_big_quiet_step (fail)
     go_big_quiet_step (fail)
     go_big_quiet_step (fail)
     refine wpQuiet_nil ?_
     rfl
    intro w1 g_ hb _ _
    simp only [List.drop, puts, ptrs, List.map, List.foldl, Act.put]
    have hcs1 : ∀ j, j < c.length → w1.cell? ⟨b0, o + j, none⟩ = some (.int .u8 (c.getD j 0)) := fun j hj => (hb.cell (p := ⟨b0, o + j, none⟩) (blk_lt (hcs j hj))).trans (hcs j hj)
    have rH1 := keep hb rH
    have hcopy := hcp w1 rH1 hcs1
    replace hw := grown_setRow (hcells ws (prq (wat (a ++ c) q) 128) (A : Int)) (grown_below hw hb)
    have r2 := setRow_heap w1 g _ (hcells ws (prq (wat (a ++ c) q) 128) (A : Int)) _ _ rH1
    have csz2 := cell_of r2 (hcells_at _ _ _ hw8 hpl)
    have hf2 := row_frozen r2 136
    have r3 := heap_setCell_same _ g 136 _ _ (.int .u64 ((A : Int) + (n : Int))) r2
    rw [hcells_setsz _ _ _ _ hw8 hpl] at r3
    replace hw := grown_setCell (j := 136) (v := .int .u64 ((A : Int) + (n : Int))) hw
    clear hcp hcs hcs1 rH rH1 csz hb sl1 sl2
    generalize w1.setRow g (hcells ws (prq (wat (a ++ c) q) 128) (A : Int)) = w2 at *
    go_wp2
    have cB := a_block ws (prq (wat (a ++ c) q) 128) hw8 hpl hpo.out
    have hbl := blk_len ws (prq (wat (a ++ c) q) 128)
    have hres := hfl.out h64.out
    generalize w2.setCell ⟨g, 136, none⟩ (.int .u64 ((A : Int) + (n : Int))) = w3 at *
    clear hcopy r2 csz2 hf2 hls hfl hov hpo
    generalize prq (wat (a ++ c) q) 128 = NP at *
    generalize blk ws NP = BW at *
    have hpw : (hcells ws NP ((A : Int) + (n : Int))).extract 0 (0 + (irow .u64 ws).size) = irow .u64 ws := by rw [irow_size, hw8]; exact hcells_words _ _ _ hw8
    have hpp : (hcells ws NP ((A : Int) + (n : Int))).extract 8 (8 + (irow .u8 NP).size) = irow .u8 NP := by rw [irow_size, hpl]; exact hcells_part _ _ _ hw8 hpl
    have HR := keepr r3
    replace hres := hide hres
    refine wp_region_tail (C := fun w' => ∃ p : Regrown, w' = grow (redrawn w3 p.d) p.os) 12 _ rfl rfl rfl (by kernel_rfl) (by kernel_rfl) (by kernel_rfl) (by kernel_rfl) ⟨⟨w3.drawn + 1, #[]⟩, by rw [grow_empty]; rfl⟩ ?_
    dsimp only [List.set, idle]
    go_big_quiet_step (fail)
    go_big_quiet_step (fail)
    go_big_quiet_step (fail)
    go_big_quiet_step (fail)
    refine wpQuiet_load_part rfl 135 _ rfl g 0 rfl 139 (hcells ws NP ((A : Int) + (n : Int))) (0, 0) (irow .u64 ws) _ HR.out hpw Tryd.underlying135 rfl (info23 _ hw8) ?_
    simp only [Act.put, ZPd, ZPe, ZPf]
    go_big_quiet_step (fail)
    go_big_quiet_step (fail)
    go_big_quiet_step (fail)
    refine wpQuiet_load_part rfl 137 _ rfl g 8 rfl 139 (hcells ws NP ((A : Int) + (n : Int))) (0, 0) (irow .u8 NP) _ HR.out hpp Tryd.underlying137 rfl (info24 _ hpl) ?_
    simp only [Act.put, ZPd, ZPe, ZPf]
    go_big_quiet_step (exact cB.re)
    go_big_quiet_step (fail)
    go_big_quiet_step (fail)
    refine wpQuiet_idle rfl rfl rfl ?_
    rintro _ ⟨p, rfl⟩
    have hb := below_regrown w3 p.d p.os
    generalize grow (redrawn w3 p.d) p.os = w4 at *
    replace r3 := keep hb r3
    replace hw := grown_below hw hb
    clear hb
    clear HR hpw hpp cB
    go_wp2_with (first | (refine wpList_store_part rfl 135 _ _ rfl g 0 (irow .u64 BW) rfl rfl 139 _ (hcells BW NP ((A : Int) + (n : Int))) r3 (by rw [irow_size, hbl, hcells_size _ _ _ hw8 hpl]; omega) (hcells_setwords _ _ _ _ hw8 hpl hbl) (info23 _ hbl) (irow_one _ _) ?_) | (refine wpList_build_as rfl 137 _ rfl [] rfl (irow .u8 (zr 128)) zbuilt ?_) | (refine wpList_store_part rfl 137 _ _ rfl g 8 (irow .u8 (zr 128)) rfl rfl 139 _ (hcells BW (zr 128) ((A : Int) + (n : Int))) (setRow_heap w4 g _ (hcells BW NP ((A : Int) + (n : Int))) _ _ r3) (by rw [irow_size, zr_len, hcells_size _ _ _ hbl hpl]; omega) (hcells_setpart _ _ _ _ hbl hpl (zr_len 128)) (info24 _ (zr_len 128)) (irow_one _ _) ?_) | fail)
    have r5 := setRow_heap _ g _ (hcells BW (zr 128) ((A : Int) + (n : Int))) _ _ (setRow_heap w4 g _ (hcells BW NP ((A : Int) + (n : Int))) _ _ r3)
    replace hw := grown_setRow (hcells BW (zr 128) ((A : Int) + (n : Int))) (grown_setRow (hcells BW NP ((A : Int) + (n : Int))) hw)
    generalize (w4.setRow g (hcells BW NP ((A : Int) + (n : Int)))).setRow g (hcells BW (zr 128) ((A : Int) + (n : Int))) = w6 at *
    simp only [Act.put]
    refine ⟨?_, ?measure⟩
    apply Exists.intro
    apply Exists.intro
    repeat apply Exists.intro
    refine ⟨?rel, rfl⟩
    case rel =>
     refine ⟨k + n, ao2, by have := em.out; omega, by have e1 := em.out; have e2 := eC.out; rw [show len - (k + n) = m - n by omega, show cap - (k + n) = C - n by omega], fun h => ⟨b0, off, rfl, ?_⟩, by rw [hnx'.out, hres.out]; exact r5, hw⟩
     rw [hao2 (by have e1 := em.out; omega), ← eo.out, Nat.add_assoc]
    case measure =>
     show m - n < m
     omega
  ·obtain rfl : k = len := by omega
   have hd : decide ((0 : Int) < ((k - k : Nat) : Int)) = false := by simp
   have et : b.take k = b := List.take_of_length_le (by omega)
   rw [et] at rH
   go_wp2
   go_end0
   exact ⟨rfl, rH, hw⟩
end Go.Proofs.YtajaiiidafkijaaDoor.Wi
namespace Go.Proofs.YtajaiiidafkijaaDoor.Wi
set_option maxRecDepth 100000
open Go Go.RowKit Go.Sort
attribute [local go_sem] setCell_drewN alloc_drewN
theorem zH (W : World) : (Instr.alloc 139 true (.tuple #[])).run Tryd.prog W = .ok (.pointer (some ⟨W.heap.size, 0, none⟩)) (W.alloc (.cells (hcells (zr 8) (zr 128) 0) 139)) := by kernel_rfl
theorem bH (cs : Array Value) (W : World) : (Instr.box 139 (.agg cs)).run Tryd.prog W = .ok (.pointer (some ⟨W.heap.size, 0, none⟩)) (W.alloc (.cells cs 139)) := by kernel_rfl
theorem nbuilt : Tryd.prog.built 139 [(0, .agg (irow .u64 sl))] = some (hst []) := by kernel_rfl
theorem infoH (ws ps : List Int) (sz : Int) (h1 : ws.length = 8) (h2 : ps.length = 128) : (Tryd.prog.info? 139).map (·.size) = some (hcells ws ps sz).size := by
 rw [hcells_size _ _ _ h1 h2]; kernel_rfl
theorem infoS (bs : List Int) : (Tryd.prog.info? 139).map (·.size) = some (hst bs).size := infoH _ _ _ (hwords_len bs) (hpart_len bs)
theorem fitS (bs : List Int) : (hcells (zr 8) (zr 128) 0).size = (hst bs).size := by
 rw [hcells_size _ _ _ (zr_len 8) (zr_len 128), hst, hcells_size _ _ _ (hwords_len bs) (hpart_len bs)]
set_option maxRecDepth 100000 in
set_option maxHeartbeats 2000000 in
theorem a_new (w : World) : Calls Tryd.prog 63 #[] w fun e w' => ∃ g, w.heap.size ≤ g ∧ e = .returned (.pointer (some ⟨g, 0, none⟩)) ∧ w'.heap[g]? = some (.cells (hst []) 139 (0, 0)) ∧ Below w.heap.size w w' := by
 go_enter Tryd.func63, Tryd.ntmps63
 go_wp2_with (fail)
 refine (a_start.at _).mono ?_
 rintro e_ w1 ⟨rfl, hb⟩
 have R0 := hp1_0 w1 (.cells (hst []) 139)
 have HW : Below w.heap.size w (w1.alloc (.cells (hst []) 139)) := hb.alloc hb.size _
 go_wp2_with (first | (refine wpList_build_as rfl 139 _ rfl [(0, .agg (irow .u64 sl))] rfl (hst []) nbuilt ?_) | (refine wpList_box rfl 139 _ rfl _ rfl (bH _) ?_) | fail)
 go_ret
 exact ⟨_, hb.size, rfl, R0, HW⟩
theorem sumW_eq (bs : List Int) : hwords (bs ++ padL bs.length) = sumW bs := rfl
set_option maxRecDepth 100000 in
set_option maxHeartbeats 4000000 in
theorem a_hsum (bs : List Int) (g : Nat) (w : World) (rH : w.heap[g]? = some (.cells (hst bs) 139 (0, 0))) (hz : ∀ z ∈ bs, 0 ≤ z ∧ z < 256) (hlim : bs.length ≤ 4611686018427387000) : Calls Tryd.prog 65 #[.pointer (some ⟨g, 0, none⟩)] w fun e w' => e = .returned (.agg (irow .u8 (sumL bs))) ∧ Below w.heap.size w w' := by
 have lg := lt_of_row rH
 have hpb := plen_bd bs.length
 have hpl := padL_len bs.length
 have r0 := hp2_0 w (.cells (irow .u8 (zr 64)) 37) (.cells (hst bs) 139)
 have r1 := hp2_1 w (.cells (irow .u8 (zr 64)) 37) (.cells (hst bs) 139)
 have hw : Below w.heap.size w ((w.alloc (.cells (irow .u8 (zr 64)) 37)).alloc (.cells (hst bs) 139)) := ((Below.refl _ _).alloc (Nat.le_refl _) _).alloc (by simp) _
 have rH0 : (w.alloc (.cells (irow .u8 (zr 64)) 37)).heap[g]? = some (.cells (hst bs) 139 (0, 0)) := keep ((Below.refl _ _).alloc (Nat.le_refl _) _) rH
 have csz := cell_of (keep hw rH) (hcells_at _ _ _ (hwords_len bs) (hpart_len bs))
 have cP := a_pad bs.length (by omega)
 go_enter Tryd.func65, Tryd.ntmps65
 go_wp2_with (first | (refine wpList_alloc rfl 37 rfl (irow .u8 (zr 64)) zwide ?_) | (refine wpList_load_want rfl 139 _ rfl g rfl 139 (hst bs) (0, 0) _ rH0 Tryd.underlying139 rfl (infoS _) ?_) | (refine wpList_alloc rfl 139 rfl (hcells (zr 8) (zr 128) 0) zH ?_) | (refine wpList_store_row rfl 139 _ _ rfl ((w.alloc (.cells (irow .u8 (zr 64)) 37)).heap.size) (hst bs) rfl rfl 139 _ (hp1_0 (w.alloc (.cells (irow .u8 (zr 64)) 37)) _) (infoS _) (fitS _) (hcells_one _ _ _) ?_; rw [setRow_alloc_new _ _ _ _ _ _ rfl]) | fail)
 try simp only [size_alloc1, Act.put, List.setIfInBounds_toArray, List.set_cons_succ, List.set_cons_zero]
 have ysz : ((w.alloc (.cells (irow .u8 (zr 64)) 37)).alloc (.cells (hst bs) 139)).heap.size = w.heap.size + 1 + 1 := by rw [size_alloc1, size_alloc1]
 generalize ((w.alloc (.cells (irow .u8 (zr 64)) 37)).alloc (.cells (hst bs) 139)) = w0 at *
 refine (cP w0).mono ?_
 rintro e_ w1 ⟨vp, gp, rfl, rfl, hgp, rp, hb⟩
 replace r0 := keep hb r0
 replace r1 := keep hb r1
 replace hw := Below.after hw hb
 clear hb csz rH0 cP
 have hBp : Bys w1 (.slice (some ⟨gp, 0, none⟩) (plen bs.length) (plen bs.length)) (padL bs.length) := by rw [← hpl]; exact Bys.of_row rp (by omega) (padL_bd _) _
 have cW := a_write bs (padL bs.length) (w.heap.size + 1) w1 _ r1 hBp (fun a l c h _ => by cases h; show gp ≠ w.heap.size + 1; omega) (fun a l c h => by cases h; exact Nat.le_refl _) hz (by rw [hpl]; omega)
 go_wp2_with (fail)
 refine cW.mono ?_
 rintro e_ w2 ⟨rfl, r2, hgr⟩
 have l0 := lt_of_row r0
 replace r0 : w2.heap[w.heap.size]? = _ := (hgr.block _ l0 (by intro e; injection e with e; omega)).trans r0
 replace hw := hw.grown hgr hw.size (fun k h => by injection h with h; omega)
 clear hgr cW r1 hBp rp
 have hW8 := sumW_len bs
 have hWb := sumW_bd bs
 have hSl := sumL_len bs
 have cT := a_told (sumW bs) hW8 hWb
 rw [show byts (sumW bs) = sumL bs from rfl] at cT
 rw [hst, sumW_eq] at r2
 have hq64 := hpart_len (bs ++ padL bs.length)
 generalize hpart (bs ++ padL bs.length) = PS at *
 generalize (((bs ++ padL bs.length).length : Nat) : Int) = SZ at *
 generalize sumW bs = SW at *
 have hpw : (hcells SW PS SZ).extract 0 (0 + (irow .u64 SW).size) = irow .u64 SW := by rw [irow_size, hW8]; exact hcells_words _ _ _ hW8
 clear hWb hpl hpb
 go_wp2_with (first | (refine wpList_load_part rfl 135 _ rfl (w.heap.size + 1) 0 rfl 139 (hcells SW PS SZ) (0, 0) (irow .u64 SW) _ r2 hpw Tryd.underlying135 rfl (info23 _ hW8) ?_) | fail)
 refine (cT.at _).mono ?_
 rintro e_ w3 ⟨rfl, hb⟩
 replace r0 := keep hb r0
 replace hw := Below.after hw hb
 clear hb cT
 go_wp2_with (first | (refine wpList_store_row rfl 37 _ _ rfl (w.heap.size) (irow .u8 (sumL bs)) rfl rfl 37 _ r0 (infok8 _ hSl) (fit64 _ _ (zr_len 64) hSl) (irow_one _ _) ?_) | fail)
 replace r0 := setRow_heap w3 (w.heap.size) _ (irow .u8 (sumL bs)) _ _ r0
 replace hw := below_setRow hw (Nat.le_refl _) (irow .u8 (sumL bs))
 generalize w3.setRow (w.heap.size) (irow .u8 (sumL bs)) = w9 at *
 exact bodyPost_ret (v := .agg (irow .u8 (sumL bs))) (results_cell_row Tryd.results65 _ _ (w.heap.size) _ _ _ _ rfl r0 Tryd.underlying37 rfl (infok8 _ hSl)) rfl ⟨rfl, hw⟩
set_option maxRecDepth 100000 in
set_option maxHeartbeats 4000000 in
theorem a_sum (bs : List Int) (w : World) (v : Value) (hB : Bys w v bs) (hcap : ∀ a l c, v = .slice a l c → l ≤ c) (hlim : bs.length ≤ 4611686018427387000) : Calls Tryd.prog 17 #[v] w fun e w' => e = .returned (.agg (irow .u8 (sumL bs))) ∧ Below w.heap.size w w' := by
 have r0 := hp1_0 w (.cells (irow .u8 (zr 64)) 37)
 have hw : Below w.heap.size w (w.alloc (.cells (irow .u8 (zr 64)) 37)) := (Below.refl _ _).alloc (Nat.le_refl _) _
 have hB0 := hB.keep hw
 obtain ⟨ao, cap, rfl, _, hc, hz⟩ := hB
 replace hcap := hcap _ _ _ rfl
 have hSl := sumL_len bs
 have hne : ∀ a, ao = some a → 0 < bs.length → a.block < w.heap.size := by
  rintro a rfl hl
  obtain ⟨b0, off, e, hb, _⟩ := hc 0 hl
  cases e
  exact hb
 clear hc
 go_enter Tryd.func17, Tryd.ntmps17
 go_wp2_with (first | (refine wpList_alloc rfl 37 rfl (irow .u8 (zr 64)) zwide ?_) | fail)
 try simp only [size_alloc1, Act.put, List.setIfInBounds_toArray, List.set_cons_succ, List.set_cons_zero]
 have ysz : (w.alloc (.cells (irow .u8 (zr 64)) 37)).heap.size = w.heap.size + 1 := size_alloc1 _ _
 generalize (w.alloc (.cells (irow .u8 (zr 64)) 37)) = w0 at *
 refine (a_new w0).mono ?_
 rintro e_ w1 ⟨gN, hgN, rfl, r1, hb⟩
 replace r0 := keep hb r0
 replace hB0 := hB0.keep hb
 replace hw := Below.after hw hb
 clear hb
 rw [ysz] at hgN
 clear ysz
 have cW := a_write [] bs gN w1 _ r1 hB0 (fun a l c h hl => by cases h; have := hne a rfl hl; omega) (fun a l c h => by cases h; exact hcap) (by simp) (by simp; omega)
 rw [List.nil_append] at cW
 go_wp2_with (fail)
 refine cW.mono ?_
 rintro e_ w2 ⟨rfl, r2, hgr⟩
 have l0 := lt_of_row r0
 replace r0 : w2.heap[w.heap.size]? = _ := (hgr.block _ l0 (by intro e; injection e with e; omega)).trans r0
 replace hw := hw.grown hgr hw.size (fun k h => by injection h with h; omega)
 clear hgr cW r1
 have cS := a_hsum bs gN w2 r2 hz hlim
 go_wp2_with (fail)
 refine cS.mono ?_
 rintro e_ w3 ⟨rfl, hb⟩
 replace r0 := keep hb r0
 replace hw := Below.after hw hb
 clear hb cS
 go_wp2_with (first | (refine wpList_store_row rfl 37 _ _ rfl (w.heap.size) (irow .u8 (sumL bs)) rfl rfl 37 _ r0 (infok8 _ hSl) (fit64 _ _ (zr_len 64) hSl) (irow_one _ _) ?_) | fail)
 replace r0 := setRow_heap w3 (w.heap.size) _ (irow .u8 (sumL bs)) _ _ r0
 replace hw := below_setRow hw (Nat.le_refl _) (irow .u8 (sumL bs))
 generalize w3.setRow (w.heap.size) (irow .u8 (sumL bs)) = w9 at *
 exact bodyPost_ret (v := .agg (irow .u8 (sumL bs))) (results_cell_row Tryd.results17 _ _ (w.heap.size) _ _ _ _ rfl r0 Tryd.underlying37 rfl (infok8 _ hSl)) rfl ⟨rfl, hw⟩
end Go.Proofs.YtajaiiidafkijaaDoor.Wi

