import Derived.Test.YtamieopjigjfiaaDoorProg
import Derived.WalkKit
import Derived.WalkSpells
import Derived.WalkLawsBesides
import Derived.Lib.QuietBelow
import Derived.BigQuiet
import Derived.Test.YtamieopjigjfiaaDoorS0
import Derived.Test.YtamieopjigjfiaaDoorRows
import Derived.ProofKit
import Derived.LaidMore
import Derived.OpenShut
import Derived.Stop.Joined
import Derived.Deep.RegionHeld3
namespace Go.Proofs.YtamieopjigjfiaaDoor
set_option maxRecDepth 100000
open Go Go.RowKit Go.Sort
attribute [local go_sem] setCell_drewN alloc_drewN

/-- Four bytes as a word. -/
def w4 (a b c d : Int) : Int := bits .or .u32 (bits .or .u32 (bits .or .u32 (a * 16777216) (b * 65536)) (c * 256)) d
def wrd (b : List Int) (t : Nat) : Int := w4 (b.getD (4 * t) 0) (b.getD (4 * t + 1) 0) (b.getD (4 * t + 2) 0) (b.getD (4 * t + 3) 0)
/-- The words of a block. -/
def wds (b : List Int) (t : Nat) : Int := if t < 16 then wrd b t else (lo1 (wds b (t - 2)) + wds b (t - 7) + lo0 (wds b (t - 15)) + wds b (t - 16)) % 4294967296
termination_by t
theorem wds_lo (b : List Int) {t : Nat} (h : t < 16) : wds b t = wrd b t := by rw [wds, if_pos h]
theorem wds_hi (b : List Int) {t : Nat} (h : ¬ t < 16) : wds b t = (lo1 (wds b (t - 2)) + wds b (t - 7) + lo0 (wds b (t - 15)) + wds b (t - 16)) % 4294967296 := by rw [wds, if_neg h]
/-- The first t of sixty-four, then zeros. -/
def prt (W : Nat → Int) (t : Nat) : List Int := (List.range 64).map fun j => if j < t then W j else 0
theorem prt_len (W : Nat → Int) (t : Nat) : (prt W t).length = 64 := by simp [prt]
theorem prt_get (W : Nat → Int) (t : Nat) {j : Nat} (h : j < t) (h2 : j < 64) : (prt W t).getD j 0 = W j := by
  simp [prt, List.getD_eq_getElem?_getD, h2, h]
theorem prt_set (W : Nat → Int) (t : Nat) (h : t < 64) : (prt W t).set t (W t) = prt W (t + 1) := by
  apply List.ext_getElem?
  intro j
  rw [List.getElem?_set]
  by_cases e : t = j
  · subst e
    rw [if_pos rfl, if_pos (by rw [prt_len]; exact h)]
    simp [prt, h]
  · rw [if_neg e]
    simp only [prt, List.getElem?_map]
    by_cases hj : j < 64
    · simp only [List.getElem?_range hj, Option.map_some]
      by_cases h1 : j < t
      · rw [if_pos h1, if_pos (by omega)]
      · rw [if_neg h1, if_neg (by omega)]
    · rw [List.getElem?_eq_none (by simp; omega)]; rfl
theorem prt_zero (W : Nat → Int) : prt W 0 = zr 64 := rfl
set_option maxHeartbeats 1000000 in
theorem a_word (g off cap : Nat) (z0 z1 z2 z3 : Int) (W : World) (b0 : 0 ≤ z0 ∧ z0 < 256) (b1 : 0 ≤ z1 ∧ z1 < 256) (b2 : 0 ≤ z2 ∧ z2 < 256) (b3 : 0 ≤ z3 ∧ z3 < 256) (c0 : W.cell? ⟨g, off + 0, none⟩ = some (.int .u8 z0)) (c1 : W.cell? ⟨g, off + 1, none⟩ = some (.int .u8 z1)) (c2 : W.cell? ⟨g, off + 2, none⟩ = some (.int .u8 z2)) (c3 : W.cell? ⟨g, off + 3, none⟩ = some (.int .u8 z3)) : Calls Tryd.prog 96 #[.slice (some ⟨g, off, none⟩) 4 cap] W fun e w' => e = .returned (.int .u32 (w4 z0 z1 z2 z3)) ∧ Below W.heap.size W w' := by
  rw [Nat.add_zero] at c0
  have hw : Below W.heap.size W W := Below.refl _ _
  go_enter Tryd.func96, Tryd.ntmps96
  go_wp2
  have k0 : ∀ p : Regrown, (grow (redrawn W p.d) p.os).cell? ⟨g, off, none⟩ = some (.int .u8 z0) := fun p => cell_regrown (c0) p.d p.os
  have k1 : ∀ p : Regrown, (grow (redrawn W p.d) p.os).cell? ⟨g, off + 1, none⟩ = some (.int .u8 z1) := fun p => cell_regrown (c1) p.d p.os
  have k2 : ∀ p : Regrown, (grow (redrawn W p.d) p.os).cell? ⟨g, off + 2, none⟩ = some (.int .u8 z2) := fun p => cell_regrown (c2) p.d p.os
  have k3 : ∀ p : Regrown, (grow (redrawn W p.d) p.os).cell? ⟨g, off + 3, none⟩ = some (.int .u8 z3) := fun p => cell_regrown (c3) p.d p.os
  refine wp_region_quiet_below (by kernel_rfl) (by kernel_rfl) ?_
  go_big_quiet_step (fail)
  go_big_quiet_step (fail)
  go_big_quiet_step (fail)
  go_big_quiet_step (fail)
  go_big_quiet_step (fail)
  go_big_quiet_step (fail)
  go_big_quiet_step (fail)
  go_big_quiet_step (fail)
  go_big_quiet_step (fail)
  go_big_quiet_step (fail)
  go_big_quiet_step (fail)
  go_big_quiet_step (fail)
  go_big_quiet_step (fail)
  go_big_quiet_step (fail)
  go_big_quiet_step (fail)
  go_big_quiet_step (fail)
  go_big_quiet_step (fail)
  go_big_quiet_step (fail)
  go_big_quiet_step (fail)
  go_big_quiet_step (fail)
  go_big_quiet_step (fail)
  go_big_quiet_step (fail)
  go_big_quiet_step (fail)
  refine wpQuiet_nil ?_
  rintro _ ⟨p, rfl⟩
  have hb := below_regrown W p.d p.os
  generalize grow (redrawn W p.d) p.os = w1 at *
  clear k0 k1 k2 k3
  replace hw := Below.after hw hb
  clear hb

  go_wp2
  go_ret
  exact ⟨rfl, hw⟩
theorem bound_at {l : List Int} (hz : ∀ z ∈ l, 0 ≤ z ∧ z < 256) (j : Nat) (hj : j < l.length) : 0 ≤ l.getD j 0 ∧ l.getD j 0 < 256 := by
  apply hz
  rw [List.getD_eq_getElem?_getD, List.getElem?_eq_getElem hj]
  exact List.getElem_mem _
theorem slice4 (g k : Nat) (hk : k < 16) (W : World) : (Instr.sliceAt 68 (.pointer (some ⟨g, 0, none⟩)) (some (.int .i64 (4 * (k : Int)))) (some (.int .i64 (4 * (k : Int) + 4))) (some (.int .i64 (4 * (k : Int) + 4)))).run Tryd.prog W = .ok (.slice (some ⟨g, 4 * k, none⟩) 4 4) W := by
  have ht : Tryd.prog.underlying 68 = some (.array (Tryd.prog.arrayLen 68) (Tryd.prog.elem 68)) := by kernel_rfl
  have hn : Tryd.prog.arrayLen 68 = 64 := by kernel_rfl
  have hs : (sizeOf (Tryd.prog.elem 68)).run Tryd.prog W = .ok 1 W := by kernel_rfl
  rw [run_sliceAt_array_lhm W _ _ ht .i64 .i64 .i64 _ _ _ (by omega) (by omega) (by omega) (by rw [hn]; omega), hs]
  show Result.ok (slicedAt _ _ _ _ 1) W = _
  have e1 : (4 * (k : Int)).toNat = 4 * k := by omega
  have e2 : (4 * (k : Int) + 4).toNat = 4 * k + 4 := by omega
  rw [e1, e2, slicedAt, if_neg (by omega), addr_add]
  simp
theorem info57 (W : Nat → Int) (t : Nat) : (Tryd.prog.info? 119).map (·.size) = some (irow .u32 (prt W t)).size := by
  rw [irow_size, prt_len]; kernel_rfl
theorem fit57 (W V : Nat → Int) (t u : Nat) : (irow .u32 (prt W t)).size = (irow .u32 (prt V u)).size := by
  rw [irow_size, irow_size, prt_len, prt_len]
set_option maxRecDepth 100000 in
set_option maxHeartbeats 4000000 in
theorem a_spread (l : List Int) (hl : l.length = 64) (hz : ∀ z ∈ l, 0 ≤ z ∧ z < 256) : Gives 89 #[.agg (irow .u8 l)] (.agg (irow .u32 (prt (wds l) 64))) := by
  intro w
  have R0 := hp3_0 w (.cells (irow .u8 l) 68) (.cells (irow .u32 (zr 64)) 119) (.cells (irow .u32 (zr 64)) 119)
  have R1 := hp3_1 w (.cells (irow .u8 l) 68) (.cells (irow .u32 (zr 64)) 119) (.cells (irow .u32 (zr 64)) 119)
  have R2 := hp3_2 w (.cells (irow .u8 l) 68) (.cells (irow .u32 (zr 64)) 119) (.cells (irow .u32 (zr 64)) 119)
  have HW : Below w.heap.size w (((w.alloc (.cells (irow .u8 l) 68)).alloc (.cells (irow .u32 (zr 64)) 119)).alloc (.cells (irow .u32 (zr 64)) 119)) := ((((Below.refl _ _).alloc (Nat.le_refl _) _).alloc (by simp) _).alloc (by simp; omega) _)

  go_enter Tryd.func89, Tryd.ntmps89
  go_wp2_with (first | (refine wpList_box rfl 68 _ rfl _ rfl (b24 _) ?_) | (refine wpList_alloc rfl 119 rfl (irow .u32 (zr 64)) z57 ?_) | fail)
  generalize (((w.alloc (.cells (irow .u8 l) 68)).alloc (.cells (irow .u32 (zr 64)) 119)).alloc (.cells (irow .u32 (zr 64)) 119)) = w0 at *
  rw [← prt_zero (wds l)] at R1 R2
  go_loopw [10] (fun i wr => ∃ k : Nat, k ≤ 16 ∧ i = .int .i64 k ∧ wr.heap[w.heap.size]? = some (.cells (irow .u8 l) 68 (0, 0)) ∧ wr.heap[w.heap.size + 1]? = some (.cells (irow .u32 (prt (wds l) 0)) 119 (0, 0)) ∧ wr.heap[w.heap.size + 1 + 1]? = some (.cells (irow .u32 (prt (wds l) k)) 119 (0, 0)) ∧ Below w.heap.size w wr) (fun i _ => 16 - (intOf i).toNat)
  case atStart => exact ⟨0, by omega, rfl, R0, R1, R2, HW⟩
  case round =>
    clear R0 R1 R2 HW
    obtain ⟨k, hk, rfl, r0, r1, r2, hw⟩ := hrel
    by_cases hlt : k < 16
    · have hd : decide ((k : Int) < 16) = true := by simp; omega
      have c0 := irow_cell r0 (j := 4 * k + 0) (by omega)
      have c1 := irow_cell r0 (j := 4 * k + 1) (by omega)
      have c2 := irow_cell r0 (j := 4 * k + 2) (by omega)
      have c3 := irow_cell r0 (j := 4 * k + 3) (by omega)
      have b0 := bound_at hz (4 * k) (by omega)
      have b1 := bound_at hz (4 * k + 1) (by omega)
      have b2 := bound_at hz (4 * k + 2) (by omega)
      have b3 := bound_at hz (4 * k + 3) (by omega)
      have hsl := slice4 w.heap.size k hlt wr
      have hcall := fun cap => a_word _ (4 * k) cap _ _ _ _ wr b0 b1 b2 b3 c0 c1 c2 c3
      have e : w4 (l.getD (4 * k) 0) (l.getD (4 * k + 1) 0) (l.getD (4 * k + 2) 0) (l.getD (4 * k + 3) 0) = wds l k := by rw [wds_lo _ hlt]; rfl
      rw [e] at hcall
      clear e b0 b1 b2 b3 c0 c1 c2 c3
      have hset := prt_set (wds l) k (by omega)
      have hpl := prt_len (wds l) k
      generalize wds l k = z at *
      go_wp2_with (fail)
      refine (hcall _).mono ?_
      rintro e w1 ⟨rfl, hb⟩
      replace r0 := keep hb r0
      replace r1 := keep hb r1
      replace r2 := keep hb r2
      replace hw := Below.after hw hb
      have cz := irow_cell r2 (j := k) (by omega)
      have hf := row_frozen r2 k
      clear hcall hb
      go_wp2
      go_roundw
      case rel => exact ⟨k + 1, by omega, by go_num, heap_other r0 (by omega), heap_other r1 (by omega), by rw [← hset]; exact irow_set r2 k z, hw.setCell (show w.heap.size ≤ w.heap.size + 1 + 1 by omega) _⟩
      case measure => simp [intOf]; omega
    · obtain rfl : k = 16 := by omega
      have hd : decide ((16 : Int) < 16) = false := by decide
      go_wp2
      go_loopw [5] (fun i wr => ∃ k : Nat, 16 ≤ k ∧ k ≤ 64 ∧ i = .int .i64 k ∧ wr.heap[w.heap.size]? = some (.cells (irow .u8 l) 68 (0, 0)) ∧ wr.heap[w.heap.size + 1]? = some (.cells (irow .u32 (prt (wds l) 0)) 119 (0, 0)) ∧ wr.heap[w.heap.size + 1 + 1]? = some (.cells (irow .u32 (prt (wds l) k)) 119 (0, 0)) ∧ Below w.heap.size w wr) (fun i _ => 64 - (intOf i).toNat)
      case atStart => exact ⟨16, by omega, by omega, rfl, r0, r1, r2, hw⟩
      case round =>
        clear r0 r1 r2 hw hd
        obtain ⟨k, hk0, hk, rfl, r0, r1, r2, hw⟩ := hrel
        by_cases hlt : k < 64
        · have hd : decide ((k : Int) < 64) = true := by simp; omega
          have d15 := irow_cell r2 (j := k - 15) (by rw [prt_len]; omega)
          have d2 := irow_cell r2 (j := k - 2) (by rw [prt_len]; omega)
          rw [prt_get _ _ (by omega) (by omega)] at d15 d2
          have c7 := a_right (wds l (k - 15)) 7 (by decide) (by decide)
          have c18 := a_right (wds l (k - 15)) 18 (by decide) (by decide)
          have c17 := a_right (wds l (k - 2)) 17 (by decide) (by decide)
          have c19 := a_right (wds l (k - 2)) 19 (by decide) (by decide)
          have hset := prt_set (wds l) k (by omega)
          have hpl := prt_len (wds l) k
          have e := wds_hi l (t := k) (by omega)
          have e7 := prt_get (wds l) k (j := k - 7) (by omega) (by omega)
          have e16 := prt_get (wds l) k (j := k - 16) (by omega) (by omega)
          unfold lo0 lo1 at e
          generalize rot (wds l (k - 15)) 7 = q7 at *
          generalize rot (wds l (k - 15)) 18 = q18 at *
          generalize rot (wds l (k - 2)) 17 = q17 at *
          generalize rot (wds l (k - 2)) 19 = q19 at *
          generalize wds l (k - 15) = x15 at *
          generalize wds l (k - 2) = x2 at *
          generalize wds l (k - 7) = x7 at *
          generalize wds l (k - 16) = x16 at *
          generalize wds l k = z at *
          replace e := hide e
          replace hset := hide hset
          go_wp2
          have k15 : ∀ p : Regrown, (grow (redrawn wr p.d) p.os).cell? ⟨w.heap.size + 1 + 1, k - 15, none⟩ = some (.int .u32 x15) := fun p => cell_regrown (d15) p.d p.os
          have k2 : ∀ p : Regrown, (grow (redrawn wr p.d) p.os).cell? ⟨w.heap.size + 1 + 1, k - 2, none⟩ = some (.int .u32 x2) := fun p => cell_regrown (d2) p.d p.os
          refine wp_region_quiet_below (by kernel_rfl) (by kernel_rfl) ?_
          go_big_quiet_step (fail)
          go_big_quiet_step (fail)
          go_big_quiet_step (fail)
          go_big_quiet_step (fail)
          go_big_quiet_step (fail)
          go_big_quiet_step (fail)
          go_big_quiet_step (fail)
          go_big_quiet_step (fail)
          go_big_quiet_step (fail)
          go_big_quiet_step (fail)
          refine wpQuiet_nil ?_
          rintro _ ⟨p, rfl⟩
          have hb := below_regrown wr p.d p.os
          generalize grow (redrawn wr p.d) p.os = w1 at *
          clear k15 k2
          replace r0 := keep hb r0
          replace r1 := keep hb r1
          replace r2 := keep hb r2
          replace hw := Below.after hw hb
          clear hb

          go_wp2_with (fail)
          refine (c7.at _).mono ?_
          rintro e_ w2 ⟨rfl, hb⟩
          replace r0 := keep hb r0
          replace r1 := keep hb r1
          replace r2 := keep hb r2
          replace hw := Below.after hw hb
          clear hb

          go_wp2_with (fail)
          refine (c18.at _).mono ?_
          rintro e_ w3 ⟨rfl, hb⟩
          replace r0 := keep hb r0
          replace r1 := keep hb r1
          replace r2 := keep hb r2
          replace hw := Below.after hw hb
          clear hb

          go_wp2_with (fail)
          refine (c17.at _).mono ?_
          rintro e_ w4_ ⟨rfl, hb⟩
          replace r0 := keep hb r0
          replace r1 := keep hb r1
          replace r2 := keep hb r2
          replace hw := Below.after hw hb
          clear hb

          go_wp2_with (fail)
          refine (c19.at _).mono ?_
          rintro e_ w5 ⟨rfl, hb⟩
          replace r0 := keep hb r0
          replace r1 := keep hb r1
          replace r2 := keep hb r2
          replace hw := Below.after hw hb
          clear hb

          have d7 := irow_cell r2 (j := k - 7) (by omega)
          have d16 := irow_cell r2 (j := k - 16) (by omega)
          rw [e7] at d7
          rw [e16] at d16
          clear e7 e16
          go_wp2
          have k7 : ∀ p : Regrown, (grow (redrawn w5 p.d) p.os).cell? ⟨w.heap.size + 1 + 1, k - 7, none⟩ = some (.int .u32 x7) := fun p => cell_regrown (d7) p.d p.os
          have k16 : ∀ p : Regrown, (grow (redrawn w5 p.d) p.os).cell? ⟨w.heap.size + 1 + 1, k - 16, none⟩ = some (.int .u32 x16) := fun p => cell_regrown (d16) p.d p.os
          refine wp_region_tail (C := fun w' => ∃ p : Regrown, w' = grow (redrawn w5 p.d) p.os) 15 _ rfl rfl rfl (by kernel_rfl) (by kernel_rfl) (by kernel_rfl) (by kernel_rfl) ⟨⟨w5.drawn + 1, #[]⟩, by rw [grow_empty]; rfl⟩ ?_
          dsimp only [List.set, idle]
          go_big_quiet_step (fail)
          go_big_quiet_step (fail)
          go_big_quiet_step (fail)
          go_big_quiet_step (fail)
          go_big_quiet_step (fail)
          go_big_quiet_step (fail)
          go_big_quiet_step (fail)
          go_big_quiet_step (fail)
          go_big_quiet_step (fail)
          go_big_quiet_step (fail)
          go_big_quiet_step (fail)
          go_big_quiet_step (fail)
          go_big_quiet_step (fail)
          go_big_quiet_step (fail)
          go_big_quiet_step (fail)
          refine wpQuiet_idle rfl rfl rfl ?_
          rintro _ ⟨p, rfl⟩
          have hb := below_regrown w5 p.d p.os
          generalize grow (redrawn w5 p.d) p.os = w6 at *
          clear k7 k16
          replace r0 := keep hb r0
          replace r1 := keep hb r1
          replace r2 := keep hb r2
          replace hw := Below.after hw hb
          clear hb

          have cz := irow_cell r2 (j := k) (by omega)
          have hf := row_frozen r2 k
          go_wp2
          refine ⟨?_, ?measure⟩
          apply Exists.intro
          apply Exists.intro
          repeat apply Exists.intro
          refine ⟨?rel, rfl⟩
          case rel => exact ⟨k + 1, by omega, by omega, by go_num, heap_other r0 (by omega), heap_other r1 (by omega), by rw [← hset.out, e.out]; exact irow_set r2 k _, hw.setCell (show w.heap.size ≤ w.heap.size + 1 + 1 by omega) _⟩
          case measure => simp [intOf]; omega
        · obtain rfl : k = 64 := by omega
          have hd : decide ((64 : Int) < 64) = false := by decide
          go_wp2_with (first | (refine wpList_load_want rfl 119 _ rfl (w.heap.size + 1 + 1) rfl 119 (irow .u32 (prt (wds l) 64)) (0, 0) _ r2 Tryd.underlying119 rfl (info57 _ _) ?_) | (refine wpList_store_row rfl 119 _ _ rfl (w.heap.size + 1) (irow .u32 (prt (wds l) 64)) rfl rfl 119 _ r1 (info57 _ _) (fit57 _ _ _ _) (irow_one _ _) ?_) | fail)
          replace r1 := setRow_heap wr (w.heap.size + 1) _ (irow .u32 (prt (wds l) 64)) _ _ r1
          replace hw := below_setRow hw (show w.heap.size ≤ w.heap.size + 1 by omega) (irow .u32 (prt (wds l) 64))
          generalize wr.setRow (w.heap.size + 1) (irow .u32 (prt (wds l) 64)) = w9 at *
          exact bodyPost_ret (v := .agg (irow .u32 (prt (wds l) 64))) (results_cell_row Tryd.results89 _ _ (w.heap.size + 1) _ _ _ _ rfl r1 Tryd.underlying119 rfl (info57 _ _)) rfl ⟨rfl, hw⟩

end Go.Proofs.YtamieopjigjfiaaDoor


namespace Go.Proofs.YtamieopjigjfiaaDoor
set_option maxRecDepth 100000
open Go Go.RowKit Go.Sort
attribute [local go_sem] setCell_drewN alloc_drewN

/-- The constants; the start. -/
def kl : List Int := [1116352408, 1899447441, 3049323471, 3921009573, 961987163, 1508970993, 2453635748, 2870763221, 3624381080, 310598401, 607225278, 1426881987, 1925078388, 2162078206, 2614888103, 3248222580, 3835390401, 4022224774, 264347078, 604807628, 770255983, 1249150122, 1555081692, 1996064986, 2554220882, 2821834349, 2952996808, 3210313671, 3336571891, 3584528711, 113926993, 338241895, 666307205, 773529912, 1294757372, 1396182291, 1695183700, 1986661051, 2177026350, 2456956037, 2730485921, 2820302411, 3259730800, 3345764771, 3516065817, 3600352804, 4094571909, 275423344, 430227734, 506948616, 659060556, 883997877, 958139571, 1322822218, 1537002063, 1747873779, 1955562222, 2024104815, 2227730452, 2361852424, 2428436474, 2756734187, 3204031479, 3329325298]
def sl : List Int := [1779033703, 3144134277, 1013904242, 2773480762, 1359893119, 2600822924, 528734635, 1541459225]
/-- What the package variables hold. -/
def Kon (W : World) : Prop := ∃ t fr, W.heap[1]? = some (.cells (irow .u32 kl) t fr)
def Sta (W : World) : Prop := ∃ t fr, W.heap[0]? = some (.cells (irow .u32 sl) t fr)
theorem Kon.sz {W : World} (h : Kon W) : 1 < W.heap.size := by obtain ⟨_, _, h⟩ := h; exact (Array.getElem?_eq_some_iff.1 h).1
theorem Kon.belowN {W W' : World} {n : Nat} (h : Kon W) (hn : 1 < n) (hb : Below n W W') : Kon W' := by obtain ⟨t, fr, h⟩ := h; exact ⟨t, fr, (hb.block 1 hn).trans h⟩
theorem Kon.below {W W' : World} (h : Kon W) (hb : Below W.heap.size W W') : Kon W' := h.belowN h.sz hb
theorem Sta.sz {W : World} (h : Sta W) : 0 < W.heap.size := by obtain ⟨_, _, h⟩ := h; exact (Array.getElem?_eq_some_iff.1 h).1
theorem Sta.belowN {W W' : World} {n : Nat} (h : Sta W) (hn : 0 < n) (hb : Below n W W') : Sta W' := by obtain ⟨t, fr, h⟩ := h; exact ⟨t, fr, (hb.block 0 hn).trans h⟩
theorem Sta.below {W W' : World} (h : Sta W) (hb : Below W.heap.size W W') : Sta W' := h.belowN h.sz hb
theorem Kon.cell {W : World} (h : Kon W) (j : Nat) (hj : j < 64) : W.cell? ⟨1, j, none⟩ = some (.int .u32 (kl.getD j 0)) := by
  obtain ⟨t, fr, h⟩ := h
  rw [cell_of_row _ _ _ _ _ _ h]
  exact irow_get _ _ _ hj
/-- A call where the constants lie. -/
def Gives1 (f : FuncId) (args : Array Value) (v : Value) : Prop := ∀ W, Kon W → Calls Tryd.prog f args W fun e w' => e = .returned v ∧ Below W.heap.size W w'
theorem Gives1.at {f : FuncId} {args : Array Value} {v : Value} (h : Gives1 f args v) {W : World} (hW : Kon W) : Calls Tryd.prog f args W fun e w' => e = .returned v ∧ Below W.heap.size W w' := h W hW
theorem Gives1.re {f : FuncId} {args : Array Value} {v : Value} (h : Gives1 f args v) {w : World} {d : Nat} {os : Array Obj} (hw : Kon w) : Calls Tryd.prog f args (grow (redrawn w d) os) fun e w'' => e = .returned v ∧ ∃ p : Regrown, w'' = grow (redrawn w p.d) p.os := Calls.regrown_of (h _ (hw.below (below_regrown w d os)))

/-- Eight words. -/
structure St8 where
  (a b c d e f g h : Int)
def notx (x : Int) : Int := bits .xor .u32 IntKind.u32.max x
def one1 (k w : Int) (s : St8) : Int := (s.h + up1 s.e + bits .xor .u32 (bits .and .u32 s.e s.f) (bits .and .u32 (notx s.e) s.g) + k + w) % 4294967296
def two2 (s : St8) : Int := (up0 s.a + bits .xor .u32 (bits .xor .u32 (bits .and .u32 s.a s.b) (bits .and .u32 s.a s.c)) (bits .and .u32 s.b s.c)) % 4294967296
def rnd (k w : Int) (s : St8) : St8 := ⟨(one1 k w s + two2 s) % 4294967296, s.a, s.b, s.c, (s.d + one1 k w s) % 4294967296, s.e, s.f, s.g⟩
def st0 (h : List Int) : St8 := ⟨h.getD 0 0, h.getD 1 0, h.getD 2 0, h.getD 3 0, h.getD 4 0, h.getD 5 0, h.getD 6 0, h.getD 7 0⟩
def rs (h : List Int) (W : Nat → Int) : Nat → St8
  | 0 => st0 h
  | t + 1 => rnd (kl.getD t 0) (W t) (rs h W t)
def St8.list (s : St8) : List Int := [s.a, s.b, s.c, s.d, s.e, s.f, s.g, s.h]
set_option maxRecDepth 100000 in
set_option maxHeartbeats 4000000 in
theorem a_mixed (h : List Int) (hl : h.length = 8) (W : Nat → Int) : Gives1 88 #[.agg (irow .u32 h), .agg (irow .u32 (prt W 64))] (.agg (irow .u32 (rs h W 64).list)) := by
  intro w hK
  have R0 := hp3_0 w (.cells (irow .u32 h) 71) (.cells (irow .u32 (prt W 64)) 119) (.cells (irow .u32 (zr 8)) 71)
  have R1 := hp3_1 w (.cells (irow .u32 h) 71) (.cells (irow .u32 (prt W 64)) 119) (.cells (irow .u32 (zr 8)) 71)
  have R2 := hp3_2 w (.cells (irow .u32 h) 71) (.cells (irow .u32 (prt W 64)) 119) (.cells (irow .u32 (zr 8)) 71)
  have HW : Below w.heap.size w (((w.alloc (.cells (irow .u32 h) 71)).alloc (.cells (irow .u32 (prt W 64)) 119)).alloc (.cells (irow .u32 (zr 8)) 71)) := ((((Below.refl _ _).alloc (Nat.le_refl _) _).alloc (by simp) _).alloc (by simp; omega) _)

  have f4 := hK.below HW
  clear hK
  go_enter Tryd.func88, Tryd.ntmps88
  go_wp2_with (first | (refine wpList_box rfl 71 _ rfl _ rfl (b23 _) ?_) | (refine wpList_box rfl 119 _ rfl _ rfl (b57 _) ?_) | (refine wpList_alloc rfl 71 rfl (irow .u32 (zr 8)) z23 ?_) | fail)
  simp only [size_alloc1, Act.put, List.setIfInBounds_toArray, List.set_cons_succ, List.set_cons_zero]
  generalize (((w.alloc (.cells (irow .u32 h) 71)).alloc (.cells (irow .u32 (prt W 64)) 119)).alloc (.cells (irow .u32 (zr 8)) 71)) = w0 at *
  have d0 := irow_cell R0 (j := 0) (by omega)
  have d1 := irow_cell R0 (j := 1) (by omega)
  have d2 := irow_cell R0 (j := 2) (by omega)
  have d3 := irow_cell R0 (j := 3) (by omega)
  have d4 := irow_cell R0 (j := 4) (by omega)
  have d5 := irow_cell R0 (j := 5) (by omega)
  have d6 := irow_cell R0 (j := 6) (by omega)
  have d7 := irow_cell R0 (j := 7) (by omega)
  have hst : rs h W 0 = st0 h := rfl
  unfold st0 at hst
  generalize h.getD 0 0 = z0 at *
  generalize h.getD 1 0 = z1 at *
  generalize h.getD 2 0 = z2 at *
  generalize h.getD 3 0 = z3 at *
  generalize h.getD 4 0 = z4 at *
  generalize h.getD 5 0 = z5 at *
  generalize h.getD 6 0 = z6 at *
  generalize h.getD 7 0 = z7 at *
  replace hst := hide hst
  have k0 : ∀ p : Regrown, (grow (redrawn w0 p.d) p.os).cell? ⟨w.heap.size, 0, none⟩ = some (.int .u32 z0) := fun p => cell_regrown (d0) p.d p.os
  have k1 : ∀ p : Regrown, (grow (redrawn w0 p.d) p.os).cell? ⟨w.heap.size, 1, none⟩ = some (.int .u32 z1) := fun p => cell_regrown (d1) p.d p.os
  have k2 : ∀ p : Regrown, (grow (redrawn w0 p.d) p.os).cell? ⟨w.heap.size, 2, none⟩ = some (.int .u32 z2) := fun p => cell_regrown (d2) p.d p.os
  have k3 : ∀ p : Regrown, (grow (redrawn w0 p.d) p.os).cell? ⟨w.heap.size, 3, none⟩ = some (.int .u32 z3) := fun p => cell_regrown (d3) p.d p.os
  have k4 : ∀ p : Regrown, (grow (redrawn w0 p.d) p.os).cell? ⟨w.heap.size, 4, none⟩ = some (.int .u32 z4) := fun p => cell_regrown (d4) p.d p.os
  have k5 : ∀ p : Regrown, (grow (redrawn w0 p.d) p.os).cell? ⟨w.heap.size, 5, none⟩ = some (.int .u32 z5) := fun p => cell_regrown (d5) p.d p.os
  have k6 : ∀ p : Regrown, (grow (redrawn w0 p.d) p.os).cell? ⟨w.heap.size, 6, none⟩ = some (.int .u32 z6) := fun p => cell_regrown (d6) p.d p.os
  have k7 : ∀ p : Regrown, (grow (redrawn w0 p.d) p.os).cell? ⟨w.heap.size, 7, none⟩ = some (.int .u32 z7) := fun p => cell_regrown (d7) p.d p.os
  refine wp_region_quiet_below (by kernel_rfl) (by kernel_rfl) ?_
  go_big_quiet_step (fail)
  go_big_quiet_step (fail)
  go_big_quiet_step (fail)
  go_big_quiet_step (fail)
  go_big_quiet_step (fail)
  go_big_quiet_step (fail)
  go_big_quiet_step (fail)
  go_big_quiet_step (fail)
  go_big_quiet_step (fail)
  go_big_quiet_step (fail)
  go_big_quiet_step (fail)
  go_big_quiet_step (fail)
  go_big_quiet_step (fail)
  go_big_quiet_step (fail)
  go_big_quiet_step (fail)
  go_big_quiet_step (fail)
  go_big_quiet_step (fail)
  go_big_quiet_step (fail)
  go_big_quiet_step (fail)
  go_big_quiet_step (fail)
  go_big_quiet_step (fail)
  go_big_quiet_step (fail)
  go_big_quiet_step (fail)
  go_big_quiet_step (fail)
  refine wpQuiet_nil ?_
  rintro _ ⟨p, rfl⟩
  have hb := below_regrown w0 p.d p.os
  generalize grow (redrawn w0 p.d) p.os = w1 at *
  clear k0 k1 k2 k3 k4 k5 k6 k7
  replace R1 := keep hb R1
  replace R2 := keep hb R2
  replace f4 := f4.below hb
  replace HW := Below.after HW hb
  clear hb

  clear d0 d1 d2 d3 d4 d5 d6 d7 R0
  go_wp2
  go_loopw [5, 6, 7, 8, 9, 10, 11, 12, 34] (fun va vb vc vd ve vf vg vh i wr => ∃ k : Nat, k ≤ 64 ∧ i = .int .i64 k ∧ va = .int .u32 (rs h W k).a ∧ vb = .int .u32 (rs h W k).b ∧ vc = .int .u32 (rs h W k).c ∧ vd = .int .u32 (rs h W k).d ∧ ve = .int .u32 (rs h W k).e ∧ vf = .int .u32 (rs h W k).f ∧ vg = .int .u32 (rs h W k).g ∧ vh = .int .u32 (rs h W k).h ∧ wr.heap[w.heap.size + 1]? = some (.cells (irow .u32 (prt W 64)) 119 (0, 0)) ∧ wr.heap[w.heap.size + 1 + 1]? = some (.cells (irow .u32 (zr 8)) 71 (0, 0)) ∧ Kon wr ∧ Below w.heap.size w wr) (fun _ _ _ _ _ _ _ _ i _ => 64 - (intOf i).toNat)
  case atStart => exact ⟨0, by omega, rfl, by rw [hst.out], by rw [hst.out], by rw [hst.out], by rw [hst.out], by rw [hst.out], by rw [hst.out], by rw [hst.out], by rw [hst.out], R1, R2, f4, HW⟩
  case round =>
    clear R1 R2 HW f4 hst
    obtain ⟨k, hk, rfl, rfl, rfl, rfl, rfl, rfl, rfl, rfl, rfl, r1, r2, f4, hw⟩ := hrel
    by_cases hlt : k < 64
    · have hd : decide ((k : Int) < 64) = true := by simp; omega
      have hn : rs h W (k + 1) = rnd (kl.getD k 0) (W k) (rs h W k) := rfl
      generalize rs h W k = sk at *
      obtain ⟨a, b, c, d, e, f, g, x⟩ := sk
      dsimp only at *
      have c6 := a_right e 6 (by decide) (by decide)
      have c11 := a_right e 11 (by decide) (by decide)
      have c25 := a_right e 25 (by decide) (by decide)
      have c2 := a_right a 2 (by decide) (by decide)
      have c13 := a_right a 13 (by decide) (by decide)
      have c22 := a_right a 22 (by decide) (by decide)
      simp only [rnd, one1, two2, up0, up1, notx] at hn
      generalize rot e 6 = q6 at *
      generalize rot e 11 = q11 at *
      generalize rot e 25 = q25 at *
      generalize rot a 2 = q2 at *
      generalize rot a 13 = q13 at *
      generalize rot a 22 = q22 at *
      replace hn := hide hn
      go_wp2_with (fail)
      refine (c6.at _).mono ?_
      rintro e_ w2 ⟨rfl, hb⟩
      replace r1 := keep hb r1
      replace r2 := keep hb r2
      replace f4 := f4.below hb
      replace hw := Below.after hw hb
      clear hb

      go_wp2_with (fail)
      refine (c11.at _).mono ?_
      rintro e_ w3 ⟨rfl, hb⟩
      replace r1 := keep hb r1
      replace r2 := keep hb r2
      replace f4 := f4.below hb
      replace hw := Below.after hw hb
      clear hb

      go_wp2_with (fail)
      refine (c25.at _).mono ?_
      rintro e_ w4_ ⟨rfl, hb⟩
      replace r1 := keep hb r1
      replace r2 := keep hb r2
      replace f4 := f4.below hb
      replace hw := Below.after hw hb
      clear hb

      have dk := f4.cell k hlt
      have dw := irow_cell r1 (j := k) (by rw [prt_len]; omega)
      rw [prt_get _ _ hlt hlt] at dw
      generalize kl.getD k 0 = K at *
      generalize W k = wk at *
      go_wp2
      have k0 : ∀ p : Regrown, (grow (redrawn w4_ p.d) p.os).cell? ⟨1, k, none⟩ = some (.int .u32 K) := fun p => cell_regrown (dk) p.d p.os
      have k1 : ∀ p : Regrown, (grow (redrawn w4_ p.d) p.os).cell? ⟨w.heap.size + 1, k, none⟩ = some (.int .u32 wk) := fun p => cell_regrown (dw) p.d p.os
      refine wp_region_quiet_below (by kernel_rfl) (by kernel_rfl) ?_
      go_big_quiet_step (fail)
      go_big_quiet_step (fail)
      go_big_quiet_step (fail)
      go_big_quiet_step (fail)
      go_big_quiet_step (fail)
      go_big_quiet_step (fail)
      go_big_quiet_step (fail)
      go_big_quiet_step (fail)
      go_big_quiet_step (fail)
      go_big_quiet_step (fail)
      go_big_quiet_step (fail)
      go_big_quiet_step (fail)
      go_big_quiet_step (fail)
      go_big_quiet_step (fail)
      go_big_quiet_step (fail)
      go_big_quiet_step (fail)
      go_big_quiet_step (fail)
      go_big_quiet_step (fail)
      go_big_quiet_step (fail)
      go_big_quiet_step (fail)
      go_big_quiet_step (fail)
      refine wpQuiet_nil ?_
      rintro _ ⟨p, rfl⟩
      have hb := below_regrown w4_ p.d p.os
      generalize grow (redrawn w4_ p.d) p.os = w5 at *
      clear k0 k1
      replace r1 := keep hb r1
      replace r2 := keep hb r2
      replace f4 := f4.below hb
      replace hw := Below.after hw hb
      clear hb

      clear dk dw
      go_wp2_with (fail)
      refine (c2.at _).mono ?_
      rintro e_ w6 ⟨rfl, hb⟩
      replace r1 := keep hb r1
      replace r2 := keep hb r2
      replace f4 := f4.below hb
      replace hw := Below.after hw hb
      clear hb

      go_wp2_with (fail)
      refine (c13.at _).mono ?_
      rintro e_ w7 ⟨rfl, hb⟩
      replace r1 := keep hb r1
      replace r2 := keep hb r2
      replace f4 := f4.below hb
      replace hw := Below.after hw hb
      clear hb

      go_wp2_with (fail)
      refine (c22.at _).mono ?_
      rintro e_ w8 ⟨rfl, hb⟩
      replace r1 := keep hb r1
      replace r2 := keep hb r2
      replace f4 := f4.below hb
      replace hw := Below.after hw hb
      clear hb

      go_wp2
      refine ⟨?rel, ?measure⟩
      case rel =>
        refine ⟨k + 1, by omega, by go_num, ?_, ?_, ?_, ?_, ?_, ?_, ?_, ?_, r1, r2, f4, hw⟩
        all_goals (rw [hn.out])
      case measure => simp [intOf]; omega
    · obtain rfl : k = 64 := by omega
      have hd : decide ((64 : Int) < 64) = false := by decide
      have hfin : irow .u32 (rs h W 64).list = (irow .u32 [(rs h W 64).a, (rs h W 64).b, (rs h W 64).c, (rs h W 64).d, (rs h W 64).e, (rs h W 64).f, (rs h W 64).g, (rs h W 64).h]) := rfl
      have hi8 : (Tryd.prog.info? 71).map (·.size) = some ((irow .u32 [(rs h W 64).a, (rs h W 64).b, (rs h W 64).c, (rs h W 64).d, (rs h W 64).e, (rs h W 64).f, (rs h W 64).g, (rs h W 64).h]) : Array Value).size := by kernel_rfl
      generalize (rs h W 64).a = za at *
      generalize (rs h W 64).b = zb at *
      generalize (rs h W 64).c = zc at *
      generalize (rs h W 64).d = zd at *
      generalize (rs h W 64).e = ze at *
      generalize (rs h W 64).f = zf at *
      generalize (rs h W 64).g = zg at *
      generalize (rs h W 64).h = zh at *
      replace hfin := hide hfin
      go_wp2_with (first | (refine wpList_store_row rfl 71 _ _ rfl (w.heap.size + 1 + 1) (irow .u32 [za, zb, zc, zd, ze, zf, zg, zh]) rfl rfl 71 _ r2 hi8 (by rw [irow_size, irow_size]; rfl) (irow_one _ _) ?_) | fail)
      replace r2 := setRow_heap wr (w.heap.size + 1 + 1) _ (irow .u32 [za, zb, zc, zd, ze, zf, zg, zh]) _ _ r2
      replace hw := below_setRow hw (show w.heap.size ≤ w.heap.size + 1 + 1 by omega) (irow .u32 [za, zb, zc, zd, ze, zf, zg, zh])
      generalize wr.setRow (w.heap.size + 1 + 1) (irow .u32 [za, zb, zc, zd, ze, zf, zg, zh]) = w9 at *
      exact bodyPost_ret (v := .agg (irow .u32 [za, zb, zc, zd, ze, zf, zg, zh])) (results_cell_row Tryd.results88 _ _ (w.heap.size + 1 + 1) _ _ _ _ rfl r2 Tryd.underlying71 rfl hi8) rfl ⟨by rw [hfin.out], hw⟩

end Go.Proofs.YtamieopjigjfiaaDoor


namespace Go.Proofs.YtamieopjigjfiaaDoor
set_option maxRecDepth 100000
open Go.ChangeShapes Go.WideShapes Go.ChangeAt Go.WideMaps Go.WideElems Go.RowKit

theorem gCon : Tryd.prog.globalNamed "pawl/hash.constants" = some 1 := by kernel_rfl
theorem tCon : (Tryd.prog.globals[1]?).map (·.type) = some 119 := by kernel_rfl
theorem gSta : Tryd.prog.globalNamed "pawl/hash.start" = some 0 := by kernel_rfl
theorem tSta : (Tryd.prog.globals[0]?).map (·.type) = some 71 := by kernel_rfl
theorem cU32 : Tryd.prog.cellsOf 70 = 1 := by kernel_rfl
theorem c57 : Tryd.prog.cellsOf 119 = 64 := by kernel_rfl
theorem c23 : Tryd.prog.cellsOf 71 = 8 := by kernel_rfl

/-- An array of integers that reads as a list of numbers. -/
theorem rowN_of {P : Program} {t e : TypeId} {n : Nat} {k : IntKind} (ht : P.underlying t = some (.array n e)) (he : P.underlying e = some (.int k)) (hce : P.cellsOf e = 1) (hct : P.cellsOf t = n) {W : World} {m : Nat} {cs : Array Value} {p : List MemPlace} {ks : List Int}
    (h : DataW.trod (fun _ => ()) P W 0 (fun _ => true) false m t cs.toList = some (.agg (ks.map fun x => .lit (.int k x)), p)) : cs = irow k ks := by
  obtain ⟨xs, m1, _, hx, hlen, hn, hel⟩ := DataW.trod_array ht h
  rw [hct] at hlen
  simp only [Prod.mk.injEq, DataW.agg.injEq] at hx
  have hk : ks.length = n := by
    have := congrArg List.length hx.1
    simp only [List.length_map] at this
    omega
  apply Array.ext'
  unfold irow
  apply List.ext_getElem
  · simp only [List.length_map]; omega
  · intro i h1 h2
    have hin : i < n := by omega
    have hx' : xs[i]? = some xs[i] := List.getElem?_eq_getElem (by omega)
    have e1 := hel i hin
    rw [hce, hx'] at e1
    obtain ⟨a, q0, q1, _⟩ := DataW.trod_int he e1
    simp only [Nat.mul_one] at q0
    rw [List.drop_eq_getElem_cons h1] at q0
    have q0' : cs.toList[i] = .int k a := by simpa using q0
    rw [q0']
    have hi := congrArg (fun l => l[i]?) hx.1
    simp only [List.getElem?_map, List.getElem?_eq_getElem (show i < ks.length by omega), hx', Option.map_some, Option.some.injEq] at hi
    rw [q1] at hi
    simp only [DataW.lit.injEq, Lit.int.injEq, true_and] at hi
    simp [hi]
theorem row_of_var {W : World} {s : String} {g : Nat} (hg : Tryd.prog.globalNamed s = some g) {cs : Array Value} (hv : World.var? Tryd.prog W s = some cs) : ∃ t fr, W.heap[g]? = some (.cells cs t fr) := by
  unfold World.var? at hv
  rw [hg] at hv
  simp only [Option.bind_some] at hv
  split at hv
  · rename_i cs' t fr hh
    obtain rfl := Option.some.inj hv
    exact ⟨t, fr, hh⟩
  · cases hv
theorem kon_of_laid {W : World} (h : laidMetH Tryd.prog [("pawl/hash.constants", Rows.laid_pawl_hash_constants)] W) : Kon W := by
  rw [MakeChecks.laidMetH_plain _ _ _ (by kernel_rfl)] at h
  obtain ⟨ps, ⟨g0, t0, cs0, f0, p0, q0, hg0, ht0, hv0, hd0, _⟩, _, _⟩ := h
  obtain rfl := Option.some.inj (gCon.symm.trans hg0)
  obtain rfl := Option.some.inj (tCon.symm.trans ht0)
  obtain rfl := rowN_of (ks := kl) Tryd.underlying119 Tryd.underlying70 cU32 c57 hd0
  exact row_of_var gCon hv0
theorem sta_of_laid {W : World} (h : laidMetH Tryd.prog [("pawl/hash.start", Rows.laid_pawl_hash_start), ("pawl/hash.constants", Rows.laid_pawl_hash_constants)] W) : Sta W ∧ Kon W := by
  rw [MakeChecks.laidMetH_plain _ _ _ (by kernel_rfl)] at h
  obtain ⟨ps, ⟨g0, t0, cs0, f0, p0, q0, hg0, ht0, hv0, hd0, ⟨g1, t1, cs1, f1, p1, q1, hg1, ht1, hv1, hd1, _⟩, _⟩, _, _⟩ := h
  obtain rfl := Option.some.inj (gSta.symm.trans hg0)
  obtain rfl := Option.some.inj (tSta.symm.trans ht0)
  obtain rfl := rowN_of (ks := sl) Tryd.underlying71 Tryd.underlying70 cU32 c23 hd0
  obtain rfl := Option.some.inj (gCon.symm.trans hg1)
  obtain rfl := Option.some.inj (tCon.symm.trans ht1)
  obtain rfl := rowN_of (ks := kl) Tryd.underlying119 Tryd.underlying70 cU32 c57 hd1
  exact ⟨row_of_var gSta hv0, row_of_var gCon hv1⟩
end Go.Proofs.YtamieopjigjfiaaDoor

namespace Go.Proofs.YtamieopjigjfiaaDoor
set_option maxRecDepth 100000
abbrev B := BitVec 8
/-- The double of a byte. -/
def dbl (a : B) : B := (a <<< 1) ^^^ ((a >>> 7) * 27#8)
def tmn : Nat → B → B → B
  | 0, _, _ => 0#8
  | n + 1, a, b => (if b.getLsbD 0 then a else 0#8) ^^^ tmn n (dbl a) (b >>> 1)
/-- The product. -/
def tm (a b : B) : B := tmn 8 a b
set_option maxRecDepth 100000 in
theorem all_b (p : B → Prop) (h : ∀ n < 256, p (BitVec.ofNat 8 n)) (a : B) : p a := by
  have := h a.toNat a.isLt
  rwa [BitVec.ofNat_toNat, BitVec.setWidth_eq] at this
theorem sel_xor (c d : Bool) (a : B) : (if (c ^^ d) then a else 0#8) = (if c then a else 0#8) ^^^ (if d then a else 0#8) := by
  cases c <;> cases d <;> simp
theorem xor4 (a b c d : B) : (a ^^^ b) ^^^ (c ^^^ d) = (a ^^^ c) ^^^ (b ^^^ d) := by ac_rfl
theorem tmn_add (n : Nat) : ∀ a b c, tmn n a (b ^^^ c) = tmn n a b ^^^ tmn n a c := by
  induction n with
  | zero => intro a b c; simp [tmn]
  | succ n ih =>
    intro a b c
    simp only [tmn, BitVec.getLsbD_xor, sel_xor, BitVec.ushiftRight_xor_distrib, ih]
    ac_rfl
theorem tm_add (a b c : B) : tm a (b ^^^ c) = tm a b ^^^ tm a c := tmn_add 8 a b c
theorem bits_of : ∀ x : B, x = (if x.getLsbD 0 then 1#8 else 0#8) ^^^ (if x.getLsbD 1 then 2#8 else 0#8) ^^^ (if x.getLsbD 2 then 4#8 else 0#8) ^^^ (if x.getLsbD 3 then 8#8 else 0#8) ^^^ (if x.getLsbD 4 then 16#8 else 0#8) ^^^ (if x.getLsbD 5 then 32#8 else 0#8) ^^^ (if x.getLsbD 6 then 64#8 else 0#8) ^^^ (if x.getLsbD 7 then 128#8 else 0#8) := by decide +kernel
def Add (f : B → B) : Prop := ∀ x y, f (x ^^^ y) = f x ^^^ f y
theorem Add.zero {f : B → B} (h : Add f) : f 0#8 = 0#8 := by
  have := h 0#8 0#8
  simpa using this
theorem Add.sel {f : B → B} (h : Add f) (c : Bool) (v : B) : f (if c then v else 0#8) = if c then f v else 0#8 := by
  cases c
  · simpa using h.zero
  · rfl
theorem lin_ext {f g : B → B} (hf : Add f) (hg : Add g) (h : ∀ i < 8, f (1#8 <<< i) = g (1#8 <<< i)) (x : B) : f x = g x := by
  have h0 : f 1#8 = g 1#8 := h 0 (by decide)
  have h1 : f 2#8 = g 2#8 := h 1 (by decide)
  have h2 : f 4#8 = g 4#8 := h 2 (by decide)
  have h3 : f 8#8 = g 8#8 := h 3 (by decide)
  have h4 : f 16#8 = g 16#8 := h 4 (by decide)
  have h5 : f 32#8 = g 32#8 := h 5 (by decide)
  have h6 : f 64#8 = g 64#8 := h 6 (by decide)
  have h7 : f 128#8 = g 128#8 := h 7 (by decide)
  rw [bits_of x]
  simp only [hf _ _, hg _ _, hf.sel, hg.sel, h0, h1, h2, h3, h4, h5, h6, h7]
theorem mul_sel : ∀ c : B, c < 2#8 → c * 27#8 = if c.getLsbD 0 then 27#8 else 0#8 := by decide +kernel
theorem shr7_lt : ∀ a : B, a >>> 7 < 2#8 := by decide +kernel
theorem dbl_add : Add dbl := by
  intro x y
  unfold dbl
  rw [mul_sel _ (shr7_lt _), mul_sel _ (shr7_lt _), mul_sel _ (shr7_lt _), BitVec.shiftLeft_xor_distrib, BitVec.ushiftRight_xor_distrib, BitVec.getLsbD_xor, sel_xor]
  ac_rfl
theorem tmn_add2 (n : Nat) : ∀ b, Add (fun a => tmn n a b) := by
  induction n with
  | zero => intro b x y; simp [tmn]
  | succ n ih =>
    intro b x y
    have h := ih (b >>> 1) (dbl x) (dbl y)
    simp only at h
    simp only [tmn, dbl_add x y, h]
    cases b.getLsbD 0 <;> simp <;> ac_rfl
theorem tm_add2 (b : B) : Add (fun a => tm a b) := tmn_add2 8 b
theorem tm_comm (a b : B) : tm a b = tm b a := by
  refine lin_ext (f := tm a) (g := fun b => tm b a) (tm_add a) (tm_add2 a) (fun i hi => ?_) b
  refine lin_ext (f := fun a => tm a (1#8 <<< i)) (g := tm (1#8 <<< i)) (tm_add2 _) (tm_add _) (fun j hj => ?_) a
  exact (by decide +kernel : ∀ i < 8, ∀ j < 8, tm (1#8 <<< j) (1#8 <<< i) = tm (1#8 <<< i) (1#8 <<< j)) i hi j hj
theorem Add.comp {f g : B → B} (hf : Add f) (hg : Add g) : Add (fun x => f (g x)) := fun x y => by
  show f (g (x ^^^ y)) = _
  rw [hg, hf]
theorem tm_assoc (a b c : B) : tm (tm a b) c = tm a (tm b c) := by
  refine lin_ext (f := fun c => tm (tm a b) c) (g := fun c => tm a (tm b c)) (tm_add _) (Add.comp (tm_add a) (tm_add b)) (fun i hi => ?_) c
  refine lin_ext (f := fun b => tm (tm a b) (1#8 <<< i)) (g := fun b => tm a (tm b (1#8 <<< i))) (Add.comp (tm_add2 _) (tm_add a)) (Add.comp (tm_add a) (tm_add2 _)) (fun j hj => ?_) b
  refine lin_ext (f := fun a => tm (tm a (1#8 <<< j)) (1#8 <<< i)) (g := fun a => tm a (tm (1#8 <<< j) (1#8 <<< i))) (Add.comp (tm_add2 _) (tm_add2 _)) (tm_add2 _) (fun k hk => ?_) a
  exact (by decide +kernel : ∀ i < 8, ∀ j < 8, ∀ k < 8, tm (tm (1#8 <<< k) (1#8 <<< j)) (1#8 <<< i) = tm (1#8 <<< k) (tm (1#8 <<< j) (1#8 <<< i))) i hi j hj k hk
theorem tm_one : ∀ a : B, tm 1#8 a = a := by decide +kernel
theorem tm_zero (a : B) : tm a 0#8 = 0#8 := (show Add (tm a) from tm_add a).zero
/-- Powers, and the power 254 by squares. -/
def pown : Nat → B → B
  | 0, _ => 1#8
  | n + 1, a => tm (pown n a) a
def qk : Nat → B → B → B
  | 0, p, _ => p
  | n + 1, p, s => qk n (tm p (tm s s)) (tm s s)
theorem pown_add (m n : Nat) (a : B) : pown (m + n) a = tm (pown m a) (pown n a) := by
  induction n with
  | zero => rw [Nat.add_zero, pown, tm_comm, tm_one]
  | succ n ih => rw [← Nat.add_assoc, pown, ih, pown, tm_assoc]
theorem qk_pown (a : B) : ∀ n k m, qk n (pown m a) (pown k a) = pown (m + 2 * k * (2 ^ n - 1)) a := by
  intro n
  induction n with
  | zero => intro k m; simp [qk]
  | succ n ih =>
    intro k m
    rw [qk, ← pown_add k k, ← pown_add m (k + k), ih (k + k) (m + (k + k))]
    congr 1
    have : 1 ≤ 2 ^ n := Nat.one_le_two_pow
    obtain ⟨q, hq⟩ : ∃ q, 2 ^ n = q + 1 := ⟨2 ^ n - 1, by omega⟩
    rw [Nat.pow_succ, hq, show (q + 1) * 2 - 1 = 2 * q + 1 by omega, Nat.add_sub_cancel]
    grind
theorem pown_254 (a : B) : pown 254 a = qk 7 1#8 a := by
  have h := qk_pown a 7 1 0
  have e : pown 1 a = a := by rw [pown, pown, tm_one]
  rw [e] at h
  exact h.symm
theorem inv_mul : ∀ a : B, a ≠ 0#8 → tm (qk 7 1#8 a) a = 1#8 := by decide +kernel
theorem tm_eq_zero (a b : B) : tm a b = 0#8 ↔ a = 0#8 ∨ b = 0#8 := by
  constructor
  · intro h
    by_cases ha : a = 0#8
    · exact .inl ha
    · right
      rw [← tm_one b, ← inv_mul a ha, tm_assoc, h, tm_zero]
  · rintro (rfl | rfl)
    · rw [tm_comm]; exact tm_zero b
    · exact tm_zero a
/-- What Sub makes of the inverse. -/
def spr (y : B) : B := y ^^^ y.rotateLeft 4 ^^^ y.rotateLeft 3 ^^^ y.rotateLeft 2 ^^^ y.rotateLeft 1 ^^^ 0x63#8
/-- A list of n bytes of which the first t are W's. -/
def pt (W : Nat → B) (n t : Nat) : List B := (List.range n).map fun j => if j < t then W j else 0#8
theorem pt_len (W : Nat → B) (n t : Nat) : (pt W n t).length = n := by simp [pt]
theorem pt_get (W : Nat → B) (n t : Nat) {j : Nat} (h : j < t) (h2 : j < n) : (pt W n t).getD j 0#8 = W j := by
  simp [pt, List.getD_eq_getElem?_getD, h2, h]
theorem pt_set (W : Nat → B) (n t : Nat) (h : t < n) : (pt W n t).set t (W t) = pt W n (t + 1) := by
  apply List.ext_getElem?
  intro j
  rw [List.getElem?_set]
  by_cases e : t = j
  · subst e
    rw [if_pos rfl, if_pos (by rw [pt_len]; exact h)]
    simp [pt, h]
  · rw [if_neg e]
    simp only [pt, List.getElem?_map]
    by_cases hj : j < n
    · simp only [List.getElem?_range hj, Option.map_some]
      by_cases h1 : j < t
      · rw [if_pos h1, if_pos (by omega)]
      · rw [if_neg h1, if_neg (by omega)]
    · rw [List.getElem?_eq_none (by simp; omega)]; rfl
/-- The powers of three, the inverses, Sub and Back of every byte, as numbers. -/
def pwN : List Nat := [1, 3, 5, 15, 17, 51, 85, 255, 26, 46, 114, 150, 161, 248, 19, 53, 95, 225, 56, 72, 216, 115, 149, 164, 247, 2, 6, 10, 30, 34, 102, 170, 229, 52, 92, 228, 55, 89, 235, 38, 106, 190, 217, 112, 144, 171, 230, 49, 83, 245, 4, 12, 20, 60, 68, 204, 79, 209, 104, 184, 211, 110, 178, 205, 76, 212, 103, 169, 224, 59, 77, 215, 98, 166, 241, 8, 24, 40, 120, 136, 131, 158, 185, 208, 107, 189, 220, 127, 129, 152, 179, 206, 73, 219, 118, 154, 181, 196, 87, 249, 16, 48, 80, 240, 11, 29, 39, 105, 187, 214, 97, 163, 254, 25, 43, 125, 135, 146, 173, 236, 47, 113, 147, 174, 233, 32, 96, 160, 251, 22, 58, 78, 210, 109, 183, 194, 93, 231, 50, 86, 250, 21, 63, 65, 195, 94, 226, 61, 71, 201, 64, 192, 91, 237, 44, 116, 156, 191, 218, 117, 159, 186, 213, 100, 172, 239, 42, 126, 130, 157, 188, 223, 122, 142, 137, 128, 155, 182, 193, 88, 232, 35, 101, 175, 234, 37, 111, 177, 200, 67, 197, 84, 252, 31, 33, 99, 165, 244, 7, 9, 27, 45, 119, 153, 176, 203, 70, 202, 69, 207, 74, 222, 121, 139, 134, 145, 168, 227, 62, 66, 198, 81, 243, 14, 18, 54, 90, 238, 41, 123, 141, 140, 143, 138, 133, 148, 167, 242, 13, 23, 57, 75, 221, 124, 132, 151, 162, 253, 28, 36, 108, 180, 199, 82, 246, 1]
def ivN : List Nat := [0, 1, 141, 246, 203, 82, 123, 209, 232, 79, 41, 192, 176, 225, 229, 199, 116, 180, 170, 75, 153, 43, 96, 95, 88, 63, 253, 204, 255, 64, 238, 178, 58, 110, 90, 241, 85, 77, 168, 201, 193, 10, 152, 21, 48, 68, 162, 194, 44, 69, 146, 108, 243, 57, 102, 66, 242, 53, 32, 111, 119, 187, 89, 25, 29, 254, 55, 103, 45, 49, 245, 105, 167, 100, 171, 19, 84, 37, 233, 9, 237, 92, 5, 202, 76, 36, 135, 191, 24, 62, 34, 240, 81, 236, 97, 23, 22, 94, 175, 211, 73, 166, 54, 67, 244, 71, 145, 223, 51, 147, 33, 59, 121, 183, 151, 133, 16, 181, 186, 60, 182, 112, 208, 6, 161, 250, 129, 130, 131, 126, 127, 128, 150, 115, 190, 86, 155, 158, 149, 217, 247, 2, 185, 164, 222, 106, 50, 109, 216, 138, 132, 114, 42, 20, 159, 136, 249, 220, 137, 154, 251, 124, 46, 195, 143, 184, 101, 72, 38, 200, 18, 74, 206, 231, 210, 98, 12, 224, 31, 239, 17, 117, 120, 113, 165, 142, 118, 61, 189, 188, 134, 87, 11, 40, 47, 163, 218, 212, 228, 15, 169, 39, 83, 4, 27, 252, 172, 230, 122, 7, 174, 99, 197, 219, 226, 234, 148, 139, 196, 213, 157, 248, 144, 107, 177, 13, 214, 235, 198, 14, 207, 173, 8, 78, 215, 227, 93, 80, 30, 179, 91, 35, 56, 52, 104, 70, 3, 140, 221, 156, 125, 160, 205, 26, 65, 28]
def sbN : List Nat := [99, 124, 119, 123, 242, 107, 111, 197, 48, 1, 103, 43, 254, 215, 171, 118, 202, 130, 201, 125, 250, 89, 71, 240, 173, 212, 162, 175, 156, 164, 114, 192, 183, 253, 147, 38, 54, 63, 247, 204, 52, 165, 229, 241, 113, 216, 49, 21, 4, 199, 35, 195, 24, 150, 5, 154, 7, 18, 128, 226, 235, 39, 178, 117, 9, 131, 44, 26, 27, 110, 90, 160, 82, 59, 214, 179, 41, 227, 47, 132, 83, 209, 0, 237, 32, 252, 177, 91, 106, 203, 190, 57, 74, 76, 88, 207, 208, 239, 170, 251, 67, 77, 51, 133, 69, 249, 2, 127, 80, 60, 159, 168, 81, 163, 64, 143, 146, 157, 56, 245, 188, 182, 218, 33, 16, 255, 243, 210, 205, 12, 19, 236, 95, 151, 68, 23, 196, 167, 126, 61, 100, 93, 25, 115, 96, 129, 79, 220, 34, 42, 144, 136, 70, 238, 184, 20, 222, 94, 11, 219, 224, 50, 58, 10, 73, 6, 36, 92, 194, 211, 172, 98, 145, 149, 228, 121, 231, 200, 55, 109, 141, 213, 78, 169, 108, 86, 244, 234, 101, 122, 174, 8, 186, 120, 37, 46, 28, 166, 180, 198, 232, 221, 116, 31, 75, 189, 139, 138, 112, 62, 181, 102, 72, 3, 246, 14, 97, 53, 87, 185, 134, 193, 29, 158, 225, 248, 152, 17, 105, 217, 142, 148, 155, 30, 135, 233, 206, 85, 40, 223, 140, 161, 137, 13, 191, 230, 66, 104, 65, 153, 45, 15, 176, 84, 187, 22]
def bkN : List Nat := [82, 9, 106, 213, 48, 54, 165, 56, 191, 64, 163, 158, 129, 243, 215, 251, 124, 227, 57, 130, 155, 47, 255, 135, 52, 142, 67, 68, 196, 222, 233, 203, 84, 123, 148, 50, 166, 194, 35, 61, 238, 76, 149, 11, 66, 250, 195, 78, 8, 46, 161, 102, 40, 217, 36, 178, 118, 91, 162, 73, 109, 139, 209, 37, 114, 248, 246, 100, 134, 104, 152, 22, 212, 164, 92, 204, 93, 101, 182, 146, 108, 112, 72, 80, 253, 237, 185, 218, 94, 21, 70, 87, 167, 141, 157, 132, 144, 216, 171, 0, 140, 188, 211, 10, 247, 228, 88, 5, 184, 179, 69, 6, 208, 44, 30, 143, 202, 63, 15, 2, 193, 175, 189, 3, 1, 19, 138, 107, 58, 145, 17, 65, 79, 103, 220, 234, 151, 242, 207, 206, 240, 180, 230, 115, 150, 172, 116, 34, 231, 173, 53, 133, 226, 249, 55, 232, 28, 117, 223, 110, 71, 241, 26, 113, 29, 41, 197, 137, 111, 183, 98, 14, 170, 24, 190, 27, 252, 86, 62, 75, 198, 210, 121, 32, 154, 219, 192, 254, 120, 205, 90, 244, 31, 221, 168, 51, 136, 7, 199, 49, 177, 18, 16, 89, 39, 128, 236, 95, 96, 81, 127, 169, 25, 181, 74, 13, 45, 229, 122, 159, 147, 201, 156, 239, 160, 224, 59, 77, 174, 42, 245, 176, 200, 235, 187, 60, 131, 83, 153, 97, 23, 43, 4, 126, 186, 119, 214, 38, 225, 105, 20, 99, 85, 33, 12, 125]
def ob (l : List Nat) (x : Nat) : B := BitVec.ofNat 8 (l.getD x 0)
def sb (x : B) : B := ob sbN x.toNat
def bk (x : B) : B := ob bkN x.toNat
def pw (x : Nat) : B := ob pwN x
def iv (x : Nat) : B := ob ivN x
theorem pw_zero : pw 0 = 1#8 := by decide +kernel
theorem pw_succ : ∀ i < 255, pw (i + 1) = pw i ^^^ dbl (pw i) := by decide +kernel
theorem iv_qk : ∀ x < 256, iv x = qk 7 1#8 (BitVec.ofNat 8 x) := by decide +kernel
theorem sb_spr : ∀ x < 256, sb (BitVec.ofNat 8 x) = spr (iv x) := by decide +kernel
theorem bk_sb : ∀ x : B, bk (sb x) = x := by decide +kernel
theorem sb_bk : ∀ x : B, sb (bk x) = x := by decide +kernel
theorem sb_qk (x : B) : sb x = spr (qk 7 1#8 x) := by
  have h := sb_spr x.toNat x.isLt
  rw [iv_qk x.toNat x.isLt, BitVec.ofNat_toNat, BitVec.setWidth_eq] at h
  exact h
/-- Lists filled at places of their own. -/
def fil (p : Nat → Nat) (v : Nat → B) : Nat → List B
  | 0 => List.replicate 256 0#8
  | k + 1 => (fil p v k).set (p k) (v k)
theorem fil_len (p : Nat → Nat) (v : Nat → B) (k : Nat) : (fil p v k).length = 256 := by
  induction k with
  | zero => exact List.length_replicate
  | succ k ih => rw [fil, List.length_set, ih]
/-- What lies at a place behind the last that was written there. -/
theorem fil_get (p : Nat → Nat) (v : Nat → B) (k x : Nat) (j : Nat) (hj : j < k) (hp : p j = x) (hx : x < 256) (hl : ∀ i, j < i → i < k → p i ≠ x) : (fil p v k).getD x 0#8 = v j := by
  induction k with
  | zero => omega
  | succ k ih =>
    rw [fil]
    by_cases e : j = k
    · subst e
      rw [hp, List.getD_eq_getElem?_getD, List.getElem?_set, if_pos rfl, if_pos (by rw [fil_len]; exact hx)]
      rfl
    · rw [List.getD_eq_getElem?_getD, List.getElem?_set, if_neg (hl k (by omega) (by omega)), ← List.getD_eq_getElem?_getD]
      exact ih (by omega) (fun i h1 h2 => hl i h1 (by omega))
def ou : Nat → List B := fil (fun k => (pw k).toNat) (fun k => pw (255 - k))
def bo : Nat → List B := fil (fun k => (sb (BitVec.ofNat 8 k)).toNat) (fun k => BitVec.ofNat 8 k)
theorem all_pt (l : List B) (W : Nat → B) (hl : l.length = 256) (h : ∀ x < 256, l.getD x 0#8 = W x) : l = pt W 256 256 := by
  apply List.ext_getElem (by rw [hl, pt_len])
  intro i h1 h2
  have := h i (by omega)
  have e := pt_get W 256 256 (j := i) (by omega) (by omega)
  rw [List.getD_eq_getElem?_getD, List.getElem?_eq_getElem h1] at this
  rw [List.getD_eq_getElem?_getD, List.getElem?_eq_getElem h2] at e
  exact this.trans e.symm
/-- The number of the power that a byte is; 0 aside. -/
def lgN : List Nat := [0, 0, 25, 1, 50, 2, 26, 198, 75, 199, 27, 104, 51, 238, 223, 3, 100, 4, 224, 14, 52, 141, 129, 239, 76, 113, 8, 200, 248, 105, 28, 193, 125, 194, 29, 181, 249, 185, 39, 106, 77, 228, 166, 114, 154, 201, 9, 120, 101, 47, 138, 5, 33, 15, 225, 36, 18, 240, 130, 69, 53, 147, 218, 142, 150, 143, 219, 189, 54, 208, 206, 148, 19, 92, 210, 241, 64, 70, 131, 56, 102, 221, 253, 48, 191, 6, 139, 98, 179, 37, 226, 152, 34, 136, 145, 16, 126, 110, 72, 195, 163, 182, 30, 66, 58, 107, 40, 84, 250, 133, 61, 186, 43, 121, 10, 21, 155, 159, 94, 202, 78, 212, 172, 229, 243, 115, 167, 87, 175, 88, 168, 80, 244, 234, 214, 116, 79, 174, 233, 213, 231, 230, 173, 232, 44, 215, 117, 122, 235, 22, 11, 245, 89, 203, 95, 176, 156, 169, 81, 160, 127, 12, 246, 111, 23, 196, 73, 236, 216, 67, 31, 45, 164, 118, 123, 183, 204, 187, 62, 90, 251, 96, 177, 134, 59, 82, 161, 108, 170, 85, 41, 157, 151, 178, 135, 144, 97, 190, 220, 252, 188, 149, 207, 205, 55, 63, 91, 209, 83, 57, 132, 60, 65, 162, 109, 71, 20, 42, 158, 93, 86, 242, 211, 171, 68, 17, 146, 217, 35, 32, 46, 137, 180, 124, 184, 38, 119, 153, 227, 165, 103, 74, 237, 222, 197, 49, 254, 24, 13, 99, 140, 128, 192, 247, 112, 7]
theorem lg_pw : ∀ x < 256, x ≠ 0 → lgN.getD x 0 < 255 ∧ pw (lgN.getD x 0) = BitVec.ofNat 8 x ∧ pw (255 - lgN.getD x 0) = iv x := by decide +kernel
theorem pw_lg : ∀ i < 255, lgN.getD (pw i).toNat 0 = i ∧ (pw i).toNat ≠ 0 := by decide +kernel
theorem ou_zero : ∀ k ≤ 256, (ou k).getD 0 0#8 = 0#8 := by
  intro k
  induction k with
  | zero => intro _; rfl
  | succ k ih =>
    intro h
    have h2 : (pw k).toNat ≠ 0 := (by decide +kernel : ∀ i < 256, (pw i).toNat ≠ 0) k (by omega)
    show ((ou k).set (pw k).toNat (pw (255 - k))).getD 0 0#8 = _
    rw [List.getD_eq_getElem?_getD, List.getElem?_set, if_neg h2, ← List.getD_eq_getElem?_getD]
    exact ih (by omega)
theorem ou_all : ou 256 = pt iv 256 256 := by
  refine all_pt (ou 256) iv (fil_len _ _ _) (fun x hx => ?_)
  by_cases h0 : x = 0
  · subst h0; rw [ou_zero 256 (by omega)]; decide +kernel
  · obtain ⟨h1, h2, h3⟩ := lg_pw x hx h0
    by_cases h9 : x = 1
    · subst h9
      exact (fil_get _ _ 256 1 255 (by omega) (by decide +kernel) (by omega) (fun i h1 h2 => by omega)).trans (by decide +kernel)
    · refine (fil_get _ _ 256 x (lgN.getD x 0) (by omega) (by rw [h2, BitVec.toNat_ofNat]; omega) hx (fun i h4 h5 e => ?_)).trans h3
      by_cases h6 : i < 255
      · have := (pw_lg i h6).1
        rw [e] at this
        omega
      · obtain rfl : i = 255 := by omega
        have : (pw 255).toNat = 1 := by decide +kernel
        omega
theorem bo_all : bo 256 = pt (fun x => bk (BitVec.ofNat 8 x)) 256 256 := by
  refine all_pt (bo 256) _ (fil_len _ _ _) (fun x hx => ?_)
  have hb := (bk (BitVec.ofNat 8 x)).isLt
  refine (fil_get _ _ 256 x (bk (BitVec.ofNat 8 x)).toNat hb ?_ hx (fun i h1 h2 e => ?_)).trans (by rw [BitVec.ofNat_toNat, BitVec.setWidth_eq])
  · show (sb (BitVec.ofNat 8 (bk (BitVec.ofNat 8 x)).toNat)).toNat = x
    rw [BitVec.ofNat_toNat, BitVec.setWidth_eq, sb_bk, BitVec.toNat_ofNat]
    omega
  · have h3 : sb (BitVec.ofNat 8 i) = BitVec.ofNat 8 x := by
      apply BitVec.eq_of_toNat_eq
      rw [BitVec.toNat_ofNat]
      omega
    have h4 : bk (BitVec.ofNat 8 x) = BitVec.ofNat 8 i := by rw [← h3, bk_sb]
    rw [h4, BitVec.toNat_ofNat] at h1
    omega
end Go.Proofs.YtamieopjigjfiaaDoor

namespace Go.Proofs.YtamieopjigjfiaaDoor
set_option maxRecDepth 100000
open Go Go.RowKit Go.Sort
attribute [local go_sem] setCell_drewN alloc_drewN

/-! Bytes as numbers. -/
def bv (a : B) : Int := (a.toNat : Int)
theorem bnd (a : B) : 0 ≤ bv a ∧ bv a < 256 := by
  have := a.isLt
  unfold bv
  omega
theorem ofInt_toNat {n : Nat} (a : BitVec n) : BitVec.ofInt n (a.toNat : Int) = a := by
  rw [BitVec.ofInt_natCast, BitVec.ofNat_toNat, BitVec.setWidth_eq]
theorem wrap85 (a : BitVec 8) : IntKind.u8.wrap (a.toNat : Int) = (a.toNat : Int) := by
  rw [IntKind.wrap_u8]; have := a.isLt; omega
theorem wrap32 (a : BitVec 32) : IntKind.u32.wrap (a.toNat : Int) = (a.toNat : Int) := by
  rw [IntKind.wrap_u32]; have := a.isLt; omega
theorem bv_nat (a : B) : (bv a).toNat = a.toNat := rfl
theorem bv_inj {a b : B} : bv a = bv b ↔ a = b := by
  constructor
  · intro h; apply BitVec.eq_of_toNat_eq; unfold bv at h; omega
  · rintro rfl; rfl
theorem xor8 (a b : B) : bits .xor .u8 (bv a) (bv b) = bv (a ^^^ b) := by
  show IntKind.u8.wrap ((BitVec.ofInt 8 a.toNat ^^^ BitVec.ofInt 8 b.toNat).toNat : Int) = _
  rw [ofInt_toNat, ofInt_toNat, wrap85]; rfl
theorem e_dbl : ∀ a : B, bits .xor .u8 (bv a * 2 % 256) (bv a / 128 * 27) = bv (dbl a) := by decide +kernel
theorem e_dbl_hi : ∀ a : B, bv a ≥ 128 → bits .xor .u8 (bv a * 2 % 256) 27 = bv (dbl a) := by decide +kernel
theorem e_dbl_lo : ∀ a : B, ¬ bv a ≥ 128 → bv a * 2 = bv (dbl a) := by decide +kernel
set_option maxHeartbeats 1000000 in
theorem a_twice (a : B) : Gives 79 #[.int .u8 (bv a)] (.int .u8 (bv (dbl a))) := by
  intro w
  have e := e_dbl a
  have hb := bnd a
  go_enter Tryd.func79, Tryd.ntmps79
  go_wp2
  go_ret
  exact ⟨rfl, Below.refl _ _⟩
set_option maxHeartbeats 1000000 in
theorem r_double (a : B) : Gives 66 #[.int .u8 (bv a)] (.int .u8 (bv (dbl a))) := by
  intro w
  have hb := bnd a
  by_cases hx : bv a ≥ 128
  · have e := e_dbl_hi a hx
    go_enter Tryd.func66, Tryd.ntmps66
    go_wp2
    go_ret
    exact ⟨rfl, Below.refl _ _⟩
  · have e := e_dbl_lo a hx
    go_enter Tryd.func66, Tryd.ntmps66
    go_wp2
    go_ret
    exact ⟨rfl, Below.refl _ _⟩

/-! Times of both. -/
theorem tmn_zero (n : Nat) : ∀ a, tmn n a 0#8 = 0#8 := by
  induction n with
  | zero => intro a; rfl
  | succ n ih => intro a; simp [tmn, ih]
theorem tm_eight (a b : B) : tmn 9 a b = tmn 8 a b := by
  have h : ∀ n a b, tmn (n + 1) a b = tmn n a b ^^^ (if b.getLsbD n then (Nat.repeat dbl n a) else 0#8) := by
    intro n
    induction n with
    | zero => intro a b; simp [tmn, Nat.repeat]
    | succ n ih =>
      intro a b
      rw [tmn, ih, tmn]
      have e : ∀ (n : Nat) (a : B), Nat.repeat dbl n (dbl a) = Nat.repeat dbl (n + 1) a := by
        intro n
        induction n with
        | zero => intro a; rfl
        | succ n ih => intro a; rw [Nat.repeat, ih]; rfl
      rw [e, BitVec.getLsbD_ushiftRight, Nat.add_comm 1 n, BitVec.xor_assoc]
  rw [h 8 a b]
  simp
theorem tm_step (a b : B) : tm a b = (if b.getLsbD 0 then a else 0#8) ^^^ tm (dbl a) (b >>> 1) := by
  rw [tm, ← tm_eight, tmn, tm]
theorem low_and : ∀ b : B, bits .and .u8 (bv b) 1 = if b.getLsbD 0 then 1 else 0 := by decide +kernel
theorem low_mod : ∀ b : B, bv b % 2 = if b.getLsbD 0 then 1 else 0 := by decide +kernel
theorem half_of (b : B) : bv b / 2 = bv (b >>> 1) := by
  unfold bv
  rw [BitVec.toNat_ushiftRight, Nat.shiftRight_eq_div_pow]; rfl
theorem bv_pos {q : B} (h : q ≠ 0#8) : 0 < bv q := by
  have : q.toNat ≠ 0 := fun e => h (BitVec.eq_of_toNat_eq (by simpa using e))
  unfold bv; omega
set_option maxHeartbeats 1000000 in
theorem r_times (a b : B) : Gives 87 #[.int .u8 (bv a), .int .u8 (bv b)] (.int .u8 (bv (tm a b))) := by
  intro w
  obtain ⟨T, hT⟩ : ∃ T, T = tm a b := ⟨_, rfl⟩
  rw [← hT]
  replace hT := hide hT
  go_enter Tryd.func87, Tryd.ntmps87
  go_wp2_with (fail)
  go_loopw [0, 1, 5, 6] (fun x y z i wr => ∃ (p q r : B) (k : Nat), k ≤ 8 ∧ i = .int .i64 k ∧ x = .int .u8 (bv p) ∧ y = .int .u8 (bv q) ∧ z = .int .u8 (bv r) ∧ Hid (T = r ^^^ tmn (8 - k) p q) ∧ Below w.heap.size w wr) (fun _ _ _ i _ => 8 - (intOf i).toNat)
  case atStart => exact ⟨a, b, 0#8, 0, by omega, rfl, rfl, rfl, rfl, hide (by rw [hT.out]; simp [tm]), Below.refl _ _⟩
  case round =>
    clear hT
    obtain ⟨p, q, r, k, hk, rfl, rfl, rfl, rfl, hT, hw⟩ := hrel
    by_cases hq : k = 8
    · obtain rfl : r = T := by rw [hT.out, hq]; simp [tmn]
      subst hq
      clear hT
      have hd : decide (((8 : Nat) : Int) < 8) = false := by decide
      go_wp2
      go_ret
      exact ⟨rfl, hw⟩
    · have hd : decide ((k : Int) < 8) = true := by simp; omega
      have c := r_double p
      have hlow := low_mod q
      have hha := half_of q
      have hx := xor8 r p
      have bq := bnd q
      have br := bnd r
      have bp := bnd p
      have hst : Hid (tmn (8 - k) p q = (if q.getLsbD 0 then p else 0#8) ^^^ tmn (8 - (k + 1)) (dbl p) (q >>> 1)) := hide (by rw [show 8 - k = (8 - (k + 1)) + 1 by omega, tmn])
      by_cases hb : q.getLsbD 0
      · rw [if_pos hb] at hst hlow
        replace hT : Hid (T = (r ^^^ p) ^^^ tmn (8 - (k + 1)) (dbl p) (q >>> 1)) := hide (by rw [hT.out, hst.out, BitVec.xor_assoc])
        clear hst hb
        go_wp2_with (fail)
        refine (c.at _).mono ?_
        rintro e w1 ⟨rfl, hb⟩
        go_wp2
        go_roundw
        case rel => exact ⟨dbl p, q >>> 1, r ^^^ p, k + 1, by omega, by go_num, rfl, rfl, rfl, hT, Below.after hw hb⟩
        case measure => simp [intOf]; omega
      · rw [if_neg hb] at hst hlow
        replace hT : Hid (T = r ^^^ tmn (8 - (k + 1)) (dbl p) (q >>> 1)) := hide (by rw [hT.out, hst.out, BitVec.zero_xor])
        clear hst hb hx
        go_wp2_with (fail)
        refine (c.at _).mono ?_
        rintro e w1 ⟨rfl, hb⟩
        go_wp2
        go_roundw
        case rel => exact ⟨dbl p, q >>> 1, r, k + 1, by omega, by go_num, rfl, rfl, rfl, hT, Below.after hw hb⟩
        case measure => simp [intOf]; omega
end Go.Proofs.YtamieopjigjfiaaDoor

namespace Go.Proofs.YtamieopjigjfiaaDoor
set_option maxRecDepth 100000
open Go Go.RowKit Go.Sort
attribute [local go_sem] setCell_drewN alloc_drewN


/-! Rows of bytes. -/
def bl (l : List B) : List Int := l.map bv
theorem bl_len (l : List B) : (bl l).length = l.length := by simp [bl]
theorem bl_get (l : List B) (j : Nat) : (bl l).getD j 0 = bv (l.getD j 0#8) := by
  simp only [bl, List.getD_eq_getElem?_getD, List.getElem?_map]
  cases l[j]? <;> rfl
theorem bl_set (l : List B) (j : Nat) (z : B) : (bl l).set j (bv z) = bl (l.set j z) := by
  simp [bl, List.map_set]
theorem bl_zr (n : Nat) : bl (List.replicate n 0#8) = zr n := by
  simp only [bl, zr, List.map_replicate]; rfl
theorem bl_bnd (l : List B) : ∀ z ∈ bl l, 0 ≤ z ∧ z < 256 := by
  intro z h
  obtain ⟨b, _, rfl⟩ := List.mem_map.1 h
  exact bnd b
theorem brow_cell {W : World} {g : Nat} {l : List B} {t : TypeId} (hg : W.heap[g]? = some (.cells (irow .u8 (bl l)) t (0, 0))) {j : Nat} (hj : j < l.length) : W.cell? ⟨g, j, none⟩ = some (.int .u8 (bv (l.getD j 0#8))) := by
  rw [← bl_get]; exact irow_cell hg (by rw [bl_len]; exact hj)
theorem brow_set {W : World} {g : Nat} {l : List B} {t : TypeId} (hg : W.heap[g]? = some (.cells (irow .u8 (bl l)) t (0, 0))) (j : Nat) (z : B) : (W.setCell ⟨g, j, none⟩ (.int .u8 (bv z))).heap[g]? = some (.cells (irow .u8 (bl (l.set j z))) t (0, 0)) := by
  rw [← bl_set]; exact irow_set hg j (bv z)
theorem brow_at (l : List B) (j : Nat) (hj : j < l.length) : (irow .u8 (bl l))[j]? = some (.int .u8 (bv (l.getD j 0#8))) := by
  rw [← bl_get]; exact irow_get .u8 _ j (by rw [bl_len]; exact hj)
theorem brow_put (l : List B) (j : Nat) (z : B) : (irow .u8 (bl l)).setIfInBounds j (.int .u8 (bv z)) = irow .u8 (bl (l.set j z)) := by
  simp [irow, bl, List.map_set]
theorem pt_zero (W : Nat → B) (n : Nat) : pt W n 0 = List.replicate n 0#8 := by
  apply List.ext_getElem (by simp [pt])
  intro i h1 h2
  simp [pt]
theorem zr_pt (W : Nat → B) (n : Nat) : zr n = bl (pt W n 0) := by rw [pt_zero, bl_zr]
theorem z256 (W : World) : (Instr.alloc 61 true (.tuple #[])).run Tryd.prog W = .ok (.pointer (some ⟨W.heap.size, 0, none⟩)) (W.alloc (.cells (irow .u8 (zr 256)) 61)) := by kernel_rfl
theorem info256 (l : List B) (h : l.length = 256) : (Tryd.prog.info? 61).map (·.size) = some (irow .u8 (bl l)).size := by
  rw [irow_size, bl_len, h]; kernel_rfl
theorem fit256 (l m : List B) (h : l.length = 256) (h2 : m.length = 256) : (irow .u8 (bl l)).size = (irow .u8 (bl m)).size := by
  rw [irow_size, irow_size, bl_len, bl_len, h, h2]
/-- An array's element by its place. -/
theorem index_row {t e : TypeId} {n : Nat} {kk ik : IntKind} {i0 : TypeInfo} (ht : Tryd.prog.underlying t = some (.array n e)) (hu : Tryd.prog.underlying e = some (.int kk)) (hi : Tryd.prog.info? e = some i0) (hs : ∀ W, (sizeOf e).run Tryd.prog W = .ok 1 W) (l : List Int) (hl : l.length = n) (j : Nat) (hj : j < n) (W : World) :
    (Instr.index t (.agg (irow kk l)) (.int ik (j : Int))).run Tryd.prog W = .ok (.int kk (l.getD j 0)) W := by
  have hp := run_part_int (P := Tryd.prog) W hu hi l j (by omega)
  have e : l.getD j 0 = l[j]'(by omega) := by simp [List.getD_eq_getElem?_getD, List.getElem?_eq_getElem (show j < l.length by omega)]
  rw [e]
  unfold Instr.index
  have h2 : (0 : Int) ≤ (j : Int) ∧ (j : Int) < ((n : Nat) : Int) := by omega
  simp only [asIntOf, Sem.run_bind, Sem.run_pure, Result.andThen_ok, run_underlying ht W, if_pos h2, hs, Int.toNat_natCast, Nat.mul_one]
  exact hp
theorem index256 (l : List B) (hl : l.length = 256) (j : Nat) (hj : j < 256) (W : World) : (Instr.index 61 (.agg (irow .u8 (bl l))) (.int .i64 (j : Int))).run Tryd.prog W = .ok (.int .u8 (bv (l.getD j 0#8))) W := by
  obtain ⟨i0, hi⟩ : ∃ i, Tryd.prog.info? 5 = some i := ⟨_, rfl⟩
  rw [← bl_get]
  exact index_row Tryd.underlying61 Tryd.underlying5 hi (fun W => by kernel_rfl) (bl l) (by rw [bl_len, hl]) j hj W

set_option maxRecDepth 100000 in
set_option maxHeartbeats 4000000 in
theorem a_inverses : Gives 75 #[] (.agg (irow .u8 (bl (pt iv 256 256)))) := by
  intro w
  have hz : ∀ W : World, (Instr.alloc 61 true (.tuple #[])).run Tryd.prog W = .ok (.pointer (some ⟨W.heap.size, 0, none⟩)) (W.alloc (.cells (irow .u8 (bl (pt iv 256 0))) 61)) := by rw [← zr_pt]; exact z256
  have R0 := hp3_0 w (.cells (irow .u8 (bl (pt iv 256 0))) 61) (.cells (irow .u8 (bl (pt pw 256 1))) 61) (.cells (irow .u8 (bl (pt iv 256 0))) 61)
  have R1 := hp3_1 w (.cells (irow .u8 (bl (pt iv 256 0))) 61) (.cells (irow .u8 (bl (pt pw 256 1))) 61) (.cells (irow .u8 (bl (pt iv 256 0))) 61)
  have R2 := hp3_2 w (.cells (irow .u8 (bl (pt iv 256 0))) 61) (.cells (irow .u8 (bl (pt pw 256 1))) 61) (.cells (irow .u8 (bl (pt iv 256 0))) 61)
  have HW : Below w.heap.size w (((w.alloc (.cells (irow .u8 (bl (pt iv 256 0))) 61)).alloc (.cells (irow .u8 (bl (pt pw 256 1))) 61)).alloc (.cells (irow .u8 (bl (pt iv 256 0))) 61)) := ((((Below.refl _ _).alloc (Nat.le_refl _) _).alloc (by simp) _).alloc (by simp; omega) _)

  have hc0 := brow_at (pt iv 256 0) 0 (by rw [pt_len]; omega)
  have e1 : ((irow .u8 (bl (pt iv 256 0)))).setIfInBounds 0 (.int .u8 1) = (irow .u8 (bl (pt pw 256 1))) := by
    have := brow_put (pt iv 256 0) 0 (pw 0)
    rw [show pt iv 256 0 = pt pw 256 0 by rw [pt_zero, pt_zero], pt_set pw 256 0 (by omega), pw_zero] at this
    rw [← this, show pt iv 256 0 = pt pw 256 0 by rw [pt_zero, pt_zero]]; rfl
  go_enter Tryd.func75, Tryd.ntmps75
  go_wp2_with (first | (refine wpList_alloc rfl 61 rfl (irow .u8 (bl (pt iv 256 0))) hz ?_) | fail)
  clear hz hc0 e1
  generalize (((w.alloc (.cells (irow .u8 (bl (pt iv 256 0))) 61)).alloc (.cells (irow .u8 (bl (pt pw 256 1))) 61)).alloc (.cells (irow .u8 (bl (pt iv 256 0))) 61)) = w0 at *
  go_loopw [7] (fun i wr => ∃ k : Nat, k ≤ 255 ∧ i = .int .i64 k ∧ wr.heap[w.heap.size]? = some (.cells (irow .u8 (bl (pt iv 256 0))) 61 (0, 0)) ∧ wr.heap[w.heap.size + 1]? = some (.cells (irow .u8 (bl (pt pw 256 (k + 1)))) 61 (0, 0)) ∧ wr.heap[w.heap.size + 1 + 1]? = some (.cells (irow .u8 (bl (pt iv 256 0))) 61 (0, 0)) ∧ Below w.heap.size w wr) (fun i _ => 255 - (intOf i).toNat)
  case atStart => exact ⟨0, by omega, rfl, R0, R1, R2, HW⟩
  case round =>
    clear R0 R1 R2 HW
    obtain ⟨k, hk, rfl, r0, r1, r2, hw⟩ := hrel
    by_cases hlt : k < 255
    · have hd : decide ((k : Int) < 255) = true := by simp; omega
      have c0 := brow_cell r1 (j := k) (by rw [pt_len]; omega)
      rw [pt_get pw 256 (k + 1) (by omega) (by omega)] at c0
      have ct := a_twice (pw k)
      have hx := xor8 (pw k) (dbl (pw k))
      have hset := hide (pt_set pw 256 (k + 1) (by omega))
      rw [pw_succ k hlt] at hset
      have b0 := bnd (pw k)
      go_wp2_with (fail)
      have k0 : ∀ p : Regrown, (grow (redrawn wr p.d) p.os).cell? ⟨w.heap.size + 1, k, none⟩ = some (.int .u8 (bv (pw k))) := fun p => cell_regrown (c0) p.d p.os
      refine wp_region_tail (C := fun w' => ∃ p : Regrown, w' = grow (redrawn wr p.d) p.os) 11 _ rfl rfl rfl (by kernel_rfl) (by kernel_rfl) (by kernel_rfl) (by kernel_rfl) ⟨⟨wr.drawn + 1, #[]⟩, by rw [grow_empty]; rfl⟩ ?_
      dsimp only [List.set, idle]
      go_big_quiet_step (fail)
      go_big_quiet_step (fail)
      go_big_quiet_step (fail)
      go_big_quiet_step (fail)
      go_big_quiet_step (fail)
      go_big_quiet_step (fail)
      go_big_quiet_step (fail)
      go_big_quiet_step (fail)
      go_big_quiet_step (exact ct.re)
      go_big_quiet_step (fail)
      go_big_quiet_step (fail)
      refine wpQuiet_idle rfl rfl rfl ?_
      rintro _ ⟨p, rfl⟩
      have hb := below_regrown wr p.d p.os
      generalize grow (redrawn wr p.d) p.os = w1 at *
      clear k0
      replace r0 := keep hb r0
      replace r1 := keep hb r1
      replace r2 := keep hb r2
      replace hw := Below.after hw hb
      clear hb

      have c1 := brow_cell r1 (j := k + 1) (by rw [pt_len]; omega)
      have hf := row_frozen r1 (k + 1)
      clear c0 ct
      go_wp2
      refine ⟨⟨k + 1, by omega, by go_num, heap_other r0 (by omega), by rw [← hset.out]; exact brow_set r1 (k + 1) _, heap_other r2 (by omega), hw.setCell (show w.heap.size ≤ w.heap.size + 1 by omega) _⟩, by simp [intOf]; omega⟩
    · obtain rfl : k = 255 := by omega
      have hd : decide ((255 : Int) < 255) = false := by decide
      have hin := info256 (pt pw 256 256) (pt_len _ _ _)
      clear hk hlt
      go_wp2_with (first | (refine wpList_load_want rfl 61 _ rfl (w.heap.size + 1) rfl 61 (irow .u8 (bl (pt pw 256 256))) (0, 0) _ r1 Tryd.underlying61 rfl hin ?_) | fail)
      go_loopw [23] (fun i wr => ∃ k : Nat, k ≤ 256 ∧ i = .int .i64 k ∧ wr.heap[w.heap.size]? = some (.cells (irow .u8 (bl (pt iv 256 0))) 61 (0, 0)) ∧ wr.heap[w.heap.size + 1]? = some (.cells (irow .u8 (bl (pt pw 256 256))) 61 (0, 0)) ∧ wr.heap[w.heap.size + 1 + 1]? = some (.cells (irow .u8 (bl (ou k))) 61 (0, 0)) ∧ Below w.heap.size w wr) (fun i _ => 256 - (intOf i).toNat)
      case atStart => exact ⟨0, by omega, rfl, r0, r1, by rw [pt_zero] at r2; exact r2, hw⟩
      case round =>
        clear r0 r1 r2 hw hd hin
        obtain ⟨k, hk, rfl, r0, r1, r2, hw⟩ := hrel
        by_cases hlt : k < 256
        · have hd : decide ((k : Int) < 256) = true := by simp; omega
          have hix := index256 (pt pw 256 256) (pt_len _ _ _) k hlt wr
          rw [pt_get pw 256 256 (by omega) (by omega)] at hix
          have c0 := brow_cell r1 (j := 255 - k) (by rw [pt_len]; omega)
          rw [pt_get pw 256 256 (by omega) (by omega)] at c0
          have hp := bnd (pw k)
          have e5 : (255 - (k : Int)).toNat = 255 - k := by omega
          have e6 := bv_nat (pw k)
          have c1 := brow_cell r2 (j := (pw k).toNat) (by rw [ou, fil_len]; exact (pw k).isLt)
          have hf := row_frozen r2 (pw k).toNat
          go_wp2
          refine ⟨⟨k + 1, by omega, by go_num, heap_other r0 (by omega), heap_other r1 (by omega), brow_set r2 _ _, hw.setCell (show w.heap.size ≤ w.heap.size + 1 + 1 by omega) _⟩, by simp [intOf]; omega⟩
        · obtain rfl : k = 256 := by omega
          have hd : decide ((256 : Int) < 256) = false := by decide
          rw [ou_all] at r2
          have hin := info256 (pt iv 256 256) (pt_len _ _ _)
          have hfi := fit256 (pt iv 256 0) (pt iv 256 256) (pt_len _ _ _) (pt_len _ _ _)
          clear hk hlt
          go_wp2_with (first | (refine wpList_load_want rfl 61 _ rfl (w.heap.size + 1 + 1) rfl 61 (irow .u8 (bl (pt iv 256 256))) (0, 0) _ r2 Tryd.underlying61 rfl hin ?_) | (refine wpList_store_row rfl 61 _ _ rfl (w.heap.size) (irow .u8 (bl (pt iv 256 256))) rfl rfl 61 _ r0 hin hfi (irow_one _ _) ?_) | fail)
          replace r0 := setRow_heap wr (w.heap.size) _ (irow .u8 (bl (pt iv 256 256))) _ _ r0
          replace hw := below_setRow hw (Nat.le_refl _) (irow .u8 (bl (pt iv 256 256)))
          generalize wr.setRow (w.heap.size) (irow .u8 (bl (pt iv 256 256))) = w9 at *
          exact bodyPost_ret (v := .agg (irow .u8 (bl (pt iv 256 256)))) (results_cell_row Tryd.results75 _ _ (w.heap.size) _ _ _ _ rfl r0 Tryd.underlying61 rfl hin) rfl ⟨rfl, hw⟩

end Go.Proofs.YtamieopjigjfiaaDoor


namespace Go.Proofs.YtamieopjigjfiaaDoor
set_option maxRecDepth 100000
open Go Go.RowKit Go.Sort
attribute [local go_sem] setCell_drewN alloc_drewN

theorem e_rot4 : ∀ y : B, bits .or .u8 (bv y * 16 % 256) (bv y / 16) = bv (y.rotateLeft 4) := by decide +kernel
set_option maxHeartbeats 1000000 in
theorem a_rot4 (y : B) : Gives 92 #[.int .u8 (bv y), .int .i64 (-4)] (.int .u8 (bv (y.rotateLeft 4))) := by
  intro w
  have ha : bits .and .u64 (IntKind.u64.wrap (-4)) 7 = 4 := by decide +kernel
  have hb := bnd y
  have e := hide (e_rot4 y)
  generalize bv (y.rotateLeft 4) = z at *
  go_enter Tryd.func92, Tryd.ntmps92
  go_wp2_with (simp only [ha])
  go_ret
  obtain rfl := e.out
  exact ⟨rfl, Below.refl _ _⟩
theorem e_rot5 : ∀ y : B, bits .or .u8 (bv y * 8 % 256) (bv y / 32) = bv (y.rotateLeft 3) := by decide +kernel
set_option maxHeartbeats 1000000 in
theorem a_rot5 (y : B) : Gives 92 #[.int .u8 (bv y), .int .i64 (-5)] (.int .u8 (bv (y.rotateLeft 3))) := by
  intro w
  have ha : bits .and .u64 (IntKind.u64.wrap (-5)) 7 = 3 := by decide +kernel
  have hb := bnd y
  have e := hide (e_rot5 y)
  generalize bv (y.rotateLeft 3) = z at *
  go_enter Tryd.func92, Tryd.ntmps92
  go_wp2_with (simp only [ha])
  go_ret
  obtain rfl := e.out
  exact ⟨rfl, Below.refl _ _⟩
theorem e_rot6 : ∀ y : B, bits .or .u8 (bv y * 4 % 256) (bv y / 64) = bv (y.rotateLeft 2) := by decide +kernel
set_option maxHeartbeats 1000000 in
theorem a_rot6 (y : B) : Gives 92 #[.int .u8 (bv y), .int .i64 (-6)] (.int .u8 (bv (y.rotateLeft 2))) := by
  intro w
  have ha : bits .and .u64 (IntKind.u64.wrap (-6)) 7 = 2 := by decide +kernel
  have hb := bnd y
  have e := hide (e_rot6 y)
  generalize bv (y.rotateLeft 2) = z at *
  go_enter Tryd.func92, Tryd.ntmps92
  go_wp2_with (simp only [ha])
  go_ret
  obtain rfl := e.out
  exact ⟨rfl, Below.refl _ _⟩
theorem e_rot7 : ∀ y : B, bits .or .u8 (bv y * 2 % 256) (bv y / 128) = bv (y.rotateLeft 1) := by decide +kernel
set_option maxHeartbeats 1000000 in
theorem a_rot7 (y : B) : Gives 92 #[.int .u8 (bv y), .int .i64 (-7)] (.int .u8 (bv (y.rotateLeft 1))) := by
  intro w
  have ha : bits .and .u64 (IntKind.u64.wrap (-7)) 7 = 1 := by decide +kernel
  have hb := bnd y
  have e := hide (e_rot7 y)
  generalize bv (y.rotateLeft 1) = z at *
  go_enter Tryd.func92, Tryd.ntmps92
  go_wp2_with (simp only [ha])
  go_ret
  obtain rfl := e.out
  exact ⟨rfl, Below.refl _ _⟩
/-- Where a walk shall stop. -/
def WpStay (p : Prop) : Prop := p
theorem wpList_stay {P : Program} {ops : Array Oper} {rest : List Oper} {a : Act} {w : World} {Q : Exit → Act → World → Prop} (h : WpStay (wpList P ops Q rest a w)) : wpList P ops Q rest a w := h
set_option maxHeartbeats 1000000 in
theorem a_spread5 (y : B) : Gives 76 #[.int .u8 (bv y)] (.int .u8 (bv (spr y))) := by
  intro w
  have c4 := a_rot4 y
  have c5 := a_rot5 y
  have c6 := a_rot6 y
  have c7 := a_rot7 y
  have x1 := xor8 y (y.rotateLeft 4)
  have x2 := xor8 (y ^^^ y.rotateLeft 4) (y.rotateLeft 3)
  have x3 := xor8 (y ^^^ y.rotateLeft 4 ^^^ y.rotateLeft 3) (y.rotateLeft 2)
  have x4 := xor8 (y ^^^ y.rotateLeft 4 ^^^ y.rotateLeft 3 ^^^ y.rotateLeft 2) (y.rotateLeft 1)
  have x5 : bits .xor .u8 (bv (y ^^^ y.rotateLeft 4 ^^^ y.rotateLeft 3 ^^^ y.rotateLeft 2 ^^^ y.rotateLeft 1)) 99 = bv (spr y) := xor8 _ 0x63#8
  generalize y ^^^ y.rotateLeft 4 ^^^ y.rotateLeft 3 ^^^ y.rotateLeft 2 ^^^ y.rotateLeft 1 = y5 at *
  generalize y ^^^ y.rotateLeft 4 ^^^ y.rotateLeft 3 ^^^ y.rotateLeft 2 = y4 at *
  generalize y ^^^ y.rotateLeft 4 ^^^ y.rotateLeft 3 = y3 at *
  generalize y ^^^ y.rotateLeft 4 = y2 at *
  generalize y.rotateLeft 4 = r4 at *
  generalize y.rotateLeft 3 = r3 at *
  generalize y.rotateLeft 2 = r2 at *
  generalize y.rotateLeft 1 = r1 at *
  generalize spr y = sy at *
  go_enter Tryd.func76, Tryd.ntmps76
  go_wp2_with (fail)
  refine (c4.at _).mono ?_
  rintro e w4 ⟨rfl, hb4⟩
  go_wp2_with (fail)
  refine (c5.at _).mono ?_
  rintro e w5 ⟨rfl, hb5⟩
  go_wp2_with (fail)
  refine (c6.at _).mono ?_
  rintro e w6 ⟨rfl, hb6⟩
  go_wp2_with (fail)
  refine (c7.at _).mono ?_
  rintro e w7 ⟨rfl, hb7⟩
  go_wp2
  go_ret
  exact ⟨rfl, Below.after (Below.after (Below.after hb4 hb5) hb6) hb7⟩

/-- Sub and Back of every byte, in a row. -/
def sbl : List B := pt (fun x => sb (BitVec.ofNat 8 x)) 256 256
def bkl : List B := pt (fun x => bk (BitVec.ofNat 8 x)) 256 256
theorem sbl_len : sbl.length = 256 := pt_len _ _ _
theorem bkl_len : bkl.length = 256 := pt_len _ _ _
theorem sbl_get (x : B) : sbl.getD x.toNat 0#8 = sb x := by
  rw [sbl, pt_get _ _ _ x.isLt x.isLt, BitVec.ofNat_toNat, BitVec.setWidth_eq]
theorem bkl_get (x : B) : bkl.getD x.toNat 0#8 = bk x := by
  rw [bkl, pt_get _ _ _ x.isLt x.isLt, BitVec.ofNat_toNat, BitVec.setWidth_eq]
theorem of_bv (k : Nat) (h : k < 256) : bv (BitVec.ofNat 8 k) = (k : Int) := by
  unfold bv; rw [BitVec.toNat_ofNat]; omega
set_option maxRecDepth 100000 in
set_option maxHeartbeats 4000000 in
theorem a_boxes : Gives 54 #[] (.tuple #[.agg (irow .u8 (bl (sbl))), .agg (irow .u8 (bl (bkl)))]) := by
  intro w
  have hz : ∀ W : World, (Instr.alloc 61 true (.tuple #[])).run Tryd.prog W = .ok (.pointer (some ⟨W.heap.size, 0, none⟩)) (W.alloc (.cells (irow .u8 (bl (pt (fun x => sb (BitVec.ofNat 8 x)) 256 0))) 61)) := by rw [← zr_pt]; exact z256
  have R0 := hp2_0 w (.cells (irow .u8 (bl (pt (fun x => sb (BitVec.ofNat 8 x)) 256 0))) 61) (.cells (irow .u8 (bl (pt (fun x => sb (BitVec.ofNat 8 x)) 256 0))) 61)
  have R1 := hp2_1 w (.cells (irow .u8 (bl (pt (fun x => sb (BitVec.ofNat 8 x)) 256 0))) 61) (.cells (irow .u8 (bl (pt (fun x => sb (BitVec.ofNat 8 x)) 256 0))) 61)
  have HW : Below w.heap.size w ((w.alloc (.cells (irow .u8 (bl (pt (fun x => sb (BitVec.ofNat 8 x)) 256 0))) 61)).alloc (.cells (irow .u8 (bl (pt (fun x => sb (BitVec.ofNat 8 x)) 256 0))) 61)) := (((Below.refl _ _).alloc (Nat.le_refl _) _).alloc (by simp) _)

  have hin := a_inverses
  go_enter Tryd.func54, Tryd.ntmps54
  go_wp2_with (first | (refine wpList_alloc rfl 61 rfl (irow .u8 (bl (pt (fun x => sb (BitVec.ofNat 8 x)) 256 0))) hz ?_) | fail)
  clear hz
  generalize ((w.alloc (.cells (irow .u8 (bl (pt (fun x => sb (BitVec.ofNat 8 x)) 256 0))) 61)).alloc (.cells (irow .u8 (bl (pt (fun x => sb (BitVec.ofNat 8 x)) 256 0))) 61)) = w0 at *
  refine (hin.at _).mono ?_
  rintro e_ w1 ⟨rfl, hb⟩
  replace R0 := keep hb R0
  replace R1 := keep hb R1
  replace HW := Below.after HW hb
  clear hb hin
  go_wp2_with (fail)
  go_loopw [6] (fun i wr => ∃ k : Nat, k ≤ 256 ∧ i = .int .i64 k ∧ wr.heap[w.heap.size]? = some (.cells (irow .u8 (bl (pt (fun x => sb (BitVec.ofNat 8 x)) 256 k))) 61 (0, 0)) ∧ wr.heap[w.heap.size + 1]? = some (.cells (irow .u8 (bl (bo k))) 61 (0, 0)) ∧ Below w.heap.size w wr) (fun i _ => 256 - (intOf i).toNat)
  case atStart => exact ⟨0, by omega, rfl, R0, by rw [pt_zero] at R1; exact R1, HW⟩
  case round =>
    clear R0 R1 HW
    obtain ⟨k, hk, rfl, r0, r1, hw⟩ := hrel
    by_cases hlt : k < 256
    · have hd : decide ((k : Int) < 256) = true := by simp; omega
      have hix := index256 (pt iv 256 256) (pt_len _ _ _) k hlt wr
      rw [pt_get iv 256 256 (by omega) (by omega)] at hix
      have cs := a_spread5 (iv k)
      rw [← sb_spr k hlt] at cs
      have hset := hide (pt_set (fun x => sb (BitVec.ofNat 8 x)) 256 k hlt)
      have e6 := bv_nat (sb (BitVec.ofNat 8 k))
      have b6 := bnd (sb (BitVec.ofNat 8 k))
      have ek := of_bv k hlt
      go_wp2_with (fail)
      refine (cs.at _).mono ?_
      rintro e_ w1 ⟨rfl, hb⟩
      replace r0 := keep hb r0
      replace r1 := keep hb r1
      replace hw := Below.after hw hb
      clear hb cs hix
      have c0 := brow_cell r0 (j := k) (by rw [pt_len]; exact hlt)
      have hf0 := row_frozen r0 k
      have hn1 := heap_other (j := k) (v := .int .u8 (bv (sb (BitVec.ofNat 8 k)))) r1 (show w.heap.size + 1 ≠ w.heap.size by omega)
      have c1 := brow_cell hn1 (j := (sb (BitVec.ofNat 8 k)).toNat) (by rw [bo, fil_len]; exact (sb (BitVec.ofNat 8 k)).isLt)
      have hf1 := row_frozen hn1 (sb (BitVec.ofNat 8 k)).toNat
      replace hn1 := hide hn1
      go_wp2
      refine ⟨⟨k + 1, by omega, by go_num, heap_other (by rw [← hset.out]; exact brow_set r0 k _) (by omega), ?_, (hw.setCell (Nat.le_refl _) _).setCell (show w.heap.size ≤ w.heap.size + 1 by omega) _⟩, by simp [intOf]; omega⟩
      have := brow_set hn1.out (sb (BitVec.ofNat 8 k)).toNat (BitVec.ofNat 8 k)
      rw [ek] at this
      exact this
    · obtain rfl : k = 256 := by omega
      have hd : decide ((256 : Int) < 256) = false := by decide
      rw [bo_all] at r1
      replace r0 : wr.heap[w.heap.size]? = some (.cells (irow .u8 (bl (sbl))) 61 (0, 0)) := r0
      replace r1 : wr.heap[w.heap.size + 1]? = some (.cells (irow .u8 (bl (bkl))) 61 (0, 0)) := r1
      have hi0 := info256 sbl sbl_len
      have hi1 := info256 bkl bkl_len
      clear hk hlt
      go_wp2_with (fail)
      have hbd : Below wr.heap.size wr wr.drew := below_drN (Below.refl _ _) 1
      replace r0 := keep hbd r0
      replace r1 := keep hbd r1
      replace hw := Below.after hw hbd
      clear hbd
      refine wp_region_noPanic ?_
      refine wp_region_any (by kernel_rfl) ?_
      change wpAny _ _ _ _ _ _ _ (World.drew _)
      generalize wr.drew = wd at *
      refine wpAny_ready (rs := [0, 1]) (fuel := 3) (by kernel_rfl) (by simp) (AllReady.cons rfl (fun K' hK => ?_) (AllReady.cons rfl (fun K' hK => ?_) AllReady.nil))
      · rw [if_pos (by kernel_rfl)]
        simp only [List.getElem_toArray, List.getElem_cons_zero]
        refine wp_load_row 61 _ rfl (w.heap.size) rfl 61 (irow .u8 (bl (sbl))) (0, 0) _ (r0) Tryd.underlying61 rfl hi0 (hK _ _ ?_)
        simp only [Act.put, List.setIfInBounds_toArray, List.set_cons_succ, List.set_cons_zero]
        clear hK
        refine wpAny_ready (rs := [1, 2]) (fuel := 2) (by kernel_rfl) (by simp) (AllReady.cons rfl (fun K' hK => ?_) (AllReady.cons rfl (fun K' hK => ?_) AllReady.nil))
        · rw [if_pos (by kernel_rfl)]
          simp only [List.getElem_toArray, List.getElem_cons_succ, List.getElem_cons_zero]
          refine wp_load_row 61 _ rfl (w.heap.size + 1) rfl 61 (irow .u8 (bl (bkl))) (0, 0) _ (r1) Tryd.underlying61 rfl hi1 (hK _ _ ?_)
          simp only [Act.put, List.setIfInBounds_toArray, List.set_cons_succ, List.set_cons_zero]
          clear hK
          refine wpAny_ready (rs := [2]) (fuel := 1) (by kernel_rfl) (by simp) (AllReady.cons rfl (fun K' hK => ?_) AllReady.nil)
          rw [if_pos (by kernel_rfl)]
          simp only [List.getElem_toArray, List.getElem_cons_succ, List.getElem_cons_zero]
          refine wp_store_row 61 _ _ rfl (w.heap.size) (irow .u8 (bl (sbl))) rfl rfl 61 _ r0 hi0 rfl (irow_one _ _) (hK _ _ ?_)
          simp only [Act.put]
          clear hK
          replace r1 := (setRow_other wd (w.heap.size) (w.heap.size + 1) (irow .u8 (bl (sbl))) (by omega)).trans r1
          replace r0 := setRow_heap wd (w.heap.size) _ (irow .u8 (bl (sbl))) _ _ r0
          replace hw := below_setRow hw (show w.heap.size ≤ w.heap.size by omega) (irow .u8 (bl (sbl)))
          generalize wd.setRow (w.heap.size) (irow .u8 (bl (sbl))) = q1 at *
          refine wpAny_ready (rs := [3]) (fuel := 0) (by kernel_rfl) (by simp) (AllReady.cons rfl (fun K' hK => ?_) AllReady.nil)
          rw [if_pos (by kernel_rfl)]
          simp only [List.getElem_toArray, List.getElem_cons_succ, List.getElem_cons_zero]
          refine wp_store_row 61 _ _ rfl (w.heap.size + 1) (irow .u8 (bl (bkl))) rfl rfl 61 _ r1 hi1 rfl (irow_one _ _) (hK _ _ ?_)
          simp only [Act.put]
          clear hK
          replace r0 := (setRow_other q1 (w.heap.size + 1) (w.heap.size) (irow .u8 (bl (bkl))) (by omega)).trans r0
          replace r1 := setRow_heap q1 (w.heap.size + 1) _ (irow .u8 (bl (bkl))) _ _ r1
          replace hw := below_setRow hw (show w.heap.size ≤ w.heap.size + 1 by omega) (irow .u8 (bl (bkl)))
          generalize q1.setRow (w.heap.size + 1) (irow .u8 (bl (bkl))) = q2 at *
          refine wpAny_done (by kernel_rfl) ?_ _
          refine NoPanic.normal ?_
          go_wp2_with (fail)
          exact bodyPost_ret (v := .tuple #[.agg (irow .u8 (bl (sbl))), .agg (irow .u8 (bl (bkl)))]) (results_rows2 Tryd.results54 _ _ (w.heap.size) (w.heap.size + 1) _ _ _ _ _ _ _ _ rfl r0 rfl r1 Tryd.underlying61 rfl hi0 Tryd.underlying61 rfl hi1) rfl ⟨rfl, hw⟩
        · rw [if_pos (by kernel_rfl)]
          simp only [List.getElem_toArray, List.getElem_cons_succ, List.getElem_cons_zero]
          refine wp_store_row 61 _ _ rfl (w.heap.size) (irow .u8 (bl (sbl))) rfl rfl 61 _ r0 hi0 rfl (irow_one _ _) (hK _ _ ?_)
          simp only [Act.put]
          clear hK
          replace r1 := (setRow_other wd (w.heap.size) (w.heap.size + 1) (irow .u8 (bl (sbl))) (by omega)).trans r1
          replace r0 := setRow_heap wd (w.heap.size) _ (irow .u8 (bl (sbl))) _ _ r0
          replace hw := below_setRow hw (show w.heap.size ≤ w.heap.size by omega) (irow .u8 (bl (sbl)))
          generalize wd.setRow (w.heap.size) (irow .u8 (bl (sbl))) = q3 at *
          refine wpAny_ready (rs := [1]) (fuel := 1) (by kernel_rfl) (by simp) (AllReady.cons rfl (fun K' hK => ?_) AllReady.nil)
          rw [if_pos (by kernel_rfl)]
          simp only [List.getElem_toArray, List.getElem_cons_succ, List.getElem_cons_zero]
          refine wp_load_row 61 _ rfl (w.heap.size + 1) rfl 61 (irow .u8 (bl (bkl))) (0, 0) _ (r1) Tryd.underlying61 rfl hi1 (hK _ _ ?_)
          simp only [Act.put, List.setIfInBounds_toArray, List.set_cons_succ, List.set_cons_zero]
          clear hK
          refine wpAny_ready (rs := [3]) (fuel := 0) (by kernel_rfl) (by simp) (AllReady.cons rfl (fun K' hK => ?_) AllReady.nil)
          rw [if_pos (by kernel_rfl)]
          simp only [List.getElem_toArray, List.getElem_cons_succ, List.getElem_cons_zero]
          refine wp_store_row 61 _ _ rfl (w.heap.size + 1) (irow .u8 (bl (bkl))) rfl rfl 61 _ r1 hi1 rfl (irow_one _ _) (hK _ _ ?_)
          simp only [Act.put]
          clear hK
          replace r0 := (setRow_other q3 (w.heap.size + 1) (w.heap.size) (irow .u8 (bl (bkl))) (by omega)).trans r0
          replace r1 := setRow_heap q3 (w.heap.size + 1) _ (irow .u8 (bl (bkl))) _ _ r1
          replace hw := below_setRow hw (show w.heap.size ≤ w.heap.size + 1 by omega) (irow .u8 (bl (bkl)))
          generalize q3.setRow (w.heap.size + 1) (irow .u8 (bl (bkl))) = q4 at *
          refine wpAny_done (by kernel_rfl) ?_ _
          refine NoPanic.normal ?_
          go_wp2_with (fail)
          exact bodyPost_ret (v := .tuple #[.agg (irow .u8 (bl (sbl))), .agg (irow .u8 (bl (bkl)))]) (results_rows2 Tryd.results54 _ _ (w.heap.size) (w.heap.size + 1) _ _ _ _ _ _ _ _ rfl r0 rfl r1 Tryd.underlying61 rfl hi0 Tryd.underlying61 rfl hi1) rfl ⟨rfl, hw⟩
      · rw [if_pos (by kernel_rfl)]
        simp only [List.getElem_toArray, List.getElem_cons_succ, List.getElem_cons_zero]
        refine wp_load_row 61 _ rfl (w.heap.size + 1) rfl 61 (irow .u8 (bl (bkl))) (0, 0) _ (r1) Tryd.underlying61 rfl hi1 (hK _ _ ?_)
        simp only [Act.put, List.setIfInBounds_toArray, List.set_cons_succ, List.set_cons_zero]
        clear hK
        refine wpAny_ready (rs := [0]) (fuel := 2) (by kernel_rfl) (by simp) (AllReady.cons rfl (fun K' hK => ?_) AllReady.nil)
        rw [if_pos (by kernel_rfl)]
        simp only [List.getElem_toArray, List.getElem_cons_zero]
        refine wp_load_row 61 _ rfl (w.heap.size) rfl 61 (irow .u8 (bl (sbl))) (0, 0) _ (r0) Tryd.underlying61 rfl hi0 (hK _ _ ?_)
        simp only [Act.put, List.setIfInBounds_toArray, List.set_cons_succ, List.set_cons_zero]
        clear hK
        refine wpAny_ready (rs := [2]) (fuel := 1) (by kernel_rfl) (by simp) (AllReady.cons rfl (fun K' hK => ?_) AllReady.nil)
        rw [if_pos (by kernel_rfl)]
        simp only [List.getElem_toArray, List.getElem_cons_succ, List.getElem_cons_zero]
        refine wp_store_row 61 _ _ rfl (w.heap.size) (irow .u8 (bl (sbl))) rfl rfl 61 _ r0 hi0 rfl (irow_one _ _) (hK _ _ ?_)
        simp only [Act.put]
        clear hK
        replace r1 := (setRow_other wd (w.heap.size) (w.heap.size + 1) (irow .u8 (bl (sbl))) (by omega)).trans r1
        replace r0 := setRow_heap wd (w.heap.size) _ (irow .u8 (bl (sbl))) _ _ r0
        replace hw := below_setRow hw (show w.heap.size ≤ w.heap.size by omega) (irow .u8 (bl (sbl)))
        generalize wd.setRow (w.heap.size) (irow .u8 (bl (sbl))) = q5 at *
        refine wpAny_ready (rs := [3]) (fuel := 0) (by kernel_rfl) (by simp) (AllReady.cons rfl (fun K' hK => ?_) AllReady.nil)
        rw [if_pos (by kernel_rfl)]
        simp only [List.getElem_toArray, List.getElem_cons_succ, List.getElem_cons_zero]
        refine wp_store_row 61 _ _ rfl (w.heap.size + 1) (irow .u8 (bl (bkl))) rfl rfl 61 _ r1 hi1 rfl (irow_one _ _) (hK _ _ ?_)
        simp only [Act.put]
        clear hK
        replace r0 := (setRow_other q5 (w.heap.size + 1) (w.heap.size) (irow .u8 (bl (bkl))) (by omega)).trans r0
        replace r1 := setRow_heap q5 (w.heap.size + 1) _ (irow .u8 (bl (bkl))) _ _ r1
        replace hw := below_setRow hw (show w.heap.size ≤ w.heap.size + 1 by omega) (irow .u8 (bl (bkl)))
        generalize q5.setRow (w.heap.size + 1) (irow .u8 (bl (bkl))) = q6 at *
        refine wpAny_done (by kernel_rfl) ?_ _
        refine NoPanic.normal ?_
        go_wp2_with (fail)
        exact bodyPost_ret (v := .tuple #[.agg (irow .u8 (bl (sbl))), .agg (irow .u8 (bl (bkl)))]) (results_rows2 Tryd.results54 _ _ (w.heap.size) (w.heap.size + 1) _ _ _ _ _ _ _ _ rfl r0 rfl r1 Tryd.underlying61 rfl hi0 Tryd.underlying61 rfl hi1) rfl ⟨rfl, hw⟩


end Go.Proofs.YtamieopjigjfiaaDoor


namespace Go.Proofs.YtamieopjigjfiaaDoor
set_option maxRecDepth 100000
open Go Go.RowKit Go.Sort
/-! Four bytes as a word. -/
def wd (a b c d : B) : BitVec 32 := (a ++ b ++ c ++ d : BitVec (8 + 8 + 8 + 8))
def wv (x : BitVec 32) : Int := (x.toNat : Int)
theorem wd_nat (a b c d : B) : (wd a b c d).toNat = ((a.toNat * 256 + b.toNat) * 256 + c.toNat) * 256 + d.toNat := by
  have h1 := a.isLt; have h2 := b.isLt; have h3 := c.isLt; have h4 := d.isLt
  unfold wd
  simp only [BitVec.toNat_append]
  rw [← Nat.shiftLeft_add_eq_or_of_lt (by omega), ← Nat.shiftLeft_add_eq_or_of_lt (by omega), ← Nat.shiftLeft_add_eq_or_of_lt (by omega)]
  simp only [Nat.shiftLeft_eq]
theorem wv_wd (a b c d : B) : wv (wd a b c d) = ((bv a * 256 + bv b) * 256 + bv c) * 256 + bv d := by
  unfold wv bv
  rw [wd_nat]; simp
theorem wnd (x : BitVec 32) : 0 ≤ wv x ∧ wv x < 4294967296 := by
  have := x.isLt
  unfold wv
  omega
theorem xor32 (a b : BitVec 32) : bits .xor .u32 (wv a) (wv b) = wv (a ^^^ b) := by
  show IntKind.u32.wrap ((BitVec.ofInt 32 a.toNat ^^^ BitVec.ofInt 32 b.toNat).toNat : Int) = _
  rw [ofInt_toNat, ofInt_toNat, wrap32]; rfl
theorem or32 (a b : BitVec 32) : bits .or .u32 (wv a) (wv b) = wv (a ||| b) := by
  show IntKind.u32.wrap ((BitVec.ofInt 32 a.toNat ||| BitVec.ofInt 32 b.toNat).toNat : Int) = _
  rw [ofInt_toNat, ofInt_toNat, wrap32]; rfl
theorem and32 (a b : BitVec 32) : bits .and .u32 (wv a) (wv b) = wv (a &&& b) := by
  show IntKind.u32.wrap ((BitVec.ofInt 32 a.toNat &&& BitVec.ofInt 32 b.toNat).toNat : Int) = _
  rw [ofInt_toNat, ofInt_toNat, wrap32]; rfl
theorem wv_inj {a b : BitVec 32} (h : wv a = wv b) : a = b := by
  apply BitVec.eq_of_toNat_eq; unfold wv at h; omega
theorem wd_xor (a b c d a' b' c' d' : B) : wd a b c d ^^^ wd a' b' c' d' = wd (a ^^^ a') (b ^^^ b') (c ^^^ c') (d ^^^ d') := by
  unfold wd
  rw [BitVec.xor_append, BitVec.xor_append, BitVec.xor_append]
theorem wd_and (a b c d a' b' c' d' : B) : wd a b c d &&& wd a' b' c' d' = wd (a &&& a') (b &&& b') (c &&& c') (d &&& d') := by
  unfold wd
  rw [BitVec.and_append, BitVec.and_append, BitVec.and_append]
theorem wd_or (a b c d a' b' c' d' : B) : wd a b c d ||| wd a' b' c' d' = wd (a ||| a') (b ||| b') (c ||| c') (d ||| d') := by
  unfold wd
  rw [BitVec.or_append, BitVec.or_append, BitVec.or_append]
theorem bv0 : bv 0#8 = 0 := rfl
/-- Put together: byte by byte. -/
theorem wd_hi (a : B) : bv a * 16777216 = wv (wd a 0#8 0#8 0#8) := by rw [wv_wd, bv0]; omega
theorem wd_b (a : B) : bv a * 65536 = wv (wd 0#8 a 0#8 0#8) := by rw [wv_wd, bv0]; omega
theorem wd_c (a : B) : bv a * 256 = wv (wd 0#8 0#8 a 0#8) := by rw [wv_wd, bv0]; omega
theorem wd_lo (a : B) : bv a = wv (wd 0#8 0#8 0#8 a) := by rw [wv_wd, bv0]; omega
theorem wd_shl (a b c d : B) : wv (wd a b c d) * 256 % 4294967296 = wv (wd b c d 0#8) := by
  have h1 := bnd a; have h2 := bnd b; have h3 := bnd c; have h4 := bnd d
  rw [wv_wd, wv_wd, bv0]; omega
/-- Taken apart. -/
theorem wd_a_of (a b c d : B) : wv (wd a b c d) / 16777216 = bv a := by
  have h1 := bnd a; have h2 := bnd b; have h3 := bnd c; have h4 := bnd d
  rw [wv_wd]; omega
theorem wd_b_of (a b c d : B) : wv (wd a b c d) / 65536 % 256 = bv b := by
  have h1 := bnd a; have h2 := bnd b; have h3 := bnd c; have h4 := bnd d
  rw [wv_wd]; omega
theorem wd_c_of (a b c d : B) : wv (wd a b c d) / 256 % 256 = bv c := by
  have h1 := bnd a; have h2 := bnd b; have h3 := bnd c; have h4 := bnd d
  rw [wv_wd]; omega
theorem wd_d_of (a b c d : B) : wv (wd a b c d) % 256 = bv d := by
  have h1 := bnd a; have h2 := bnd b; have h3 := bnd c; have h4 := bnd d
  rw [wv_wd]; omega
/-- Every word is four bytes. -/
def w0 (x : BitVec 32) : B := BitVec.ofNat 8 (x.toNat / 16777216)
def w1 (x : BitVec 32) : B := BitVec.ofNat 8 (x.toNat / 65536)
def w2 (x : BitVec 32) : B := BitVec.ofNat 8 (x.toNat / 256)
def w3 (x : BitVec 32) : B := BitVec.ofNat 8 x.toNat
theorem wd_all (x : BitVec 32) : x = wd (w0 x) (w1 x) (w2 x) (w3 x) := by
  have := x.isLt
  apply BitVec.eq_of_toNat_eq
  rw [wd_nat]
  simp only [w0, w1, w2, w3, BitVec.toNat_ofNat]
  omega
theorem wd_eq {a b c d a' b' c' d' : B} (h : wd a b c d = wd a' b' c' d') : a = a' ∧ b = b' ∧ c = c' ∧ d = d' := by
  have e := congrArg BitVec.toNat h
  rw [wd_nat, wd_nat] at e
  have h1 := a.isLt; have h2 := b.isLt; have h3 := c.isLt; have h4 := d.isLt
  have g1 := a'.isLt; have g2 := b'.isLt; have g3 := c'.isLt; have g4 := d'.isLt
  refine ⟨?_, ?_, ?_, ?_⟩ <;> apply BitVec.eq_of_toNat_eq <;> omega
/-- Turned to the left. -/
theorem or_add {x y : Nat} (i : Nat) (a : Nat) (hx : x = a * 2 ^ i) (hy : y < 2 ^ i) : x ||| y = x + y := by
  subst hx
  rw [← Nat.shiftLeft_eq, Nat.shiftLeft_add_eq_or_of_lt hy]
theorem wd_left1 (a b c d : B) : bits .or .u32 (wv (wd a b c d) * 256 % 4294967296) (wv (wd a b c d) / 16777216) = wv (wd b c d a) := by
  rw [wd_shl, wd_a_of, wd_lo, or32, wd_or]; simp
theorem wd_shl2 (a b c d : B) : wv (wd a b c d) * 65536 % 4294967296 = wv (wd c d 0#8 0#8) := by
  have h1 := bnd a; have h2 := bnd b; have h3 := bnd c; have h4 := bnd d
  rw [wv_wd, wv_wd, bv0]; omega
theorem wd_shl3 (a b c d : B) : wv (wd a b c d) * 16777216 % 4294967296 = wv (wd d 0#8 0#8 0#8) := by
  have h1 := bnd a; have h2 := bnd b; have h3 := bnd c; have h4 := bnd d
  rw [wv_wd, wv_wd, bv0]; omega
theorem wd_shr2 (a b c d : B) : wv (wd a b c d) / 65536 = wv (wd 0#8 0#8 a b) := by
  have h1 := bnd a; have h2 := bnd b; have h3 := bnd c; have h4 := bnd d
  rw [wv_wd, wv_wd, bv0]; omega
theorem wd_shr3 (a b c d : B) : wv (wd a b c d) / 256 = wv (wd 0#8 a b c) := by
  have h1 := bnd a; have h2 := bnd b; have h3 := bnd c; have h4 := bnd d
  rw [wv_wd, wv_wd, bv0]; omega
theorem wd_left2 (a b c d : B) : bits .or .u32 (wv (wd a b c d) * 65536 % 4294967296) (wv (wd a b c d) / 65536) = wv (wd c d a b) := by
  rw [wd_shl2, wd_shr2, or32, wd_or]; simp
theorem wd_left3 (a b c d : B) : bits .or .u32 (wv (wd a b c d) * 16777216 % 4294967296) (wv (wd a b c d) / 256) = wv (wd d a b c) := by
  rw [wd_shl3, wd_shr3, or32, wd_or]; simp
/-- The doubles of four bytes at once. -/
theorem wd_shr7 (a b c d : B) : bits .and .u32 (wv (wd a b c d) / 128) 16843009 = wv (wd (a >>> 7) (b >>> 7) (c >>> 7) (d >>> 7)) := by
  have e : (16843009 : Int) = wv (wd 1#8 1#8 1#8 1#8) := by decide +kernel
  have e2 : wv (wd a b c d) / (128 : Int) = wv (wd (a >>> 7) ((a <<< 1) ||| (b >>> 7)) ((b <<< 1) ||| (c >>> 7)) ((c <<< 1) ||| (d >>> 7))) := by
    have h : ∀ a b : B, bv ((a <<< 1) ||| (b >>> 7)) = bv a % 128 * 2 + bv b / 128 := by
      intro a b
      unfold bv
      rw [BitVec.toNat_or, BitVec.toNat_shiftLeft, BitVec.toNat_ushiftRight]
      have h1 := a.isLt; have h2 := b.isLt
      rw [or_add 1 (a.toNat % 128) (by rw [Nat.shiftLeft_eq]; omega) (by rw [Nat.shiftRight_eq_div_pow]; omega), Nat.shiftLeft_eq, Nat.shiftRight_eq_div_pow]
      omega
    have h0 : bv (a >>> 7) = bv a / 128 := by
      unfold bv
      rw [BitVec.toNat_ushiftRight, Nat.shiftRight_eq_div_pow]; rfl
    have h1 := bnd a; have h2 := bnd b; have h3 := bnd c; have h4 := bnd d
    rw [wv_wd, wv_wd, h, h, h, h0]; omega
  have k : ∀ a b : B, ((a <<< 1) ||| (b >>> 7)) &&& 1#8 = b >>> 7 := by
    intro a b
    apply bv_inj.1
    have h1 := bnd a; have h2 := bnd b
    have q : ∀ x : B, bv (x &&& 1#8) = bv x % 2 := fun x => by
      unfold bv
      rw [BitVec.toNat_and, show BitVec.toNat 1#8 = 1 from rfl, Nat.and_one_is_mod]; rfl
    have h0 : bv (b >>> 7) = bv b / 128 := by
      unfold bv
      rw [BitVec.toNat_ushiftRight, Nat.shiftRight_eq_div_pow]; rfl
    have h : bv ((a <<< 1) ||| (b >>> 7)) = bv a % 128 * 2 + bv b / 128 := by
      unfold bv
      rw [BitVec.toNat_or, BitVec.toNat_shiftLeft, BitVec.toNat_ushiftRight]
      have h1 := a.isLt; have h2 := b.isLt
      rw [or_add 1 (a.toNat % 128) (by rw [Nat.shiftLeft_eq]; omega) (by rw [Nat.shiftRight_eq_div_pow]; omega), Nat.shiftLeft_eq, Nat.shiftRight_eq_div_pow]
      omega
    rw [q, h, h0]; omega
  have k0 : (a >>> 7) &&& 1#8 = a >>> 7 := (by decide +kernel : ∀ a : B, (a >>> 7) &&& 1#8 = a >>> 7) a
  rw [e, e2, and32, wd_and, k, k, k, k0]
theorem wd_and7f (a b c d : B) : bits .and .u32 (wv (wd a b c d)) 2139062143 = wv (wd (a &&& 0x7f#8) (b &&& 0x7f#8) (c &&& 0x7f#8) (d &&& 0x7f#8)) := by
  rw [show (2139062143 : Int) = wv (wd 0x7f#8 0x7f#8 0x7f#8 0x7f#8) by decide +kernel, and32, wd_and]
theorem wd_shl1 (a b c d : B) : wv (wd (a &&& 0x7f#8) (b &&& 0x7f#8) (c &&& 0x7f#8) (d &&& 0x7f#8)) * 2 % 4294967296 = wv (wd (a <<< 1) (b <<< 1) (c <<< 1) (d <<< 1)) := by
  have h : ∀ a : B, bv (a <<< 1) = bv (a &&& 0x7f#8) * 2 ∧ 0 ≤ bv (a &&& 0x7f#8) ∧ bv (a &&& 0x7f#8) < 128 := by decide +kernel
  have h1 := h a; have h2 := h b; have h3 := h c; have h4 := h d
  rw [wv_wd, wv_wd]; omega
theorem wd_mul (a b c d : B) : wv (wd (a >>> 7) (b >>> 7) (c >>> 7) (d >>> 7)) * 27 % 4294967296 = wv (wd ((a >>> 7) * 27#8) ((b >>> 7) * 27#8) ((c >>> 7) * 27#8) ((d >>> 7) * 27#8)) := by
  have h : ∀ a : B, bv ((a >>> 7) * 27#8) = bv (a >>> 7) * 27 ∧ 0 ≤ bv (a >>> 7) ∧ bv (a >>> 7) < 2 := by decide +kernel
  have h1 := h a; have h2 := h b; have h3 := h c; have h4 := h d
  rw [wv_wd, wv_wd]; omega
theorem wd_dbl (a b c d : B) : bits .xor .u32 (wv (wd (a <<< 1) (b <<< 1) (c <<< 1) (d <<< 1))) (wv (wd ((a >>> 7) * 27#8) ((b >>> 7) * 27#8) ((c >>> 7) * 27#8) ((d >>> 7) * 27#8))) = wv (wd (dbl a) (dbl b) (dbl c) (dbl d)) := by
  rw [xor32, wd_xor]; rfl
/-- Masks. -/
theorem wd_mask0 (a b c d : B) : bits .and .u32 (wv (wd a b c d)) 4278190080 = wv (wd a 0#8 0#8 0#8) := by
  rw [show (4278190080 : Int) = wv (wd 0xff#8 0#8 0#8 0#8) by decide +kernel, and32, wd_and, show (0xff#8 : B) = BitVec.allOnes 8 from rfl, BitVec.and_allOnes]; simp
theorem wd_mask1 (a b c d : B) : bits .and .u32 (wv (wd a b c d)) 16711680 = wv (wd 0#8 b 0#8 0#8) := by
  rw [show (16711680 : Int) = wv (wd 0#8 0xff#8 0#8 0#8) by decide +kernel, and32, wd_and, show (0xff#8 : B) = BitVec.allOnes 8 from rfl, BitVec.and_allOnes]; simp
theorem wd_mask2 (a b c d : B) : bits .and .u32 (wv (wd a b c d)) 65280 = wv (wd 0#8 0#8 c 0#8) := by
  rw [show (65280 : Int) = wv (wd 0#8 0#8 0xff#8 0#8) by decide +kernel, and32, wd_and, show (0xff#8 : B) = BitVec.allOnes 8 from rfl, BitVec.and_allOnes]; simp
theorem wd_mask3 (a b c d : B) : bits .and .u32 (wv (wd a b c d)) 255 = wv (wd 0#8 0#8 0#8 d) := by
  rw [show (255 : Int) = wv (wd 0#8 0#8 0#8 0xff#8) by decide +kernel, and32, wd_and, show (0xff#8 : B) = BitVec.allOnes 8 from rfl, BitVec.and_allOnes]; simp
end Go.Proofs.YtamieopjigjfiaaDoor

namespace Go.Proofs.YtamieopjigjfiaaDoor
set_option maxRecDepth 100000
open Go Go.RowKit Go.Sort

/-! Blocks as lists of sixteen bytes, and what is done on them. -/
theorem ext16 {l m : List B} (hl : l.length = 16) (hm : m.length = 16) (h : ∀ i < 16, l.getD i 0#8 = m.getD i 0#8) : l = m := by
  apply List.ext_getElem (by omega)
  intro i h1 h2
  have := h i (by omega)
  rwa [List.getD_eq_getElem?_getD, List.getElem?_eq_getElem h1, List.getD_eq_getElem?_getD, List.getElem?_eq_getElem h2] at this
def mk16 (f : Nat → B) : List B := pt f 16 16
theorem mk16_len (f : Nat → B) : (mk16 f).length = 16 := pt_len _ _ _
theorem mk16_get (f : Nat → B) {i : Nat} (h : i < 16) : (mk16 f).getD i 0#8 = f i := pt_get f 16 16 h h
def xorL (a b : List B) : List B := mk16 fun i => a.getD i 0#8 ^^^ b.getD i 0#8
def subL (l : List B) : List B := mk16 fun i => sb (l.getD i 0#8)
def unsubL (l : List B) : List B := mk16 fun i => bk (l.getD i 0#8)
def shiftL (l : List B) : List B := mk16 fun i => l.getD (i % 4 + 4 * ((i / 4 + i % 4) % 4)) 0#8
def unshiftL (l : List B) : List B := mk16 fun i => l.getD (i % 4 + 4 * ((i / 4 + 4 - i % 4) % 4)) 0#8
/-- The byte r of the column c, around and around. -/
def mg (l : List B) (c r : Nat) : B := l.getD (4 * c + r % 4) 0#8
def mixL (l : List B) : List B := mk16 fun i => dbl (mg l (i / 4) (i % 4)) ^^^ dbl (mg l (i / 4) (i % 4 + 1)) ^^^ mg l (i / 4) (i % 4 + 1) ^^^ mg l (i / 4) (i % 4 + 2) ^^^ mg l (i / 4) (i % 4 + 3)
def unmixL (l : List B) : List B := mixL (mixL (mixL l))
theorem xorL_get (a b : List B) {i : Nat} (h : i < 16) : (xorL a b).getD i 0#8 = a.getD i 0#8 ^^^ b.getD i 0#8 := mk16_get _ h
theorem subL_get (l : List B) {i : Nat} (h : i < 16) : (subL l).getD i 0#8 = sb (l.getD i 0#8) := mk16_get _ h
theorem unsubL_get (l : List B) {i : Nat} (h : i < 16) : (unsubL l).getD i 0#8 = bk (l.getD i 0#8) := mk16_get _ h
theorem shiftL_get (l : List B) {i : Nat} (h : i < 16) : (shiftL l).getD i 0#8 = l.getD (i % 4 + 4 * ((i / 4 + i % 4) % 4)) 0#8 := mk16_get _ h
theorem unshiftL_get (l : List B) {i : Nat} (h : i < 16) : (unshiftL l).getD i 0#8 = l.getD (i % 4 + 4 * ((i / 4 + 4 - i % 4) % 4)) 0#8 := mk16_get _ h
theorem xorL_len (a b : List B) : (xorL a b).length = 16 := mk16_len _
theorem subL_len (l : List B) : (subL l).length = 16 := mk16_len _
theorem unsubL_len (l : List B) : (unsubL l).length = 16 := mk16_len _
theorem shiftL_len (l : List B) : (shiftL l).length = 16 := mk16_len _
theorem unshiftL_len (l : List B) : (unshiftL l).length = 16 := mk16_len _
theorem mg_add4 (l : List B) (c r : Nat) : mg l c (r + 4) = mg l c r := by
  unfold mg; rw [Nat.add_mod_right]
theorem mg_mod (l : List B) (c r : Nat) (k : Nat) : mg l c (r % 4 + k) = mg l c (r + k) := by
  unfold mg; rw [show (r % 4 + k) % 4 = (r + k) % 4 by omega]
theorem mg_mod0 (l : List B) (c r : Nat) : mg l c (r % 4) = mg l c r := by
  unfold mg; rw [Nat.mod_mod]
theorem mg_mix (l : List B) (c r : Nat) (hc : c < 4) : mg (mixL l) c r = dbl (mg l c r) ^^^ dbl (mg l c (r + 1)) ^^^ mg l c (r + 1) ^^^ mg l c (r + 2) ^^^ mg l c (r + 3) := by
  have h1 : (4 * c + r % 4) / 4 = c := by omega
  have h2 : (4 * c + r % 4) % 4 = r % 4 := by omega
  rw [mg, mixL, mk16_get _ (by omega), h1, h2]
  simp only [mg_mod, mg_mod0]
theorem xor_cancel (x y : B) : x ^^^ (x ^^^ y) = y := by rw [← BitVec.xor_assoc, BitVec.xor_self, BitVec.zero_xor]
theorem xor_lc (x y z : B) : x ^^^ (y ^^^ z) = y ^^^ (x ^^^ z) := by ac_rfl
theorem mix2 (l : List B) (c r : Nat) (hc : c < 4) : mg (mixL (mixL l)) c r = dbl (dbl (mg l c r)) ^^^ mg l c r ^^^ dbl (dbl (mg l c (r + 2))) := by
  simp only [mg_mix _ _ _ hc, dbl_add _ _, Nat.add_assoc, Nat.reduceAdd]
  have e4 : mg l c (r + 4) = mg l c r := mg_add4 l c r
  have e5 : mg l c (r + 5) = mg l c (r + 1) := mg_add4 l c (r + 1)
  have e6 : mg l c (r + 6) = mg l c (r + 2) := mg_add4 l c (r + 2)
  simp only [e4, e5, e6]
  generalize mg l c r = a
  generalize mg l c (r + 1) = b
  generalize mg l c (r + 2) = d
  generalize mg l c (r + 3) = e
  generalize dbl (dbl a) = a2
  generalize dbl (dbl b) = b2
  generalize dbl (dbl d) = d2
  generalize dbl (dbl e) = e2
  generalize dbl a = a1
  generalize dbl b = b1
  generalize dbl d = d1
  generalize dbl e = e1
  simp only [BitVec.xor_assoc, BitVec.xor_comm, xor_lc, xor_cancel, BitVec.xor_self, BitVec.xor_zero]
theorem mix4 (l : List B) (c r : Nat) (hc : c < 4) : mg (mixL (mixL (mixL (mixL l)))) c r = mg l c r := by
  simp only [mix2 _ _ _ hc, dbl_add _ _, Nat.add_assoc, Nat.reduceAdd]
  have e4 : mg l c (r + 4) = mg l c r := mg_add4 l c r
  simp only [e4]
  generalize mg l c r = a
  generalize mg l c (r + 2) = d
  generalize dbl (dbl (dbl (dbl a))) = a4
  generalize dbl (dbl (dbl (dbl d))) = d4
  generalize dbl (dbl a) = a2
  generalize dbl (dbl d) = d2
  simp only [BitVec.xor_assoc, BitVec.xor_comm, xor_lc, xor_cancel, BitVec.xor_self, BitVec.xor_zero]
theorem mix_len (l : List B) : (mixL l).length = 16 := mk16_len _
theorem unmix_len (l : List B) : (unmixL l).length = 16 := mk16_len _
theorem mg_at (l : List B) (i : Nat) (_h : i < 16) : l.getD i 0#8 = mg l (i / 4) (i % 4) := by
  unfold mg; rw [show 4 * (i / 4) + i % 4 % 4 = i by omega]
theorem mix_four (l : List B) (hl : l.length = 16) : mixL (mixL (mixL (mixL l))) = l := by
  apply ext16 (mix_len _) hl
  intro i hi
  rw [mg_at _ i hi, mg_at l i hi, mix4 _ _ _ (by omega)]
theorem unmix_mix (l : List B) (hl : l.length = 16) : unmixL (mixL l) = l := mix_four l hl
theorem mix_unmix (l : List B) (hl : l.length = 16) : mixL (unmixL l) = l := mix_four l hl
theorem xor_xor (l k : List B) (hl : l.length = 16) : xorL (xorL l k) k = l := by
  apply ext16 (xorL_len _ _) hl
  intro i hi
  rw [xorL_get _ _ hi, xorL_get _ _ hi, BitVec.xor_assoc, BitVec.xor_self, BitVec.xor_zero]
theorem unsub_sub (l : List B) (hl : l.length = 16) : unsubL (subL l) = l := by
  apply ext16 (unsubL_len _) hl
  intro i hi
  rw [unsubL_get _ hi, subL_get _ hi, bk_sb]
theorem sub_unsub (l : List B) (hl : l.length = 16) : subL (unsubL l) = l := by
  apply ext16 (subL_len _) hl
  intro i hi
  rw [subL_get _ hi, unsubL_get _ hi, sb_bk]
theorem sh_un : ∀ i < 16, (i % 4 + 4 * ((i / 4 + 4 - i % 4) % 4)) % 4 + 4 * (((i % 4 + 4 * ((i / 4 + 4 - i % 4) % 4)) / 4 + (i % 4 + 4 * ((i / 4 + 4 - i % 4) % 4)) % 4) % 4) = i := by decide +kernel
theorem un_sh : ∀ i < 16, (i % 4 + 4 * ((i / 4 + i % 4) % 4)) % 4 + 4 * (((i % 4 + 4 * ((i / 4 + i % 4) % 4)) / 4 + 4 - (i % 4 + 4 * ((i / 4 + i % 4) % 4)) % 4) % 4) = i := by decide +kernel
theorem unshift_shift (l : List B) (hl : l.length = 16) : unshiftL (shiftL l) = l := by
  apply ext16 (unshiftL_len _) hl
  intro i hi
  rw [unshiftL_get _ hi, shiftL_get _ (by omega), sh_un i hi]
theorem shift_unshift (l : List B) (hl : l.length = 16) : shiftL (unshiftL l) = l := by
  apply ext16 (shiftL_len _) hl
  intro i hi
  rw [shiftL_get _ hi, unshiftL_get _ (by omega), un_sh i hi]
/-- The key of a round, out of all of them. -/
def kr (K : List B) (r : Nat) : List B := mk16 fun i => K.getD (16 * r + i) 0#8
/-- A block behind so many rounds. -/
def rnd5 (K l : List B) : Nat → List B
  | 0 => xorL l (kr K 0)
  | n + 1 => xorL (mixL (shiftL (subL (rnd5 K l n)))) (kr K (n + 1))
def enc (K l : List B) : List B := xorL (shiftL (subL (rnd5 K l 13))) (kr K 14)
/-- And back. -/
def dnd (K l : List B) : Nat → List B
  | 0 => unsubL (unshiftL (xorL l (kr K 14)))
  | n + 1 => unsubL (unshiftL (unmixL (xorL (dnd K l n) (kr K (13 - n)))))
def dec (K l : List B) : List B := xorL (dnd K l 13) (kr K 0)
theorem rnd_len (K l : List B) (n : Nat) : (rnd5 K l n).length = 16 := by cases n <;> exact mk16_len _
theorem enc_len (K l : List B) : (enc K l).length = 16 := mk16_len _
theorem dnd_len (K l : List B) (n : Nat) : (dnd K l n).length = 16 := by cases n <;> exact mk16_len _
theorem dec_len (K l : List B) : (dec K l).length = 16 := mk16_len _
theorem dnd_enc (K l : List B) : ∀ n ≤ 13, dnd K (enc K l) n = rnd5 K l (13 - n) := by
  intro n
  induction n with
  | zero => intro _; rw [dnd, enc, xor_xor _ _ (shiftL_len _), unshift_shift _ (subL_len _), unsub_sub _ (rnd_len _ _ _)]
  | succ n ih =>
    intro h
    rw [dnd, ih (by omega), show 13 - n = (13 - (n + 1)) + 1 by omega, rnd5, xor_xor _ _ (mix_len _), unmix_mix _ (shiftL_len _), unshift_shift _ (subL_len _), unsub_sub _ (rnd_len _ _ _)]
theorem dec_enc (K l : List B) (hl : l.length = 16) : dec K (enc K l) = l := by
  rw [dec, dnd_enc K l 13 (Nat.le_refl _), Nat.sub_self, rnd5, xor_xor _ _ hl]
theorem rnd_dec (K l : List B) : ∀ n ≤ 13, rnd5 K (dec K l) n = dnd K l (13 - n) := by
  intro n
  induction n with
  | zero => intro _; rw [rnd5, dec, xor_xor _ _ (dnd_len _ _ _)]
  | succ n ih =>
    intro h
    rw [rnd5, ih (by omega), show 13 - n = (13 - (n + 1)) + 1 by omega, dnd, sub_unsub _ (unshiftL_len _), shift_unshift _ (unmix_len _), mix_unmix _ (xorL_len _ _), show 13 - (13 - (n + 1)) = n + 1 by omega, xor_xor _ _ (dnd_len _ _ _)]
theorem enc_dec (K l : List B) (hl : l.length = 16) : enc K (dec K l) = l := by
  rw [enc, rnd_dec K l 13 (Nat.le_refl _), Nat.sub_self, dnd, sub_unsub _ (unshiftL_len _), shift_unshift _ (xorL_len _ _), xor_xor _ _ hl]
theorem enc_inj (K l m : List B) (hl : l.length = 16) (hm : m.length = 16) (h : enc K l = enc K m) : l = m := by
  rw [← dec_enc K l hl, h, dec_enc K m hm]

/-! The rounds' keys. -/
def put4 (l : List B) (i : Nat) (x : B × B × B × B) : List B := (((l.set (4 * i) x.1).set (4 * i + 1) x.2.1).set (4 * i + 2) x.2.2.1).set (4 * i + 3) x.2.2.2
/-- The mark of a column. -/
def mrk (i : Nat) : B := Nat.repeat dbl ((i - 1) / 8) 1#8
def colOf (l : List B) (i : Nat) : B × B × B × B := (l.getD (4 * i) 0#8, l.getD (4 * i + 1) 0#8, l.getD (4 * i + 2) 0#8, l.getD (4 * i + 3) 0#8)
def turnC (i : Nat) (x : B × B × B × B) : B × B × B × B :=
  if i % 8 = 0 then (sb x.2.1 ^^^ mrk i, sb x.2.2.1, sb x.2.2.2, sb x.1) else if i % 4 = 0 then (sb x.1, sb x.2.1, sb x.2.2.1, sb x.2.2.2) else x
def xorC (x y : B × B × B × B) : B × B × B × B := (x.1 ^^^ y.1, x.2.1 ^^^ y.2.1, x.2.2.1 ^^^ y.2.2.1, x.2.2.2 ^^^ y.2.2.2)
def colK (key l : List B) (i : Nat) : B × B × B × B := if i < 8 then colOf key i else xorC (colOf l (i - 8)) (turnC i (colOf l (i - 1)))
def ks (key : List B) : Nat → List B
  | 0 => List.replicate 240 0#8
  | n + 1 => put4 (ks key n) n (colK key (ks key n) n)
theorem put4_len (l : List B) (i : Nat) (x : B × B × B × B) : (put4 l i x).length = l.length := by simp [put4]
theorem ks_len (key : List B) (n : Nat) : (ks key n).length = 240 := by
  induction n with
  | zero => exact List.length_replicate
  | succ n ih => rw [ks, put4_len, ih]
end Go.Proofs.YtamieopjigjfiaaDoor

namespace Go.Proofs.YtamieopjigjfiaaDoor
set_option maxRecDepth 100000
open Go Go.RowKit Go.Sort
attribute [local go_sem] setCell_drewN alloc_drewN

/-! Words: turned, doubled, picked. -/
set_option maxHeartbeats 1000000 in
theorem a_rotw1 (a b c d : B) : Gives 93 #[.int .u32 (wv (wd a b c d)), .int .i64 8] (.int .u32 (wv (wd b c d a))) := by
  intro w
  have ha : bits .and .u64 8 31 = 8 := by decide +kernel
  have e := wd_left1 a b c d
  have hb := wnd (wd a b c d)
  go_enter Tryd.func93, Tryd.ntmps93
  go_wp2_with (simp only [ha])
  go_ret
  exact ⟨rfl, Below.refl _ _⟩
set_option maxHeartbeats 1000000 in
theorem a_left1 (a b c d : B) : Gives 77 #[.int .u32 (wv (wd a b c d)), .int .i64 1] (.int .u32 (wv (wd b c d a))) := by
  intro w
  have h := a_rotw1 a b c d
  go_enter Tryd.func77, Tryd.ntmps77
  go_wp2_with (fail)
  refine (h.at _).mono ?_
  rintro e w1 ⟨rfl, hb⟩
  go_wp2
  go_ret
  exact ⟨rfl, hb⟩
set_option maxHeartbeats 1000000 in
theorem a_rotw2 (a b c d : B) : Gives 93 #[.int .u32 (wv (wd a b c d)), .int .i64 16] (.int .u32 (wv (wd c d a b))) := by
  intro w
  have ha : bits .and .u64 16 31 = 16 := by decide +kernel
  have e := wd_left2 a b c d
  have hb := wnd (wd a b c d)
  go_enter Tryd.func93, Tryd.ntmps93
  go_wp2_with (simp only [ha])
  go_ret
  exact ⟨rfl, Below.refl _ _⟩
set_option maxHeartbeats 1000000 in
theorem a_left2 (a b c d : B) : Gives 77 #[.int .u32 (wv (wd a b c d)), .int .i64 2] (.int .u32 (wv (wd c d a b))) := by
  intro w
  have h := a_rotw2 a b c d
  go_enter Tryd.func77, Tryd.ntmps77
  go_wp2_with (fail)
  refine (h.at _).mono ?_
  rintro e w1 ⟨rfl, hb⟩
  go_wp2
  go_ret
  exact ⟨rfl, hb⟩
set_option maxHeartbeats 1000000 in
theorem a_rotw3 (a b c d : B) : Gives 93 #[.int .u32 (wv (wd a b c d)), .int .i64 24] (.int .u32 (wv (wd d a b c))) := by
  intro w
  have ha : bits .and .u64 24 31 = 24 := by decide +kernel
  have e := wd_left3 a b c d
  have hb := wnd (wd a b c d)
  go_enter Tryd.func93, Tryd.ntmps93
  go_wp2_with (simp only [ha])
  go_ret
  exact ⟨rfl, Below.refl _ _⟩
set_option maxHeartbeats 1000000 in
theorem a_left3 (a b c d : B) : Gives 77 #[.int .u32 (wv (wd a b c d)), .int .i64 3] (.int .u32 (wv (wd d a b c))) := by
  intro w
  have h := a_rotw3 a b c d
  go_enter Tryd.func77, Tryd.ntmps77
  go_wp2_with (fail)
  refine (h.at _).mono ?_
  rintro e w1 ⟨rfl, hb⟩
  go_wp2
  go_ret
  exact ⟨rfl, hb⟩
set_option maxHeartbeats 1000000 in
theorem a_wtwice (a b c d : B) : Gives 82 #[.int .u32 (wv (wd a b c d))] (.int .u32 (wv (wd (dbl a) (dbl b) (dbl c) (dbl d)))) := by
  intro w
  have e1 := wd_and7f a b c d
  have e2 := wd_shl1 a b c d
  have e3 := wd_shr7 a b c d
  have e4 := wd_mul a b c d
  have e5 := wd_dbl a b c d
  have hb := wnd (wd a b c d)
  go_enter Tryd.func82, Tryd.ntmps82
  go_wp2
  go_ret
  rw [← e5, ← e2, ← e4]
  exact ⟨rfl, Below.refl _ _⟩

end Go.Proofs.YtamieopjigjfiaaDoor
