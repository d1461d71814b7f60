import Derived.Test.YtilgicikcjcdjaaDoorProg
import Derived.WalkKit
import Derived.WalkSpells
import Derived.WalkLawsBesides
import Derived.Lib.QuietBelow
import Derived.BigQuiet
import Derived.Test.YtilgicikcjcdjaaDoorS0
import Derived.Test.YtilgicikcjcdjaaDoorRows
import Derived.ProofKit
import Derived.LaidMore
import Derived.OpenShut
import Derived.Stop.Joined
namespace Go.Proofs.YtilgicikcjcdjaaDoor
set_option maxRecDepth 100000
open Go Go.RowKit Go.Sort
attribute [local go_sem] setCell_drewN alloc_drewN

/-- Four bytes as a word. -/
def w4 (a b c d : Int) : Int := bits .or .u32 (bits .or .u32 (bits .or .u32 (a * 16777216) (b * 65536)) (c * 256)) d
def wrd (b : List Int) (t : Nat) : Int := w4 (b.getD (4 * t) 0) (b.getD (4 * t + 1) 0) (b.getD (4 * t + 2) 0) (b.getD (4 * t + 3) 0)
/-- The words of a block. -/
def wds (b : List Int) (t : Nat) : Int := if t < 16 then wrd b t else (lo1 (wds b (t - 2)) + wds b (t - 7) + lo0 (wds b (t - 15)) + wds b (t - 16)) % 4294967296
termination_by t
theorem wds_lo (b : List Int) {t : Nat} (h : t < 16) : wds b t = wrd b t := by rw [wds, if_pos h]
theorem wds_hi (b : List Int) {t : Nat} (h : ¬ t < 16) : wds b t = (lo1 (wds b (t - 2)) + wds b (t - 7) + lo0 (wds b (t - 15)) + wds b (t - 16)) % 4294967296 := by rw [wds, if_neg h]
/-- The first t of sixty-four, then zeros. -/
def prt (W : Nat → Int) (t : Nat) : List Int := (List.range 64).map fun j => if j < t then W j else 0
theorem prt_len (W : Nat → Int) (t : Nat) : (prt W t).length = 64 := by simp [prt]
theorem prt_get (W : Nat → Int) (t : Nat) {j : Nat} (h : j < t) (h2 : j < 64) : (prt W t).getD j 0 = W j := by
  simp [prt, List.getD_eq_getElem?_getD, h2, h]
theorem prt_set (W : Nat → Int) (t : Nat) (h : t < 64) : (prt W t).set t (W t) = prt W (t + 1) := by
  apply List.ext_getElem?
  intro j
  rw [List.getElem?_set]
  by_cases e : t = j
  · subst e
    rw [if_pos rfl, if_pos (by rw [prt_len]; exact h)]
    simp [prt, h]
  · rw [if_neg e]
    simp only [prt, List.getElem?_map]
    by_cases hj : j < 64
    · simp only [List.getElem?_range hj, Option.map_some]
      by_cases h1 : j < t
      · rw [if_pos h1, if_pos (by omega)]
      · rw [if_neg h1, if_neg (by omega)]
    · rw [List.getElem?_eq_none (by simp; omega)]; rfl
theorem prt_zero (W : Nat → Int) : prt W 0 = zr 64 := rfl
set_option maxHeartbeats 1000000 in
theorem a_word (g off cap : Nat) (z0 z1 z2 z3 : Int) (W : World) (b0 : 0 ≤ z0 ∧ z0 < 256) (b1 : 0 ≤ z1 ∧ z1 < 256) (b2 : 0 ≤ z2 ∧ z2 < 256) (b3 : 0 ≤ z3 ∧ z3 < 256) (c0 : W.cell? ⟨g, off + 0, none⟩ = some (.int .u8 z0)) (c1 : W.cell? ⟨g, off + 1, none⟩ = some (.int .u8 z1)) (c2 : W.cell? ⟨g, off + 2, none⟩ = some (.int .u8 z2)) (c3 : W.cell? ⟨g, off + 3, none⟩ = some (.int .u8 z3)) : Calls Tryd.prog 56 #[.slice (some ⟨g, off, none⟩) 4 cap] W fun e w' => e = .returned (.int .u32 (w4 z0 z1 z2 z3)) ∧ Below W.heap.size W w' := by
  rw [Nat.add_zero] at c0
  have hw : Below W.heap.size W W := Below.refl _ _
  go_enter Tryd.func56, Tryd.ntmps56
  go_wp2
  have k0 : ∀ p : Regrown, (grow (redrawn W p.d) p.os).cell? ⟨g, off, none⟩ = some (.int .u8 z0) := fun p => cell_regrown (c0) p.d p.os
  have k1 : ∀ p : Regrown, (grow (redrawn W p.d) p.os).cell? ⟨g, off + 1, none⟩ = some (.int .u8 z1) := fun p => cell_regrown (c1) p.d p.os
  have k2 : ∀ p : Regrown, (grow (redrawn W p.d) p.os).cell? ⟨g, off + 2, none⟩ = some (.int .u8 z2) := fun p => cell_regrown (c2) p.d p.os
  have k3 : ∀ p : Regrown, (grow (redrawn W p.d) p.os).cell? ⟨g, off + 3, none⟩ = some (.int .u8 z3) := fun p => cell_regrown (c3) p.d p.os
  refine wp_region_quiet_below (by kernel_rfl) (by kernel_rfl) ?_
  go_big_quiet_step (fail)
  go_big_quiet_step (fail)
  go_big_quiet_step (fail)
  go_big_quiet_step (fail)
  go_big_quiet_step (fail)
  go_big_quiet_step (fail)
  go_big_quiet_step (fail)
  go_big_quiet_step (fail)
  go_big_quiet_step (fail)
  go_big_quiet_step (fail)
  go_big_quiet_step (fail)
  go_big_quiet_step (fail)
  go_big_quiet_step (fail)
  go_big_quiet_step (fail)
  go_big_quiet_step (fail)
  go_big_quiet_step (fail)
  go_big_quiet_step (fail)
  go_big_quiet_step (fail)
  go_big_quiet_step (fail)
  go_big_quiet_step (fail)
  go_big_quiet_step (fail)
  go_big_quiet_step (fail)
  go_big_quiet_step (fail)
  refine wpQuiet_nil ?_
  rintro _ ⟨p, rfl⟩
  have hb := below_regrown W p.d p.os
  generalize grow (redrawn W p.d) p.os = w1 at *
  clear k0 k1 k2 k3
  replace hw := Below.after hw hb
  clear hb

  go_wp2
  go_ret
  exact ⟨rfl, hw⟩
theorem bound_at {l : List Int} (hz : ∀ z ∈ l, 0 ≤ z ∧ z < 256) (j : Nat) (hj : j < l.length) : 0 ≤ l.getD j 0 ∧ l.getD j 0 < 256 := by
  apply hz
  rw [List.getD_eq_getElem?_getD, List.getElem?_eq_getElem hj]
  exact List.getElem_mem _
theorem slice4 (g k : Nat) (hk : k < 16) (W : World) : (Instr.sliceAt 78 (.pointer (some ⟨g, 0, none⟩)) (some (.int .i64 (4 * (k : Int)))) (some (.int .i64 (4 * (k : Int) + 4))) (some (.int .i64 (4 * (k : Int) + 4)))).run Tryd.prog W = .ok (.slice (some ⟨g, 4 * k, none⟩) 4 4) W := by
  have ht : Tryd.prog.underlying 78 = some (.array (Tryd.prog.arrayLen 78) (Tryd.prog.elem 78)) := by kernel_rfl
  have hn : Tryd.prog.arrayLen 78 = 64 := by kernel_rfl
  have hs : (sizeOf (Tryd.prog.elem 78)).run Tryd.prog W = .ok 1 W := by kernel_rfl
  rw [run_sliceAt_array_lhm W _ _ ht .i64 .i64 .i64 _ _ _ (by omega) (by omega) (by omega) (by rw [hn]; omega), hs]
  show Result.ok (slicedAt _ _ _ _ 1) W = _
  have e1 : (4 * (k : Int)).toNat = 4 * k := by omega
  have e2 : (4 * (k : Int) + 4).toNat = 4 * k + 4 := by omega
  rw [e1, e2, slicedAt, if_neg (by omega), addr_add]
  simp
theorem info57 (W : Nat → Int) (t : Nat) : (Tryd.prog.info? 95).map (·.size) = some (irow .u32 (prt W t)).size := by
  rw [irow_size, prt_len]; kernel_rfl
theorem fit57 (W V : Nat → Int) (t u : Nat) : (irow .u32 (prt W t)).size = (irow .u32 (prt V u)).size := by
  rw [irow_size, irow_size, prt_len, prt_len]
set_option maxRecDepth 100000 in
set_option maxHeartbeats 4000000 in
theorem a_spread (l : List Int) (hl : l.length = 64) (hz : ∀ z ∈ l, 0 ≤ z ∧ z < 256) : Gives 47 #[.agg (irow .u8 l)] (.agg (irow .u32 (prt (wds l) 64))) := by
  intro w
  have R0 := hp3_0 w (.cells (irow .u8 l) 78) (.cells (irow .u32 (zr 64)) 95) (.cells (irow .u32 (zr 64)) 95)
  have R1 := hp3_1 w (.cells (irow .u8 l) 78) (.cells (irow .u32 (zr 64)) 95) (.cells (irow .u32 (zr 64)) 95)
  have R2 := hp3_2 w (.cells (irow .u8 l) 78) (.cells (irow .u32 (zr 64)) 95) (.cells (irow .u32 (zr 64)) 95)
  have HW : Below w.heap.size w (((w.alloc (.cells (irow .u8 l) 78)).alloc (.cells (irow .u32 (zr 64)) 95)).alloc (.cells (irow .u32 (zr 64)) 95)) := ((((Below.refl _ _).alloc (Nat.le_refl _) _).alloc (by simp) _).alloc (by simp; omega) _)

  go_enter Tryd.func47, Tryd.ntmps47
  go_wp2_with (first | (refine wpList_box rfl 78 _ rfl _ rfl (b24 _) ?_) | (refine wpList_alloc rfl 95 rfl (irow .u32 (zr 64)) z57 ?_) | fail)
  generalize (((w.alloc (.cells (irow .u8 l) 78)).alloc (.cells (irow .u32 (zr 64)) 95)).alloc (.cells (irow .u32 (zr 64)) 95)) = w0 at *
  rw [← prt_zero (wds l)] at R1 R2
  go_loopw [10] (fun i wr => ∃ k : Nat, k ≤ 16 ∧ i = .int .i64 k ∧ wr.heap[w.heap.size]? = some (.cells (irow .u8 l) 78 (0, 0)) ∧ wr.heap[w.heap.size + 1]? = some (.cells (irow .u32 (prt (wds l) 0)) 95 (0, 0)) ∧ wr.heap[w.heap.size + 1 + 1]? = some (.cells (irow .u32 (prt (wds l) k)) 95 (0, 0)) ∧ Below w.heap.size w wr) (fun i _ => 16 - (intOf i).toNat)
  case atStart => exact ⟨0, by omega, rfl, R0, R1, R2, HW⟩
  case round =>
    clear R0 R1 R2 HW
    obtain ⟨k, hk, rfl, r0, r1, r2, hw⟩ := hrel
    by_cases hlt : k < 16
    · have hd : decide ((k : Int) < 16) = true := by simp; omega
      have c0 := irow_cell r0 (j := 4 * k + 0) (by omega)
      have c1 := irow_cell r0 (j := 4 * k + 1) (by omega)
      have c2 := irow_cell r0 (j := 4 * k + 2) (by omega)
      have c3 := irow_cell r0 (j := 4 * k + 3) (by omega)
      have b0 := bound_at hz (4 * k) (by omega)
      have b1 := bound_at hz (4 * k + 1) (by omega)
      have b2 := bound_at hz (4 * k + 2) (by omega)
      have b3 := bound_at hz (4 * k + 3) (by omega)
      have hsl := slice4 w.heap.size k hlt wr
      have hcall := fun cap => a_word _ (4 * k) cap _ _ _ _ wr b0 b1 b2 b3 c0 c1 c2 c3
      have e : w4 (l.getD (4 * k) 0) (l.getD (4 * k + 1) 0) (l.getD (4 * k + 2) 0) (l.getD (4 * k + 3) 0) = wds l k := by rw [wds_lo _ hlt]; rfl
      rw [e] at hcall
      clear e b0 b1 b2 b3 c0 c1 c2 c3
      have hset := prt_set (wds l) k (by omega)
      have hpl := prt_len (wds l) k
      generalize wds l k = z at *
      go_wp2_with (fail)
      refine (hcall _).mono ?_
      rintro e w1 ⟨rfl, hb⟩
      replace r0 := keep hb r0
      replace r1 := keep hb r1
      replace r2 := keep hb r2
      replace hw := Below.after hw hb
      have cz := irow_cell r2 (j := k) (by omega)
      have hf := row_frozen r2 k
      clear hcall hb
      go_wp2
      go_roundw
      case rel => exact ⟨k + 1, by omega, by go_num, heap_other r0 (by omega), heap_other r1 (by omega), by rw [← hset]; exact irow_set r2 k z, hw.setCell (show w.heap.size ≤ w.heap.size + 1 + 1 by omega) _⟩
      case measure => simp [intOf]; omega
    · obtain rfl : k = 16 := by omega
      have hd : decide ((16 : Int) < 16) = false := by decide
      go_wp2
      go_loopw [5] (fun i wr => ∃ k : Nat, 16 ≤ k ∧ k ≤ 64 ∧ i = .int .i64 k ∧ wr.heap[w.heap.size]? = some (.cells (irow .u8 l) 78 (0, 0)) ∧ wr.heap[w.heap.size + 1]? = some (.cells (irow .u32 (prt (wds l) 0)) 95 (0, 0)) ∧ wr.heap[w.heap.size + 1 + 1]? = some (.cells (irow .u32 (prt (wds l) k)) 95 (0, 0)) ∧ Below w.heap.size w wr) (fun i _ => 64 - (intOf i).toNat)
      case atStart => exact ⟨16, by omega, by omega, rfl, r0, r1, r2, hw⟩
      case round =>
        clear r0 r1 r2 hw hd
        obtain ⟨k, hk0, hk, rfl, r0, r1, r2, hw⟩ := hrel
        by_cases hlt : k < 64
        · have hd : decide ((k : Int) < 64) = true := by simp; omega
          have d15 := irow_cell r2 (j := k - 15) (by rw [prt_len]; omega)
          have d2 := irow_cell r2 (j := k - 2) (by rw [prt_len]; omega)
          rw [prt_get _ _ (by omega) (by omega)] at d15 d2
          have c7 := a_right (wds l (k - 15)) 7 (by decide) (by decide)
          have c18 := a_right (wds l (k - 15)) 18 (by decide) (by decide)
          have c17 := a_right (wds l (k - 2)) 17 (by decide) (by decide)
          have c19 := a_right (wds l (k - 2)) 19 (by decide) (by decide)
          have hset := prt_set (wds l) k (by omega)
          have hpl := prt_len (wds l) k
          have e := wds_hi l (t := k) (by omega)
          have e7 := prt_get (wds l) k (j := k - 7) (by omega) (by omega)
          have e16 := prt_get (wds l) k (j := k - 16) (by omega) (by omega)
          unfold lo0 lo1 at e
          generalize rot (wds l (k - 15)) 7 = q7 at *
          generalize rot (wds l (k - 15)) 18 = q18 at *
          generalize rot (wds l (k - 2)) 17 = q17 at *
          generalize rot (wds l (k - 2)) 19 = q19 at *
          generalize wds l (k - 15) = x15 at *
          generalize wds l (k - 2) = x2 at *
          generalize wds l (k - 7) = x7 at *
          generalize wds l (k - 16) = x16 at *
          generalize wds l k = z at *
          replace e := hide e
          replace hset := hide hset
          go_wp2
          have k15 : ∀ p : Regrown, (grow (redrawn wr p.d) p.os).cell? ⟨w.heap.size + 1 + 1, k - 15, none⟩ = some (.int .u32 x15) := fun p => cell_regrown (d15) p.d p.os
          have k2 : ∀ p : Regrown, (grow (redrawn wr p.d) p.os).cell? ⟨w.heap.size + 1 + 1, k - 2, none⟩ = some (.int .u32 x2) := fun p => cell_regrown (d2) p.d p.os
          refine wp_region_quiet_below (by kernel_rfl) (by kernel_rfl) ?_
          go_big_quiet_step (fail)
          go_big_quiet_step (fail)
          go_big_quiet_step (fail)
          go_big_quiet_step (fail)
          go_big_quiet_step (fail)
          go_big_quiet_step (fail)
          go_big_quiet_step (fail)
          go_big_quiet_step (fail)
          go_big_quiet_step (fail)
          go_big_quiet_step (fail)
          refine wpQuiet_nil ?_
          rintro _ ⟨p, rfl⟩
          have hb := below_regrown wr p.d p.os
          generalize grow (redrawn wr p.d) p.os = w1 at *
          clear k15 k2
          replace r0 := keep hb r0
          replace r1 := keep hb r1
          replace r2 := keep hb r2
          replace hw := Below.after hw hb
          clear hb

          go_wp2_with (fail)
          refine (c7.at _).mono ?_
          rintro e_ w2 ⟨rfl, hb⟩
          replace r0 := keep hb r0
          replace r1 := keep hb r1
          replace r2 := keep hb r2
          replace hw := Below.after hw hb
          clear hb

          go_wp2_with (fail)
          refine (c18.at _).mono ?_
          rintro e_ w3 ⟨rfl, hb⟩
          replace r0 := keep hb r0
          replace r1 := keep hb r1
          replace r2 := keep hb r2
          replace hw := Below.after hw hb
          clear hb

          go_wp2_with (fail)
          refine (c17.at _).mono ?_
          rintro e_ w4_ ⟨rfl, hb⟩
          replace r0 := keep hb r0
          replace r1 := keep hb r1
          replace r2 := keep hb r2
          replace hw := Below.after hw hb
          clear hb

          go_wp2_with (fail)
          refine (c19.at _).mono ?_
          rintro e_ w5 ⟨rfl, hb⟩
          replace r0 := keep hb r0
          replace r1 := keep hb r1
          replace r2 := keep hb r2
          replace hw := Below.after hw hb
          clear hb

          have d7 := irow_cell r2 (j := k - 7) (by omega)
          have d16 := irow_cell r2 (j := k - 16) (by omega)
          rw [e7] at d7
          rw [e16] at d16
          clear e7 e16
          go_wp2
          have k7 : ∀ p : Regrown, (grow (redrawn w5 p.d) p.os).cell? ⟨w.heap.size + 1 + 1, k - 7, none⟩ = some (.int .u32 x7) := fun p => cell_regrown (d7) p.d p.os
          have k16 : ∀ p : Regrown, (grow (redrawn w5 p.d) p.os).cell? ⟨w.heap.size + 1 + 1, k - 16, none⟩ = some (.int .u32 x16) := fun p => cell_regrown (d16) p.d p.os
          refine wp_region_tail (C := fun w' => ∃ p : Regrown, w' = grow (redrawn w5 p.d) p.os) 15 _ rfl rfl rfl (by kernel_rfl) (by kernel_rfl) (by kernel_rfl) (by kernel_rfl) ⟨⟨w5.drawn + 1, #[]⟩, by rw [grow_empty]; rfl⟩ ?_
          dsimp only [List.set, idle]
          go_big_quiet_step (fail)
          go_big_quiet_step (fail)
          go_big_quiet_step (fail)
          go_big_quiet_step (fail)
          go_big_quiet_step (fail)
          go_big_quiet_step (fail)
          go_big_quiet_step (fail)
          go_big_quiet_step (fail)
          go_big_quiet_step (fail)
          go_big_quiet_step (fail)
          go_big_quiet_step (fail)
          go_big_quiet_step (fail)
          go_big_quiet_step (fail)
          go_big_quiet_step (fail)
          go_big_quiet_step (fail)
          refine wpQuiet_idle rfl rfl rfl ?_
          rintro _ ⟨p, rfl⟩
          have hb := below_regrown w5 p.d p.os
          generalize grow (redrawn w5 p.d) p.os = w6 at *
          clear k7 k16
          replace r0 := keep hb r0
          replace r1 := keep hb r1
          replace r2 := keep hb r2
          replace hw := Below.after hw hb
          clear hb

          have cz := irow_cell r2 (j := k) (by omega)
          have hf := row_frozen r2 k
          go_wp2
          refine ⟨?_, ?measure⟩
          apply Exists.intro
          apply Exists.intro
          repeat apply Exists.intro
          refine ⟨?rel, rfl⟩
          case rel => exact ⟨k + 1, by omega, by omega, by go_num, heap_other r0 (by omega), heap_other r1 (by omega), by rw [← hset.out, e.out]; exact irow_set r2 k _, hw.setCell (show w.heap.size ≤ w.heap.size + 1 + 1 by omega) _⟩
          case measure => simp [intOf]; omega
        · obtain rfl : k = 64 := by omega
          have hd : decide ((64 : Int) < 64) = false := by decide
          go_wp2_with (first | (refine wpList_load_want rfl 95 _ rfl (w.heap.size + 1 + 1) rfl 95 (irow .u32 (prt (wds l) 64)) (0, 0) _ r2 Tryd.underlying95 rfl (info57 _ _) ?_) | (refine wpList_store_row rfl 95 _ _ rfl (w.heap.size + 1) (irow .u32 (prt (wds l) 64)) rfl rfl 95 _ r1 (info57 _ _) (fit57 _ _ _ _) (irow_one _ _) ?_) | fail)
          replace r1 := setRow_heap wr (w.heap.size + 1) _ (irow .u32 (prt (wds l) 64)) _ _ r1
          replace hw := below_setRow hw (show w.heap.size ≤ w.heap.size + 1 by omega) (irow .u32 (prt (wds l) 64))
          generalize wr.setRow (w.heap.size + 1) (irow .u32 (prt (wds l) 64)) = w9 at *
          exact bodyPost_ret (v := .agg (irow .u32 (prt (wds l) 64))) (results_cell_row Tryd.results47 _ _ (w.heap.size + 1) _ _ _ _ rfl r1 Tryd.underlying95 rfl (info57 _ _)) rfl ⟨rfl, hw⟩

end Go.Proofs.YtilgicikcjcdjaaDoor


namespace Go.Proofs.YtilgicikcjcdjaaDoor
set_option maxRecDepth 100000
open Go Go.RowKit Go.Sort
attribute [local go_sem] setCell_drewN alloc_drewN

/-- The constants; the start. -/
def kl : List Int := [1116352408, 1899447441, 3049323471, 3921009573, 961987163, 1508970993, 2453635748, 2870763221, 3624381080, 310598401, 607225278, 1426881987, 1925078388, 2162078206, 2614888103, 3248222580, 3835390401, 4022224774, 264347078, 604807628, 770255983, 1249150122, 1555081692, 1996064986, 2554220882, 2821834349, 2952996808, 3210313671, 3336571891, 3584528711, 113926993, 338241895, 666307205, 773529912, 1294757372, 1396182291, 1695183700, 1986661051, 2177026350, 2456956037, 2730485921, 2820302411, 3259730800, 3345764771, 3516065817, 3600352804, 4094571909, 275423344, 430227734, 506948616, 659060556, 883997877, 958139571, 1322822218, 1537002063, 1747873779, 1955562222, 2024104815, 2227730452, 2361852424, 2428436474, 2756734187, 3204031479, 3329325298]
def sl : List Int := [1779033703, 3144134277, 1013904242, 2773480762, 1359893119, 2600822924, 528734635, 1541459225]
/-- What the package variables hold. -/
def Kon (W : World) : Prop := ∃ t fr, W.heap[1]? = some (.cells (irow .u32 kl) t fr)
def Sta (W : World) : Prop := ∃ t fr, W.heap[0]? = some (.cells (irow .u32 sl) t fr)
theorem Kon.sz {W : World} (h : Kon W) : 1 < W.heap.size := by obtain ⟨_, _, h⟩ := h; exact (Array.getElem?_eq_some_iff.1 h).1
theorem Kon.belowN {W W' : World} {n : Nat} (h : Kon W) (hn : 1 < n) (hb : Below n W W') : Kon W' := by obtain ⟨t, fr, h⟩ := h; exact ⟨t, fr, (hb.block 1 hn).trans h⟩
theorem Kon.below {W W' : World} (h : Kon W) (hb : Below W.heap.size W W') : Kon W' := h.belowN h.sz hb
theorem Sta.sz {W : World} (h : Sta W) : 0 < W.heap.size := by obtain ⟨_, _, h⟩ := h; exact (Array.getElem?_eq_some_iff.1 h).1
theorem Sta.belowN {W W' : World} {n : Nat} (h : Sta W) (hn : 0 < n) (hb : Below n W W') : Sta W' := by obtain ⟨t, fr, h⟩ := h; exact ⟨t, fr, (hb.block 0 hn).trans h⟩
theorem Sta.below {W W' : World} (h : Sta W) (hb : Below W.heap.size W W') : Sta W' := h.belowN h.sz hb
theorem Kon.cell {W : World} (h : Kon W) (j : Nat) (hj : j < 64) : W.cell? ⟨1, j, none⟩ = some (.int .u32 (kl.getD j 0)) := by
  obtain ⟨t, fr, h⟩ := h
  rw [cell_of_row _ _ _ _ _ _ h]
  exact irow_get _ _ _ hj
/-- A call where the constants lie. -/
def Gives1 (f : FuncId) (args : Array Value) (v : Value) : Prop := ∀ W, Kon W → Calls Tryd.prog f args W fun e w' => e = .returned v ∧ Below W.heap.size W w'
theorem Gives1.at {f : FuncId} {args : Array Value} {v : Value} (h : Gives1 f args v) {W : World} (hW : Kon W) : Calls Tryd.prog f args W fun e w' => e = .returned v ∧ Below W.heap.size W w' := h W hW
theorem Gives1.re {f : FuncId} {args : Array Value} {v : Value} (h : Gives1 f args v) {w : World} {d : Nat} {os : Array Obj} (hw : Kon w) : Calls Tryd.prog f args (grow (redrawn w d) os) fun e w'' => e = .returned v ∧ ∃ p : Regrown, w'' = grow (redrawn w p.d) p.os := Calls.regrown_of (h _ (hw.below (below_regrown w d os)))

/-- Eight words. -/
structure St8 where
  (a b c d e f g h : Int)
def notx (x : Int) : Int := bits .xor .u32 IntKind.u32.max x
def one1 (k w : Int) (s : St8) : Int := (s.h + up1 s.e + bits .xor .u32 (bits .and .u32 s.e s.f) (bits .and .u32 (notx s.e) s.g) + k + w) % 4294967296
def two2 (s : St8) : Int := (up0 s.a + bits .xor .u32 (bits .xor .u32 (bits .and .u32 s.a s.b) (bits .and .u32 s.a s.c)) (bits .and .u32 s.b s.c)) % 4294967296
def rnd (k w : Int) (s : St8) : St8 := ⟨(one1 k w s + two2 s) % 4294967296, s.a, s.b, s.c, (s.d + one1 k w s) % 4294967296, s.e, s.f, s.g⟩
def st0 (h : List Int) : St8 := ⟨h.getD 0 0, h.getD 1 0, h.getD 2 0, h.getD 3 0, h.getD 4 0, h.getD 5 0, h.getD 6 0, h.getD 7 0⟩
def rs (h : List Int) (W : Nat → Int) : Nat → St8
  | 0 => st0 h
  | t + 1 => rnd (kl.getD t 0) (W t) (rs h W t)
def St8.list (s : St8) : List Int := [s.a, s.b, s.c, s.d, s.e, s.f, s.g, s.h]
set_option maxRecDepth 100000 in
set_option maxHeartbeats 4000000 in
theorem a_mixed (h : List Int) (hl : h.length = 8) (W : Nat → Int) : Gives1 46 #[.agg (irow .u32 h), .agg (irow .u32 (prt W 64))] (.agg (irow .u32 (rs h W 64).list)) := by
  intro w hK
  have R0 := hp3_0 w (.cells (irow .u32 h) 77) (.cells (irow .u32 (prt W 64)) 95) (.cells (irow .u32 (zr 8)) 77)
  have R1 := hp3_1 w (.cells (irow .u32 h) 77) (.cells (irow .u32 (prt W 64)) 95) (.cells (irow .u32 (zr 8)) 77)
  have R2 := hp3_2 w (.cells (irow .u32 h) 77) (.cells (irow .u32 (prt W 64)) 95) (.cells (irow .u32 (zr 8)) 77)
  have HW : Below w.heap.size w (((w.alloc (.cells (irow .u32 h) 77)).alloc (.cells (irow .u32 (prt W 64)) 95)).alloc (.cells (irow .u32 (zr 8)) 77)) := ((((Below.refl _ _).alloc (Nat.le_refl _) _).alloc (by simp) _).alloc (by simp; omega) _)

  have f4 := hK.below HW
  clear hK
  go_enter Tryd.func46, Tryd.ntmps46
  go_wp2_with (first | (refine wpList_box rfl 77 _ rfl _ rfl (b23 _) ?_) | (refine wpList_box rfl 95 _ rfl _ rfl (b57 _) ?_) | (refine wpList_alloc rfl 77 rfl (irow .u32 (zr 8)) z23 ?_) | fail)
  simp only [size_alloc1, Act.put, List.setIfInBounds_toArray, List.set_cons_succ, List.set_cons_zero]
  generalize (((w.alloc (.cells (irow .u32 h) 77)).alloc (.cells (irow .u32 (prt W 64)) 95)).alloc (.cells (irow .u32 (zr 8)) 77)) = w0 at *
  have d0 := irow_cell R0 (j := 0) (by omega)
  have d1 := irow_cell R0 (j := 1) (by omega)
  have d2 := irow_cell R0 (j := 2) (by omega)
  have d3 := irow_cell R0 (j := 3) (by omega)
  have d4 := irow_cell R0 (j := 4) (by omega)
  have d5 := irow_cell R0 (j := 5) (by omega)
  have d6 := irow_cell R0 (j := 6) (by omega)
  have d7 := irow_cell R0 (j := 7) (by omega)
  have hst : rs h W 0 = st0 h := rfl
  unfold st0 at hst
  generalize h.getD 0 0 = z0 at *
  generalize h.getD 1 0 = z1 at *
  generalize h.getD 2 0 = z2 at *
  generalize h.getD 3 0 = z3 at *
  generalize h.getD 4 0 = z4 at *
  generalize h.getD 5 0 = z5 at *
  generalize h.getD 6 0 = z6 at *
  generalize h.getD 7 0 = z7 at *
  replace hst := hide hst
  have k0 : ∀ p : Regrown, (grow (redrawn w0 p.d) p.os).cell? ⟨w.heap.size, 0, none⟩ = some (.int .u32 z0) := fun p => cell_regrown (d0) p.d p.os
  have k1 : ∀ p : Regrown, (grow (redrawn w0 p.d) p.os).cell? ⟨w.heap.size, 1, none⟩ = some (.int .u32 z1) := fun p => cell_regrown (d1) p.d p.os
  have k2 : ∀ p : Regrown, (grow (redrawn w0 p.d) p.os).cell? ⟨w.heap.size, 2, none⟩ = some (.int .u32 z2) := fun p => cell_regrown (d2) p.d p.os
  have k3 : ∀ p : Regrown, (grow (redrawn w0 p.d) p.os).cell? ⟨w.heap.size, 3, none⟩ = some (.int .u32 z3) := fun p => cell_regrown (d3) p.d p.os
  have k4 : ∀ p : Regrown, (grow (redrawn w0 p.d) p.os).cell? ⟨w.heap.size, 4, none⟩ = some (.int .u32 z4) := fun p => cell_regrown (d4) p.d p.os
  have k5 : ∀ p : Regrown, (grow (redrawn w0 p.d) p.os).cell? ⟨w.heap.size, 5, none⟩ = some (.int .u32 z5) := fun p => cell_regrown (d5) p.d p.os
  have k6 : ∀ p : Regrown, (grow (redrawn w0 p.d) p.os).cell? ⟨w.heap.size, 6, none⟩ = some (.int .u32 z6) := fun p => cell_regrown (d6) p.d p.os
  have k7 : ∀ p : Regrown, (grow (redrawn w0 p.d) p.os).cell? ⟨w.heap.size, 7, none⟩ = some (.int .u32 z7) := fun p => cell_regrown (d7) p.d p.os
  refine wp_region_quiet_below (by kernel_rfl) (by kernel_rfl) ?_
  go_big_quiet_step (fail)
  go_big_quiet_step (fail)
  go_big_quiet_step (fail)
  go_big_quiet_step (fail)
  go_big_quiet_step (fail)
  go_big_quiet_step (fail)
  go_big_quiet_step (fail)
  go_big_quiet_step (fail)
  go_big_quiet_step (fail)
  go_big_quiet_step (fail)
  go_big_quiet_step (fail)
  go_big_quiet_step (fail)
  go_big_quiet_step (fail)
  go_big_quiet_step (fail)
  go_big_quiet_step (fail)
  go_big_quiet_step (fail)
  go_big_quiet_step (fail)
  go_big_quiet_step (fail)
  go_big_quiet_step (fail)
  go_big_quiet_step (fail)
  go_big_quiet_step (fail)
  go_big_quiet_step (fail)
  go_big_quiet_step (fail)
  go_big_quiet_step (fail)
  refine wpQuiet_nil ?_
  rintro _ ⟨p, rfl⟩
  have hb := below_regrown w0 p.d p.os
  generalize grow (redrawn w0 p.d) p.os = w1 at *
  clear k0 k1 k2 k3 k4 k5 k6 k7
  replace R1 := keep hb R1
  replace R2 := keep hb R2
  replace f4 := f4.below hb
  replace HW := Below.after HW hb
  clear hb

  clear d0 d1 d2 d3 d4 d5 d6 d7 R0
  go_wp2
  go_loopw [5, 6, 7, 8, 9, 10, 11, 12, 34] (fun va vb vc vd ve vf vg vh i wr => ∃ k : Nat, k ≤ 64 ∧ i = .int .i64 k ∧ va = .int .u32 (rs h W k).a ∧ vb = .int .u32 (rs h W k).b ∧ vc = .int .u32 (rs h W k).c ∧ vd = .int .u32 (rs h W k).d ∧ ve = .int .u32 (rs h W k).e ∧ vf = .int .u32 (rs h W k).f ∧ vg = .int .u32 (rs h W k).g ∧ vh = .int .u32 (rs h W k).h ∧ wr.heap[w.heap.size + 1]? = some (.cells (irow .u32 (prt W 64)) 95 (0, 0)) ∧ wr.heap[w.heap.size + 1 + 1]? = some (.cells (irow .u32 (zr 8)) 77 (0, 0)) ∧ Kon wr ∧ Below w.heap.size w wr) (fun _ _ _ _ _ _ _ _ i _ => 64 - (intOf i).toNat)
  case atStart => exact ⟨0, by omega, rfl, by rw [hst.out], by rw [hst.out], by rw [hst.out], by rw [hst.out], by rw [hst.out], by rw [hst.out], by rw [hst.out], by rw [hst.out], R1, R2, f4, HW⟩
  case round =>
    clear R1 R2 HW f4 hst
    obtain ⟨k, hk, rfl, rfl, rfl, rfl, rfl, rfl, rfl, rfl, rfl, r1, r2, f4, hw⟩ := hrel
    by_cases hlt : k < 64
    · have hd : decide ((k : Int) < 64) = true := by simp; omega
      have hn : rs h W (k + 1) = rnd (kl.getD k 0) (W k) (rs h W k) := rfl
      generalize rs h W k = sk at *
      obtain ⟨a, b, c, d, e, f, g, x⟩ := sk
      dsimp only at *
      have c6 := a_right e 6 (by decide) (by decide)
      have c11 := a_right e 11 (by decide) (by decide)
      have c25 := a_right e 25 (by decide) (by decide)
      have c2 := a_right a 2 (by decide) (by decide)
      have c13 := a_right a 13 (by decide) (by decide)
      have c22 := a_right a 22 (by decide) (by decide)
      simp only [rnd, one1, two2, up0, up1, notx] at hn
      generalize rot e 6 = q6 at *
      generalize rot e 11 = q11 at *
      generalize rot e 25 = q25 at *
      generalize rot a 2 = q2 at *
      generalize rot a 13 = q13 at *
      generalize rot a 22 = q22 at *
      replace hn := hide hn
      go_wp2_with (fail)
      refine (c6.at _).mono ?_
      rintro e_ w2 ⟨rfl, hb⟩
      replace r1 := keep hb r1
      replace r2 := keep hb r2
      replace f4 := f4.below hb
      replace hw := Below.after hw hb
      clear hb

      go_wp2_with (fail)
      refine (c11.at _).mono ?_
      rintro e_ w3 ⟨rfl, hb⟩
      replace r1 := keep hb r1
      replace r2 := keep hb r2
      replace f4 := f4.below hb
      replace hw := Below.after hw hb
      clear hb

      go_wp2_with (fail)
      refine (c25.at _).mono ?_
      rintro e_ w4_ ⟨rfl, hb⟩
      replace r1 := keep hb r1
      replace r2 := keep hb r2
      replace f4 := f4.below hb
      replace hw := Below.after hw hb
      clear hb

      have dk := f4.cell k hlt
      have dw := irow_cell r1 (j := k) (by rw [prt_len]; omega)
      rw [prt_get _ _ hlt hlt] at dw
      generalize kl.getD k 0 = K at *
      generalize W k = wk at *
      go_wp2
      have k0 : ∀ p : Regrown, (grow (redrawn w4_ p.d) p.os).cell? ⟨1, k, none⟩ = some (.int .u32 K) := fun p => cell_regrown (dk) p.d p.os
      have k1 : ∀ p : Regrown, (grow (redrawn w4_ p.d) p.os).cell? ⟨w.heap.size + 1, k, none⟩ = some (.int .u32 wk) := fun p => cell_regrown (dw) p.d p.os
      refine wp_region_quiet_below (by kernel_rfl) (by kernel_rfl) ?_
      go_big_quiet_step (fail)
      go_big_quiet_step (fail)
      go_big_quiet_step (fail)
      go_big_quiet_step (fail)
      go_big_quiet_step (fail)
      go_big_quiet_step (fail)
      go_big_quiet_step (fail)
      go_big_quiet_step (fail)
      go_big_quiet_step (fail)
      go_big_quiet_step (fail)
      go_big_quiet_step (fail)
      go_big_quiet_step (fail)
      go_big_quiet_step (fail)
      go_big_quiet_step (fail)
      go_big_quiet_step (fail)
      go_big_quiet_step (fail)
      go_big_quiet_step (fail)
      go_big_quiet_step (fail)
      go_big_quiet_step (fail)
      go_big_quiet_step (fail)
      go_big_quiet_step (fail)
      refine wpQuiet_nil ?_
      rintro _ ⟨p, rfl⟩
      have hb := below_regrown w4_ p.d p.os
      generalize grow (redrawn w4_ p.d) p.os = w5 at *
      clear k0 k1
      replace r1 := keep hb r1
      replace r2 := keep hb r2
      replace f4 := f4.below hb
      replace hw := Below.after hw hb
      clear hb

      clear dk dw
      go_wp2_with (fail)
      refine (c2.at _).mono ?_
      rintro e_ w6 ⟨rfl, hb⟩
      replace r1 := keep hb r1
      replace r2 := keep hb r2
      replace f4 := f4.below hb
      replace hw := Below.after hw hb
      clear hb

      go_wp2_with (fail)
      refine (c13.at _).mono ?_
      rintro e_ w7 ⟨rfl, hb⟩
      replace r1 := keep hb r1
      replace r2 := keep hb r2
      replace f4 := f4.below hb
      replace hw := Below.after hw hb
      clear hb

      go_wp2_with (fail)
      refine (c22.at _).mono ?_
      rintro e_ w8 ⟨rfl, hb⟩
      replace r1 := keep hb r1
      replace r2 := keep hb r2
      replace f4 := f4.below hb
      replace hw := Below.after hw hb
      clear hb

      go_wp2
      refine ⟨?rel, ?measure⟩
      case rel =>
        refine ⟨k + 1, by omega, by go_num, ?_, ?_, ?_, ?_, ?_, ?_, ?_, ?_, r1, r2, f4, hw⟩
        all_goals (rw [hn.out])
      case measure => simp [intOf]; omega
    · obtain rfl : k = 64 := by omega
      have hd : decide ((64 : Int) < 64) = false := by decide
      have hfin : irow .u32 (rs h W 64).list = (irow .u32 [(rs h W 64).a, (rs h W 64).b, (rs h W 64).c, (rs h W 64).d, (rs h W 64).e, (rs h W 64).f, (rs h W 64).g, (rs h W 64).h]) := rfl
      have hi8 : (Tryd.prog.info? 77).map (·.size) = some ((irow .u32 [(rs h W 64).a, (rs h W 64).b, (rs h W 64).c, (rs h W 64).d, (rs h W 64).e, (rs h W 64).f, (rs h W 64).g, (rs h W 64).h]) : Array Value).size := by kernel_rfl
      generalize (rs h W 64).a = za at *
      generalize (rs h W 64).b = zb at *
      generalize (rs h W 64).c = zc at *
      generalize (rs h W 64).d = zd at *
      generalize (rs h W 64).e = ze at *
      generalize (rs h W 64).f = zf at *
      generalize (rs h W 64).g = zg at *
      generalize (rs h W 64).h = zh at *
      replace hfin := hide hfin
      go_wp2_with (first | (refine wpList_store_row rfl 77 _ _ rfl (w.heap.size + 1 + 1) (irow .u32 [za, zb, zc, zd, ze, zf, zg, zh]) rfl rfl 77 _ r2 hi8 (by rw [irow_size, irow_size]; rfl) (irow_one _ _) ?_) | fail)
      replace r2 := setRow_heap wr (w.heap.size + 1 + 1) _ (irow .u32 [za, zb, zc, zd, ze, zf, zg, zh]) _ _ r2
      replace hw := below_setRow hw (show w.heap.size ≤ w.heap.size + 1 + 1 by omega) (irow .u32 [za, zb, zc, zd, ze, zf, zg, zh])
      generalize wr.setRow (w.heap.size + 1 + 1) (irow .u32 [za, zb, zc, zd, ze, zf, zg, zh]) = w9 at *
      exact bodyPost_ret (v := .agg (irow .u32 [za, zb, zc, zd, ze, zf, zg, zh])) (results_cell_row Tryd.results46 _ _ (w.heap.size + 1 + 1) _ _ _ _ rfl r2 Tryd.underlying77 rfl hi8) rfl ⟨by rw [hfin.out], hw⟩

end Go.Proofs.YtilgicikcjcdjaaDoor


namespace Go.Proofs.YtilgicikcjcdjaaDoor
set_option maxRecDepth 100000
open Go.ChangeShapes Go.WideShapes Go.ChangeAt Go.WideMaps Go.WideElems Go.RowKit

theorem gCon : Tryd.prog.globalNamed "pawl/hash.constants" = some 1 := by kernel_rfl
theorem tCon : (Tryd.prog.globals[1]?).map (·.type) = some 95 := by kernel_rfl
theorem gSta : Tryd.prog.globalNamed "pawl/hash.start" = some 0 := by kernel_rfl
theorem tSta : (Tryd.prog.globals[0]?).map (·.type) = some 77 := by kernel_rfl
theorem cU32 : Tryd.prog.cellsOf 27 = 1 := by kernel_rfl
theorem c57 : Tryd.prog.cellsOf 95 = 64 := by kernel_rfl
theorem c23 : Tryd.prog.cellsOf 77 = 8 := by kernel_rfl

/-- An array of integers that reads as a list of numbers. -/
theorem rowN_of {P : Program} {t e : TypeId} {n : Nat} {k : IntKind} (ht : P.underlying t = some (.array n e)) (he : P.underlying e = some (.int k)) (hce : P.cellsOf e = 1) (hct : P.cellsOf t = n) {W : World} {m : Nat} {cs : Array Value} {p : List MemPlace} {ks : List Int}
    (h : DataW.trod (fun _ => ()) P W 0 (fun _ => true) false m t cs.toList = some (.agg (ks.map fun x => .lit (.int k x)), p)) : cs = irow k ks := by
  obtain ⟨xs, m1, _, hx, hlen, hn, hel⟩ := DataW.trod_array ht h
  rw [hct] at hlen
  simp only [Prod.mk.injEq, DataW.agg.injEq] at hx
  have hk : ks.length = n := by
    have := congrArg List.length hx.1
    simp only [List.length_map] at this
    omega
  apply Array.ext'
  unfold irow
  apply List.ext_getElem
  · simp only [List.length_map]; omega
  · intro i h1 h2
    have hin : i < n := by omega
    have hx' : xs[i]? = some xs[i] := List.getElem?_eq_getElem (by omega)
    have e1 := hel i hin
    rw [hce, hx'] at e1
    obtain ⟨a, q0, q1, _⟩ := DataW.trod_int he e1
    simp only [Nat.mul_one] at q0
    rw [List.drop_eq_getElem_cons h1] at q0
    have q0' : cs.toList[i] = .int k a := by simpa using q0
    rw [q0']
    have hi := congrArg (fun l => l[i]?) hx.1
    simp only [List.getElem?_map, List.getElem?_eq_getElem (show i < ks.length by omega), hx', Option.map_some, Option.some.injEq] at hi
    rw [q1] at hi
    simp only [DataW.lit.injEq, Lit.int.injEq, true_and] at hi
    simp [hi]
theorem row_of_var {W : World} {s : String} {g : Nat} (hg : Tryd.prog.globalNamed s = some g) {cs : Array Value} (hv : World.var? Tryd.prog W s = some cs) : ∃ t fr, W.heap[g]? = some (.cells cs t fr) := by
  unfold World.var? at hv
  rw [hg] at hv
  simp only [Option.bind_some] at hv
  split at hv
  · rename_i cs' t fr hh
    obtain rfl := Option.some.inj hv
    exact ⟨t, fr, hh⟩
  · cases hv
theorem kon_of_laid {W : World} (h : laidMetH Tryd.prog [("pawl/hash.constants", Rows.laid_pawl_hash_constants)] W) : Kon W := by
  rw [MakeChecks.laidMetH_plain _ _ _ (by kernel_rfl)] at h
  obtain ⟨ps, ⟨g0, t0, cs0, f0, p0, q0, hg0, ht0, hv0, hd0, _⟩, _, _⟩ := h
  obtain rfl := Option.some.inj (gCon.symm.trans hg0)
  obtain rfl := Option.some.inj (tCon.symm.trans ht0)
  obtain rfl := rowN_of (ks := kl) Tryd.underlying95 Tryd.underlying27 cU32 c57 hd0
  exact row_of_var gCon hv0
theorem sta_of_laid {W : World} (h : laidMetH Tryd.prog [("pawl/hash.start", Rows.laid_pawl_hash_start), ("pawl/hash.constants", Rows.laid_pawl_hash_constants)] W) : Sta W ∧ Kon W := by
  rw [MakeChecks.laidMetH_plain _ _ _ (by kernel_rfl)] at h
  obtain ⟨ps, ⟨g0, t0, cs0, f0, p0, q0, hg0, ht0, hv0, hd0, ⟨g1, t1, cs1, f1, p1, q1, hg1, ht1, hv1, hd1, _⟩, _⟩, _, _⟩ := h
  obtain rfl := Option.some.inj (gSta.symm.trans hg0)
  obtain rfl := Option.some.inj (tSta.symm.trans ht0)
  obtain rfl := rowN_of (ks := sl) Tryd.underlying77 Tryd.underlying27 cU32 c23 hd0
  obtain rfl := Option.some.inj (gCon.symm.trans hg1)
  obtain rfl := Option.some.inj (tCon.symm.trans ht1)
  obtain rfl := rowN_of (ks := kl) Tryd.underlying95 Tryd.underlying27 cU32 c57 hd1
  exact ⟨row_of_var gSta hv0, row_of_var gCon hv1⟩
end Go.Proofs.YtilgicikcjcdjaaDoor

namespace Go.Proofs.YtilgicikcjcdjaaDoor
set_option maxRecDepth 100000

/-! What the bound on the values gives. -/
theorem bulk_pos {H : Type} (d : DataW H) : 1 ≤ Rows.uptoBulk d := by
  cases d with
  | lit l => cases l <;> simp [Rows.uptoBulk]
  | nil => simp [Rows.uptoBulk]
  | ptr d => simp [Rows.uptoBulk]
  | slice elems spare => simp [Rows.uptoBulk]
  | agg parts => simp [Rows.uptoBulk]
  | iface t d => simp [Rows.uptoBulk]
  | map entries => simp [Rows.uptoBulk]
  | held h => simp [Rows.uptoBulk]
theorem bulk_len {H : Type} : ∀ l : List (DataW H), l.length ≤ Rows.uptoBulkAll l
  | [] => by simp [Rows.uptoBulkAll]
  | x :: r => by have h1 := bulk_pos x; have h2 := bulk_len r; simp only [Rows.uptoBulkAll, List.length_cons]; omega
theorem bulk_slice {H : Type} (es sp : List (DataW H)) : es.length + 1 ≤ Rows.uptoBulk (.slice es sp) := by
  have h1 := bulk_len es
  simp only [Rows.uptoBulk]
  omega
theorem bulk_elems {H : Type} (es sp : List (DataW H)) : Rows.uptoBulkAll es + 1 ≤ Rows.uptoBulk (.slice es sp) := by
  simp only [Rows.uptoBulk]
  omega
theorem bulk_cons {H : Type} (d : DataW H) (l : List (DataW H)) : Rows.uptoBulkAll (d :: l) = Rows.uptoBulk d + Rows.uptoBulkAll l := by
  simp only [Rows.uptoBulkAll]
theorem bulk_bound {H : Type} {l : List (DataW H)} (hk : Rows.uptoSmall H l = true) : Rows.uptoBulkAll l ≤ 1048576 := of_decide_eq_true hk
end Go.Proofs.YtilgicikcjcdjaaDoor

namespace Go.Proofs.YtilgicikcjcdjaaDoor
set_option maxRecDepth 100000
open Go Go.RowKit Go.Sort
attribute [local go_sem] setCell_drewN alloc_drewN

/-- Words added, the first k of eight. -/
def sums (h e : List Int) (k : Nat) : List Int := (List.range 8).map fun j => if j < k then (h.getD j 0 + e.getD j 0) % 4294967296 else h.getD j 0
theorem sums_len (h e : List Int) (k : Nat) : (sums h e k).length = 8 := by simp [sums]
theorem sums_zero (h e : List Int) (hl : h.length = 8) : sums h e 0 = h := by
  apply List.ext_getElem
  · rw [sums_len, hl]
  · intro i h1 h2
    simp [sums, h2]
theorem sums_get (h e : List Int) (k : Nat) (hk : k < 8) : (sums h e k).getD k 0 = h.getD k 0 := by
  simp [sums, List.getD_eq_getElem?_getD, hk]
theorem sums_set (h e : List Int) (k : Nat) (hk : k < 8) : (sums h e k).set k ((h.getD k 0 + e.getD k 0) % 4294967296) = sums h e (k + 1) := by
  apply List.ext_getElem?
  intro j
  rw [List.getElem?_set]
  by_cases c : k = j
  · subst c
    rw [if_pos rfl, if_pos (by rw [sums_len]; exact hk)]
    simp [sums, hk]
  · rw [if_neg c]
    simp only [sums, List.getElem?_map]
    by_cases hj : j < 8
    · simp only [List.getElem?_range hj, Option.map_some]
      by_cases h1 : j < k
      · rw [if_pos h1, if_pos (by omega)]
      · rw [if_neg h1, if_neg (by omega)]
    · rw [List.getElem?_eq_none (by simp; omega)]; rfl
/-- What a block comes to. -/
def blk (h b : List Int) : List Int := sums h (rs h (wds b) 64).list 8
theorem blk_len (h b : List Int) : (blk h b).length = 8 := sums_len _ _ _
theorem sums_bd (h e : List Int) (x : Int) (hx : x ∈ sums h e 8) : 0 ≤ x ∧ x < 4294967296 := by
  simp only [sums, List.mem_map, List.mem_range] at hx
  obtain ⟨j, hj, rfl⟩ := hx
  rw [if_pos hj]
  omega
theorem info23 (l : List Int) (hl : l.length = 8) : (Tryd.prog.info? 77).map (·.size) = some (irow .u32 l).size := by
  rw [irow_size, hl]; kernel_rfl
theorem info24 (l : List Int) (hl : l.length = 64) : (Tryd.prog.info? 78).map (·.size) = some (irow .u8 l).size := by
  rw [irow_size, hl]; kernel_rfl
theorem fit8 (l m : List Int) (hl : l.length = 8) (hm : m.length = 8) : (irow .u32 l).size = (irow .u32 m).size := by
  rw [irow_size, irow_size, hl, hm]
theorem fit64 (l m : List Int) (hl : l.length = 64) (hm : m.length = 64) : (irow .u8 l).size = (irow .u8 m).size := by
  rw [irow_size, irow_size, hl, hm]
theorem list_len (s : St8) : s.list.length = 8 := rfl
set_option maxRecDepth 100000 in
set_option maxHeartbeats 4000000 in
theorem a_block (h b : List Int) (hl : h.length = 8) (hb : b.length = 64) (hz : ∀ z ∈ b, 0 ≤ z ∧ z < 256) : Gives1 40 #[.agg (irow .u32 h), .agg (irow .u8 b)] (.agg (irow .u32 (blk h b))) := by
  intro w hK
  have cS := a_spread b hb hz
  have cM := a_mixed h hl (wds b)
  have ib := info24 b hb
  clear hz
  have r0 := hp3_0 w (.cells (irow .u32 h) 77) (.cells (irow .u8 b) 78) (.cells (irow .u32 (zr 8)) 77)
  have r1 := hp3_1 w (.cells (irow .u32 h) 77) (.cells (irow .u8 b) 78) (.cells (irow .u32 (zr 8)) 77)
  have r2 := hp3_2 w (.cells (irow .u32 h) 77) (.cells (irow .u8 b) 78) (.cells (irow .u32 (zr 8)) 77)
  have hw : Below w.heap.size w (((w.alloc (.cells (irow .u32 h) 77)).alloc (.cells (irow .u8 b) 78)).alloc (.cells (irow .u32 (zr 8)) 77)) := ((((Below.refl _ _).alloc (Nat.le_refl _) _).alloc (by simp) _).alloc (by simp; omega) _)

  have f4 := hK.below hw
  clear hK
  go_enter Tryd.func40, Tryd.ntmps40
  go_wp2_with (first | (refine wpList_box rfl 77 _ rfl _ rfl (b23 _) ?_) | (refine wpList_box rfl 78 _ rfl _ rfl (b24 _) ?_) | (refine wpList_alloc rfl 77 rfl (irow .u32 (zr 8)) z23 ?_) | fail)
  simp only [size_alloc1, Act.put, List.setIfInBounds_toArray, List.set_cons_succ, List.set_cons_zero]
  generalize (((w.alloc (.cells (irow .u32 h) 77)).alloc (.cells (irow .u8 b) 78)).alloc (.cells (irow .u32 (zr 8)) 77)) = w0 at *
  have hfin : blk h b = sums h (rs h (wds b) 64).list 8 := rfl
  have he := list_len (rs h (wds b) 64)
  generalize (rs h (wds b) 64).list = e at *
  refine wp_region_alloc_ex 4 5 [5] (fun _ => .cells (irow .u32 (zr 8)) 77 (0, 0)) (by kernel_rfl) (by decide) (by decide) (by kernel_rfl) (by kernel_rfl) (by kernel_rfl) (by kernel_rfl) (by kernel_rfl) (by kernel_rfl) (by kernel_rfl) (by kernel_rfl) (by decide) (by decide) ?_ ?_
  · intro s l u
    obtain rfl : s = 4 := by omega
    exact ⟨_, _, rfl, rfl, rfl, rfl, fun a w => by kernel_rfl⟩
  apply Exists.intro
  constructor
  · intro v_ hb
    have Hr0 := keepr (keep hb r0)
    have Hr1 := keepr (keep hb r1)
    have Hr2 := keepr (keep hb r2)
    have F4 := f4.below hb
    clear hb; dsimp only [List.take]
    refine wpQuiet_load_row rfl 77 _ rfl (w.heap.size) rfl 77 (irow .u32 h) (0, 0) _ Hr0.out Tryd.underlying77 rfl (info23 _ hl) ?_
    simp only [Act.put, List.setIfInBounds_toArray, List.set_cons_succ, List.set_cons_zero]
    refine wpQuiet_load_row rfl 78 _ rfl (w.heap.size + 1) rfl 78 (irow .u8 b) (0, 0) _ Hr1.out Tryd.underlying78 rfl ib ?_
    simp only [Act.put, List.setIfInBounds_toArray, List.set_cons_succ, List.set_cons_zero]
    go_big_quiet_step (exact cS.re)
    go_big_quiet_step (exact cM.re F4)
    refine wpQuiet_nil ?_
    rfl
  intro w1 g_ hb hg hd_
  obtain ⟨lg, rg⟩ := hg 5 (by simp)
  replace rg : w1.heap[g_ 5]? = some (.cells (irow .u32 (zr 8)) 77 (0, 0)) := rg
  simp only [List.drop, puts, ptrs, List.map, List.foldl, Act.put, List.setIfInBounds_toArray, List.set_cons_succ, List.set_cons_zero]
  clear hg hd_
  generalize g_ 5 = gE at *
  have lr0 := lt_of_row r0
  have lr1 := lt_of_row r1
  have lr2 := lt_of_row r2
  have hs := hw.size
  replace r0 := keep hb r0
  replace r1 := keep hb r1
  replace r2 := keep hb r2
  have hz_ := f4.sz
  replace f4 := f4.below hb
  replace hw := Below.after hw hb
  clear hb

  refine wpList_store_row rfl 77 _ _ rfl (gE) (irow .u32 e) rfl rfl 77 _ rg (info23 _ he) (fit8 _ _ (zr_len 8) he) (irow_one _ _) ?_
  simp only [Act.put]
  replace r0 := (setRow_other w1 (gE) (w.heap.size) (irow .u32 e) (by omega)).trans r0
  replace r1 := (setRow_other w1 (gE) (w.heap.size + 1) (irow .u32 e) (by omega)).trans r1
  replace r2 := (setRow_other w1 (gE) (w.heap.size + 1 + 1) (irow .u32 e) (by omega)).trans r2
  replace rg := setRow_heap w1 (gE) _ (irow .u32 e) _ _ rg
  replace hw := below_setRow hw (show w.heap.size ≤ gE by omega) (irow .u32 e)
  replace f4 := f4.belowN (n := 1 + 1) (by omega) (below_setRow (Below.refl _ _) (show 1 + 1 ≤ gE by omega) (irow .u32 e))
  generalize w1.setRow (gE) (irow .u32 e) = w2 at *

  have y0 : w.heap.size + 1 + 1 < gE := by omega
  clear hs hz_ lr0 lr1 lr2 lg r1 f4 cS cM
  rw [← sums_zero h e hl] at r0
  go_wp2
  go_loopw [11] (fun i wr => ∃ k : Nat, k ≤ 8 ∧ i = .int .i64 k ∧ wr.heap[w.heap.size]? = some (.cells (irow .u32 (sums h e k)) 77 (0, 0)) ∧ wr.heap[w.heap.size + 1 + 1]? = some (.cells (irow .u32 (zr 8)) 77 (0, 0)) ∧ wr.heap[gE]? = some (.cells (irow .u32 e) 77 (0, 0)) ∧ Below w.heap.size w wr) (fun i _ => 8 - (intOf i).toNat)
  case atStart => exact ⟨0, by omega, rfl, r0, r2, rg, hw⟩
  case round =>
    clear r0 r2 rg hw
    obtain ⟨k, hk, rfl, r0, r2, rg, hw⟩ := hrel
    by_cases hlt : k < 8
    · have hd : decide ((k : Int) < 8) = true := by simp; omega
      have dh := irow_cell r0 (j := k) (by rw [sums_len]; exact hlt)
      have de := irow_cell rg (j := k) (by rw [he]; exact hlt)
      rw [sums_get _ _ _ hlt] at dh
      have hset := sums_set h e k hlt
      have hpl := sums_len h e k
      generalize h.getD k 0 = x at *
      generalize e.getD k 0 = y at *
      replace hset := hide hset
      go_wp2
      have k0 : ∀ p : Regrown, (grow (redrawn wr p.d) p.os).cell? ⟨w.heap.size, k, none⟩ = some (.int .u32 x) := fun p => cell_regrown (dh) p.d p.os
      have k1 : ∀ p : Regrown, (grow (redrawn wr p.d) p.os).cell? ⟨gE, k, none⟩ = some (.int .u32 y) := fun p => cell_regrown (de) p.d p.os
      refine wp_region_tail (C := fun w' => ∃ p : Regrown, w' = grow (redrawn wr p.d) p.os) 8 _ rfl rfl rfl (by kernel_rfl) (by kernel_rfl) (by kernel_rfl) (by kernel_rfl) ⟨⟨wr.drawn + 1, #[]⟩, by rw [grow_empty]; rfl⟩ ?_
      dsimp only [List.set, idle]
      go_big_quiet_step (fail)
      go_big_quiet_step (fail)
      go_big_quiet_step (fail)
      go_big_quiet_step (fail)
      go_big_quiet_step (fail)
      go_big_quiet_step (fail)
      go_big_quiet_step (fail)
      go_big_quiet_step (fail)
      refine wpQuiet_idle rfl rfl rfl ?_
      rintro _ ⟨p, rfl⟩
      have hb := below_regrown wr p.d p.os
      generalize grow (redrawn wr p.d) p.os = w3 at *
      clear k0 k1
      replace r0 := keep hb r0
      replace r2 := keep hb r2
      replace rg := keep hb rg
      replace hw := Below.after hw hb
      clear hb

      have cz := irow_cell r0 (j := k) (by omega)
      have hf := row_frozen r0 k
      clear dh de
      go_wp2
      go_roundw
      case rel => exact ⟨k + 1, by omega, by go_num, by rw [← hset.out]; exact irow_set r0 k _, heap_other r2 (by omega), heap_other rg (by omega), hw.setCell (show w.heap.size ≤ w.heap.size by omega) _⟩
      case measure => simp [intOf]; omega
    · obtain rfl : k = 8 := by omega
      have hd : decide ((8 : Int) < 8) = false := by decide
      have hq := sums_len h e 8
      rw [← hfin] at r0 hq
      go_wp2_with (first | (refine wpList_load_want rfl 77 _ rfl (w.heap.size) rfl 77 (irow .u32 (blk h b)) (0, 0) _ r0 Tryd.underlying77 rfl (info23 _ hq) ?_) | (refine wpList_store_row rfl 77 _ _ rfl (w.heap.size + 1 + 1) (irow .u32 (blk h b)) rfl rfl 77 _ r2 (info23 _ hq) (fit8 _ _ (zr_len 8) hq) (irow_one _ _) ?_) | fail)
      replace r2 := setRow_heap wr (w.heap.size + 1 + 1) _ (irow .u32 (blk h b)) _ _ r2
      replace hw := below_setRow hw (show w.heap.size ≤ w.heap.size + 1 + 1 by omega) (irow .u32 (blk h b))
      generalize wr.setRow (w.heap.size + 1 + 1) (irow .u32 (blk h b)) = w9 at *
      exact bodyPost_ret (v := .agg (irow .u32 (blk h b))) (results_cell_row Tryd.results40 _ _ (w.heap.size + 1 + 1) _ _ _ _ rfl r2 Tryd.underlying77 rfl (info23 _ hq)) rfl ⟨rfl, hw⟩

end Go.Proofs.YtilgicikcjcdjaaDoor


namespace Go.Proofs.YtilgicikcjcdjaaDoor
set_option maxRecDepth 100000
open Go Go.RowKit Go.Sort
attribute [local go_sem] setCell_drewN alloc_drewN

/-- The first t of thirty-two, then zeros. -/
def pr32 (W : Nat → Int) (t : Nat) : List Int := (List.range 32).map fun j => if j < t then W j else 0
theorem pr32_len (W : Nat → Int) (t : Nat) : (pr32 W t).length = 32 := by simp [pr32]
theorem pr32_set (W : Nat → Int) (t : Nat) (h : t < 32) : (pr32 W t).set t (W t) = pr32 W (t + 1) := by
  apply List.ext_getElem?
  intro j
  rw [List.getElem?_set]
  by_cases e : t = j
  · subst e
    rw [if_pos rfl, if_pos (by rw [pr32_len]; exact h)]
    simp [pr32, h]
  · rw [if_neg e]
    simp only [pr32, List.getElem?_map]
    by_cases hj : j < 32
    · simp only [List.getElem?_range hj, Option.map_some]
      by_cases h1 : j < t
      · rw [if_pos h1, if_pos (by omega)]
      · rw [if_neg h1, if_neg (by omega)]
    · rw [List.getElem?_eq_none (by simp; omega)]; rfl
theorem pr32_zero (W : Nat → Int) : pr32 W 0 = zr 32 := rfl
/-- The bytes of words. -/
def bte (h : List Int) (j : Nat) : Int := h.getD (j / 4) 0 / 2 ^ (24 - 8 * (j % 4)) % 256
def byts (h : List Int) : List Int := pr32 (bte h) 32
theorem byts_len (h : List Int) : (byts h).length = 32 := pr32_len _ _
theorem byts_bd (h : List Int) : ∀ z ∈ byts h, 0 ≤ z ∧ z < 256 := by
  intro z hz
  simp only [byts, pr32, List.mem_map, List.mem_range] at hz
  obtain ⟨j, hj, rfl⟩ := hz
  rw [if_pos hj]
  unfold bte
  omega
theorem infok8 (l : List Int) (hl : l.length = 32) : (Tryd.prog.info? 26).map (·.size) = some (irow .u8 l).size := by
  rw [irow_size, hl]; kernel_rfl
theorem fit32 (l m : List Int) (hl : l.length = 32) (hm : m.length = 32) : (irow .u8 l).size = (irow .u8 m).size := by
  rw [irow_size, irow_size, hl, hm]
set_option maxRecDepth 100000 in
set_option maxHeartbeats 4000000 in
theorem r_bytes (h : List Int) (hl : h.length = 8) (hz : ∀ x ∈ h, 0 ≤ x ∧ x < 4294967296) : Gives 34 #[.agg (irow .u32 h)] (.agg (irow .u8 (byts h))) := by
  intro w
  have r0 := hp3_0 w (.cells (irow .u32 h) 77) (.cells (irow .u8 (zr 32)) 26) (.cells (irow .u8 (zr 32)) 26)
  have r1 := hp3_1 w (.cells (irow .u32 h) 77) (.cells (irow .u8 (zr 32)) 26) (.cells (irow .u8 (zr 32)) 26)
  have r2 := hp3_2 w (.cells (irow .u32 h) 77) (.cells (irow .u8 (zr 32)) 26) (.cells (irow .u8 (zr 32)) 26)
  have hw : Below w.heap.size w (((w.alloc (.cells (irow .u32 h) 77)).alloc (.cells (irow .u8 (zr 32)) 26)).alloc (.cells (irow .u8 (zr 32)) 26)) := ((((Below.refl _ _).alloc (Nat.le_refl _) _).alloc (by simp) _).alloc (by simp; omega) _)

  go_enter Tryd.func34, Tryd.ntmps34
  go_wp2_with (first | (refine wpList_box rfl 77 _ rfl _ rfl (b23 _) ?_) | (refine wpList_alloc rfl 26 rfl (irow .u8 (zr 32)) zkey ?_) | fail)
  try simp only [size_alloc1, Act.put, List.setIfInBounds_toArray, List.set_cons_succ, List.set_cons_zero]
  generalize (((w.alloc (.cells (irow .u32 h) 77)).alloc (.cells (irow .u8 (zr 32)) 26)).alloc (.cells (irow .u8 (zr 32)) 26)) = w0 at *
  rw [← pr32_zero (bte h)] at r2
  go_loopw [4] (fun i wr => ∃ k : Nat, k ≤ 8 ∧ i = .int .i64 k ∧ wr.heap[w.heap.size]? = some (.cells (irow .u32 h) 77 (0, 0)) ∧ wr.heap[w.heap.size + 1]? = some (.cells (irow .u8 (zr 32)) 26 (0, 0)) ∧ wr.heap[w.heap.size + 1 + 1]? = some (.cells (irow .u8 (pr32 (bte h) (4 * k))) 26 (0, 0)) ∧ Below w.heap.size w wr) (fun i _ => 8 - (intOf i).toNat)
  case atStart => exact ⟨0, by omega, rfl, r0, r1, r2, hw⟩
  case round =>
    clear r0 r1 r2 hw
    obtain ⟨k, hk, rfl, r0, r1, r2, hw⟩ := hrel
    by_cases hlt : k < 8
    · have hd : decide ((k : Int) < 8) = true := by simp; omega
      go_wp2
      go_loopw [5] (fun i wr => ∃ j : Nat, j ≤ 4 ∧ i = .int .i64 j ∧ wr.heap[w.heap.size]? = some (.cells (irow .u32 h) 77 (0, 0)) ∧ wr.heap[w.heap.size + 1]? = some (.cells (irow .u8 (zr 32)) 26 (0, 0)) ∧ wr.heap[w.heap.size + 1 + 1]? = some (.cells (irow .u8 (pr32 (bte h) (4 * k + j))) 26 (0, 0)) ∧ Below w.heap.size w wr) (fun i _ => 4 - (intOf i).toNat)
      case atStart => exact ⟨0, by omega, rfl, r0, r1, r2, hw⟩
      case round =>
        clear r0 r1 r2 hw
        obtain ⟨j, hj, rfl, r0, r1, r2, hw⟩ := hrel
        by_cases hlj : j < 4
        · have hdj : decide ((j : Int) < 4) = true := by simp; omega
          have dh := irow_cell r0 (j := k) (by omega)
          have hset := pr32_set (bte h) (4 * k + j) (by omega)
          have hpl := pr32_len (bte h) (4 * k + j)
          have e : bte h (4 * k + j) = h.getD k 0 / 2 ^ (24 - 8 * j) % 256 := by
            unfold bte
            rw [show (4 * k + j) / 4 = k by omega, show (4 * k + j) % 4 = j by omega]
          have hb : 0 ≤ h.getD k 0 ∧ h.getD k 0 < 4294967296 := by
            apply hz
            rw [List.getD_eq_getElem?_getD, List.getElem?_eq_getElem (by omega)]
            exact List.getElem_mem _
          rw [e] at hset
          generalize h.getD k 0 = x at *
          have cz := irow_cell r2 (j := 4 * k + j) (by omega)
          have hf := row_frozen r2 (4 * k + j)
          clear e
          replace hset := hide hset
          go_wp2
          refine ⟨⟨j + 1, by omega, by go_num, heap_other r0 (by omega), heap_other r1 (by omega), by rw [show 4 * k + (j + 1) = 4 * k + j + 1 from rfl, ← hset.out]; exact irow_set r2 _ _, hw.setCell (show w.heap.size ≤ w.heap.size + 1 + 1 by omega) _⟩, ?_⟩
          simp [intOf]; omega
        · obtain rfl : j = 4 := by omega
          have hdj : decide ((4 : Int) < 4) = false := by decide
          go_wp2
          refine ⟨⟨k + 1, by omega, by go_num, r0, r1, r2, hw⟩, ?_⟩
          simp [intOf]; omega
    · obtain rfl : k = 8 := by omega
      have hd : decide ((8 : Int) < 8) = false := by decide
      have hq := byts_len h
      go_wp2_with (first | (refine wpList_load_want rfl 26 _ rfl (w.heap.size + 1 + 1) rfl 26 (irow .u8 (byts h)) (0, 0) _ r2 Tryd.underlying26 rfl (infok8 _ hq) ?_) | (refine wpList_store_row rfl 26 _ _ rfl (w.heap.size + 1) (irow .u8 (byts h)) rfl rfl 26 _ r1 (infok8 _ hq) (fit32 _ _ (zr_len 32) hq) (irow_one _ _) ?_) | fail)
      replace r1 := setRow_heap wr (w.heap.size + 1) _ (irow .u8 (byts h)) _ _ r1
      replace hw := below_setRow hw (show w.heap.size ≤ w.heap.size + 1 by omega) (irow .u8 (byts h))
      generalize wr.setRow (w.heap.size + 1) (irow .u8 (byts h)) = w9 at *
      exact bodyPost_ret (v := .agg (irow .u8 (byts h))) (results_cell_row Tryd.results34 _ _ (w.heap.size + 1) _ _ _ _ rfl r1 Tryd.underlying26 rfl (infok8 _ hq)) rfl ⟨rfl, hw⟩
theorem slice_key (g k : Nat) (hk : k < 8) (W : World) : (Instr.sliceAt 26 (.pointer (some ⟨g, 0, none⟩)) (some (.int .i64 (4 * (k : Int)))) none none).run Tryd.prog W = .ok (.slice (some ⟨g, 4 * k, none⟩) (32 - 4 * k) (32 - 4 * k)) W := by
  have ht : Tryd.prog.underlying 26 = some (.array (Tryd.prog.arrayLen 26) (Tryd.prog.elem 26)) := by kernel_rfl
  have hn : Tryd.prog.arrayLen 26 = 32 := by kernel_rfl
  have hs : (sizeOf (Tryd.prog.elem 26)).run Tryd.prog W = .ok 1 W := by kernel_rfl
  rw [run_sliceAt_array_l W _ _ ht .i64 _ (by omega) (by rw [hn]; omega), hs]
  show Result.ok (slicedAt _ _ _ _ 1) W = _
  have e1 : (4 * (k : Int)).toNat = 4 * k := by omega
  rw [e1, hn, slicedAt, if_neg (by omega), addr_add]
  simp
theorem pr32_four (h : List Int) (k : Nat) (hk : k < 8) : pr32 (bte h) (4 * (k + 1)) = (pr32 (bte h) (4 * k)).take (4 * k) ++ [bte h (4 * k), bte h (4 * k + 1), bte h (4 * k + 2), bte h (4 * k + 3)] ++ (pr32 (bte h) (4 * k)).drop (4 * k + 4) := by
  rw [show 4 * (k + 1) = 4 * k + 3 + 1 by omega, ← pr32_set _ _ (by omega), show 4 * k + 3 = 4 * k + 2 + 1 by omega, ← pr32_set _ _ (by omega), show 4 * k + 2 = 4 * k + 1 + 1 by omega, ← pr32_set _ _ (by omega), ← pr32_set _ _ (by omega)]
  have hl := pr32_len (bte h) (4 * k)
  generalize pr32 (bte h) (4 * k) = l at *
  apply List.ext_getElem?
  intro j
  simp only [List.getElem?_set, List.length_set, hl]
  by_cases h1 : j < 4 * k
  · rw [if_neg (by omega), if_neg (by omega), if_neg (by omega), if_neg (by omega), List.append_assoc, List.getElem?_append_left (by simp; omega), List.getElem?_take_of_lt h1]
  · by_cases h2 : j < 4 * k + 4
    · rw [List.getElem?_append_left (by simp; omega), List.getElem?_append_right (by simp; omega)]
      have e : (l.take (4 * k)).length = 4 * k := by simp; omega
      rw [e]
      rcases (by omega : j = 4 * k ∨ j = 4 * k + 1 ∨ j = 4 * k + 2 ∨ j = 4 * k + 3) with rfl | rfl | rfl | rfl
      · rw [if_neg (by omega), if_neg (by omega), if_neg (by omega), if_pos rfl, if_pos (by omega)]; simp
      · rw [if_neg (by omega), if_neg (by omega), if_pos rfl, if_pos (by omega)]; simp
      · rw [if_neg (by omega), if_pos (by omega), if_pos (by omega)]; simp
      · rw [if_pos (by omega), if_pos (by omega)]; simp
    · rw [if_neg (by omega), if_neg (by omega), if_neg (by omega), if_neg (by omega), List.getElem?_append_right (by simp; omega), List.getElem?_drop]
      congr 1
      simp
      omega
theorem copy_irow {W : World} {g o dLen dCap b off m cap : Nat} {l c : List Int} {t : TypeId} (hg : W.heap[g]? = some (.cells (irow .u8 l) t (0, 0))) (hc : ∀ j, j < c.length → W.cell? ⟨b, off + j, none⟩ = some (.int .u8 (c.getD j 0))) (hn : c.length = Nat.min m dLen) (hfit : o + c.length ≤ l.length) :
    (Builtin.copy_ #[67, 67] 3 #[.slice (some ⟨g, o, none⟩) dLen dCap, .slice (some ⟨b, off, none⟩) m cap]).run Tryd.prog W = .ok (goInt c.length) (W.setRow g (irow .u8 (l.take o ++ c ++ l.drop (o + c.length)))) := by
  have hsrc : ∀ j u, (c.map (Value.int .u8))[j]? = some u → W.cell? ((⟨b, off, none⟩ : Addr).add j) = some u := by
    intro j u hu
    have hj : j < c.length := by have := (List.getElem?_eq_some_iff.1 hu).1; simpa using this
    have : u = .int .u8 (c.getD j 0) := by
      simp only [List.getElem?_map, List.getElem?_eq_getElem hj, Option.map_some, Option.some.injEq] at hu
      rw [← hu, List.getD_eq_getElem?_getD, List.getElem?_eq_getElem hj]; rfl
    rw [this, addr_add]
    exact hc j hj
  have hrun := run_copy_row (P := Tryd.prog) W 67 67 3 5 g o dLen dCap ⟨b, off, none⟩ m cap (irow .u8 l) t (c.map (Value.int .u8)) Tryd.underlying67 (by kernel_rfl) hg (by rw [List.length_map]; exact hn) hsrc (by rw [irow_size, List.length_map]; exact hfit) (ints_one .u8 c)
  rw [List.length_map] at hrun
  rw [hrun]
  congr 2
  apply Array.ext'
  simp [irow, List.map_take, List.map_drop]
theorem index23 (h : List Int) (hl : h.length = 8) (k : Nat) (hk : k < 8) (W : World) : (Instr.index 77 (.agg (irow .u32 h)) (.int .i64 (k : Int))).run Tryd.prog W = .ok (.int .u32 (h.getD k 0)) W := by
  obtain ⟨i0, hi⟩ : ∃ i, Tryd.prog.info? 27 = some i := ⟨_, rfl⟩
  have hs : (sizeOf 27).run Tryd.prog W = .ok 1 W := by kernel_rfl
  have hp := run_part_int (P := Tryd.prog) W Tryd.underlying27 hi h k (by omega)
  have e : h.getD k 0 = h[k]'(by omega) := by simp [List.getD_eq_getElem?_getD, List.getElem?_eq_getElem (show k < h.length by omega)]
  rw [e]
  unfold Instr.index
  have h2 : (0 : Int) ≤ (k : Int) ∧ (k : Int) < ((8 : Nat) : Int) := by omega
  simp only [asIntOf, Sem.run_bind, Sem.run_pure, Result.andThen_ok, run_underlying Tryd.underlying77 W, if_pos h2, hs, Int.toNat_natCast, Nat.mul_one]
  exact hp
set_option maxRecDepth 100000 in
set_option maxHeartbeats 4000000 in
theorem a_told (h : List Int) (hl : h.length = 8) (hz : ∀ x ∈ h, 0 ≤ x ∧ x < 4294967296) : Gives 49 #[.agg (irow .u32 h)] (.agg (irow .u8 (byts h))) := by
  intro w
  have r0 := hp3_0 w (.cells (irow .u32 h) 77) (.cells (irow .u8 (zr 32)) 26) (.cells (irow .u8 (zr 32)) 26)
  have r1 := hp3_1 w (.cells (irow .u32 h) 77) (.cells (irow .u8 (zr 32)) 26) (.cells (irow .u8 (zr 32)) 26)
  have r2 := hp3_2 w (.cells (irow .u32 h) 77) (.cells (irow .u8 (zr 32)) 26) (.cells (irow .u8 (zr 32)) 26)
  have hw : Below w.heap.size w (((w.alloc (.cells (irow .u32 h) 77)).alloc (.cells (irow .u8 (zr 32)) 26)).alloc (.cells (irow .u8 (zr 32)) 26)) := ((((Below.refl _ _).alloc (Nat.le_refl _) _).alloc (by simp) _).alloc (by simp; omega) _)

  go_enter Tryd.func49, Tryd.ntmps49
  go_wp2_with (first | (refine wpList_box rfl 77 _ rfl _ rfl (b23 _) ?_) | (refine wpList_alloc rfl 26 rfl (irow .u8 (zr 32)) zkey ?_) | (refine wpList_load_want rfl 77 _ rfl (w.heap.size) rfl 77 (irow .u32 h) (0, 0) _ r0 Tryd.underlying77 rfl (info23 _ hl) ?_) | fail)
  try simp only [size_alloc1, Act.put, List.setIfInBounds_toArray, List.set_cons_succ, List.set_cons_zero]
  generalize (((w.alloc (.cells (irow .u32 h) 77)).alloc (.cells (irow .u8 (zr 32)) 26)).alloc (.cells (irow .u8 (zr 32)) 26)) = w0 at *
  rw [← pr32_zero (bte h)] at r2
  go_loopw [7] (fun i wr => ∃ k : Nat, k ≤ 8 ∧ i = .int .i64 k ∧ wr.heap[w.heap.size]? = some (.cells (irow .u32 h) 77 (0, 0)) ∧ wr.heap[w.heap.size + 1]? = some (.cells (irow .u8 (zr 32)) 26 (0, 0)) ∧ wr.heap[w.heap.size + 1 + 1]? = some (.cells (irow .u8 (pr32 (bte h) (4 * k))) 26 (0, 0)) ∧ Below w.heap.size w wr) (fun i _ => 8 - (intOf i).toNat)
  case atStart => exact ⟨0, by omega, rfl, r0, r1, r2, hw⟩
  case round =>
    clear r0 r1 r2 hw
    obtain ⟨k, hk, rfl, r0, r1, r2, hw⟩ := hrel
    by_cases hlt : k < 8
    · have hd : decide ((k : Int) < 8) = true := by simp; omega
      have hb : 0 ≤ h.getD k 0 ∧ h.getD k 0 < 4294967296 := by
        apply hz
        rw [List.getD_eq_getElem?_getD, List.getElem?_eq_getElem (by omega)]
        exact List.getElem_mem _
      have hsl := slice_key (w.heap.size + 1 + 1) k hlt
      have hix := index23 h hl k hlt
      have e0 : bte h (4 * k) = h.getD k 0 / 16777216 := by unfold bte; rw [show 4 * k / 4 = k by omega, show 4 * k % 4 = 0 by omega]; show h.getD k 0 / 16777216 % 256 = _; omega
      have e1 : bte h (4 * k + 1) = h.getD k 0 / 65536 % 256 := by unfold bte; rw [show (4 * k + 1) / 4 = k by omega, show (4 * k + 1) % 4 = 1 by omega]; rfl
      have e2 : bte h (4 * k + 2) = h.getD k 0 / 256 % 256 := by unfold bte; rw [show (4 * k + 2) / 4 = k by omega, show (4 * k + 2) % 4 = 2 by omega]; rfl
      have e3 : bte h (4 * k + 3) = h.getD k 0 % 256 := by unfold bte; rw [show (4 * k + 3) / 4 = k by omega, show (4 * k + 3) % 4 = 3 by omega]; simp
      have h4 := pr32_four h k hlt
      rw [e0, e1, e2, e3] at h4
      clear e0 e1 e2 e3
      have hpl := pr32_len (bte h) (4 * k)
      generalize h.getD k 0 = x at *
      generalize hnx : pr32 (bte h) (4 * (k + 1)) = nxt at *
      replace hnx := hide hnx
      have hc : (Builtin.copy_ #[67, 67] 3 #[.slice (some ⟨w.heap.size + 1 + 1, 4 * k, none⟩) (32 - 4 * k) (32 - 4 * k), .slice (some ⟨wr.heap.size, 0, none⟩) 4 4]).run Tryd.prog (wr.alloc (.cells #[.int .u8 (x / 16777216), .int .u8 (x / 65536 % 256), .int .u8 (x / 256 % 256), .int .u8 (x % 256)] 5)) = .ok (goInt 4) ((wr.alloc (.cells #[.int .u8 (x / 16777216), .int .u8 (x / 65536 % 256), .int .u8 (x / 256 % 256), .int .u8 (x % 256)] 5)).setRow (w.heap.size + 1 + 1) (irow .u8 nxt)) := by
        have hn := hp1_0 wr (.cells (irow .u8 [x / 16777216, x / 65536 % 256, x / 256 % 256, x % 256]) 5)
        have hB : Below wr.heap.size wr (wr.alloc (.cells (irow .u8 [x / 16777216, x / 65536 % 256, x / 256 % 256, x % 256]) 5)) := (Below.refl _ _).alloc (Nat.le_refl _) _
        have := copy_irow (dLen := 32 - 4 * k) (dCap := 32 - 4 * k) (o := 4 * k) (m := 4) (cap := 4) (off := 0) (c := [x / 16777216, x / 65536 % 256, x / 256 % 256, x % 256]) (keep hB r2) (fun j hj => by rw [Nat.zero_add]; exact irow_cell hn hj) (show 4 = Nat.min 4 (32 - 4 * k) from (Nat.min_eq_left (by omega)).symm) (show 4 * k + 4 ≤ _ by omega)
        rw [h4]
        exact this
      replace h4 := hide h4
      have hB : Below wr.heap.size wr (wr.alloc (.cells #[.int .u8 (x / 16777216), .int .u8 (x / 65536 % 256), .int .u8 (x / 256 % 256), .int .u8 (x % 256)] 5)) := (Below.refl _ _).alloc (Nat.le_refl _) _
      go_wp2
      replace r0 := keep hB r0
      replace r1 := keep hB r1
      replace r2 := keep hB r2
      replace hw := Below.after hw hB
      clear hc hB
      generalize wr.alloc (.cells #[.int .u8 (x / 16777216), .int .u8 (x / 65536 % 256), .int .u8 (x / 256 % 256), .int .u8 (x % 256)] 5) = w5 at *
      refine ⟨⟨k + 1, by omega, by go_num, (setRow_other w5 (w.heap.size + 1 + 1) (w.heap.size) _ (by omega)).trans r0, (setRow_other w5 (w.heap.size + 1 + 1) (w.heap.size + 1) _ (by omega)).trans r1, by rw [hnx.out]; exact setRow_heap w5 (w.heap.size + 1 + 1) _ _ _ _ r2, below_setRow hw (show w.heap.size ≤ w.heap.size + 1 + 1 by omega) _⟩, ?_⟩
      simp [intOf]; omega
    · obtain rfl : k = 8 := by omega
      have hd : decide ((8 : Int) < 8) = false := by decide
      have hq := byts_len h
      go_wp2_with (first | (refine wpList_load_want rfl 26 _ rfl (w.heap.size + 1 + 1) rfl 26 (irow .u8 (byts h)) (0, 0) _ r2 Tryd.underlying26 rfl (infok8 _ hq) ?_) | (refine wpList_store_row rfl 26 _ _ rfl (w.heap.size + 1) (irow .u8 (byts h)) rfl rfl 26 _ r1 (infok8 _ hq) (fit32 _ _ (zr_len 32) hq) (irow_one _ _) ?_) | fail)
      replace r1 := setRow_heap wr (w.heap.size + 1) _ (irow .u8 (byts h)) _ _ r1
      replace hw := below_setRow hw (show w.heap.size ≤ w.heap.size + 1 by omega) (irow .u8 (byts h))
      generalize wr.setRow (w.heap.size + 1) (irow .u8 (byts h)) = w9 at *
      exact bodyPost_ret (v := .agg (irow .u8 (byts h))) (results_cell_row Tryd.results49 _ _ (w.heap.size + 1) _ _ _ _ rfl r1 Tryd.underlying26 rfl (infok8 _ hq)) rfl ⟨rfl, hw⟩

end Go.Proofs.YtilgicikcjcdjaaDoor


namespace Go.Proofs.YtilgicikcjcdjaaDoor
set_option maxRecDepth 100000
open Go Go.RowKit Go.Sort
attribute [local go_sem] setCell_drewN alloc_drewN

/-- How long the padding is; what it is, its last k bytes said. -/
def plen (n : Nat) : Nat := 9 + (119 - n % 64) % 64
def pbit (n i : Nat) : Int := ((8 * n % 18446744073709551616 / 2 ^ (8 * i) % 256 : Nat) : Int)
def padP (n k : Nat) : List Int := (List.range (plen n)).map fun j => if j = 0 then 128 else if plen n - k ≤ j then pbit n (plen n - 1 - j) else 0
def padL (n : Nat) : List Int := padP n 8
theorem plen_bd (n : Nat) : 9 ≤ plen n ∧ plen n ≤ 72 := by unfold plen; omega
theorem padP_len (n k : Nat) : (padP n k).length = plen n := by simp [padP]
theorem pbit_bd (n i : Nat) : 0 ≤ pbit n i ∧ pbit n i < 256 := by unfold pbit; omega
theorem padP_zero (n : Nat) : padP n 0 = (zr (plen n)).set 0 128 := by
  have hb := plen_bd n
  apply List.ext_getElem?
  intro j
  simp only [padP, zr, List.getElem?_set, List.getElem?_map, List.length_replicate, List.getElem?_replicate]
  by_cases hj : j < plen n
  · rw [List.getElem?_range hj]
    by_cases h0 : j = 0
    · subst h0; simp; omega
    · rw [if_neg (Ne.symm h0)]; simp [h0, hj]; omega
  · rw [List.getElem?_eq_none (by simp; omega)]
    simp [hj]; omega
theorem padP_set (n k : Nat) (hk : k < 8) : (padP n k).set (plen n - 1 - k) (pbit n k) = padP n (k + 1) := by
  have hb := plen_bd n
  apply List.ext_getElem?
  intro j
  rw [List.getElem?_set]
  by_cases e : plen n - 1 - k = j
  · rw [if_pos e, if_pos (by rw [padP_len]; omega)]
    subst e
    simp only [padP, List.getElem?_map, List.getElem?_range (show plen n - 1 - k < plen n by omega), Option.map_some]
    rw [if_neg (by omega), if_pos (by omega), show plen n - 1 - (plen n - 1 - k) = k by omega]
  · rw [if_neg e]
    simp only [padP, List.getElem?_map]
    by_cases hj : j < plen n
    · simp only [List.getElem?_range hj, Option.map_some]
      by_cases h0 : j = 0
      · rw [if_pos h0, if_pos h0]
      · rw [if_neg h0, if_neg h0]
        by_cases h1 : plen n - k ≤ j
        · rw [if_pos h1, if_pos (by omega)]
        · rw [if_neg h1, if_neg (by omega)]
    · rw [List.getElem?_eq_none (by simp; omega)]; rfl
theorem padL_bd (n : Nat) : ∀ z ∈ padL n, 0 ≤ z ∧ z < 256 := by
  intro z hz
  simp only [padL, padP, List.mem_map] at hz
  obtain ⟨j, _, rfl⟩ := hz
  split
  · omega
  · split
    · exact pbit_bd _ _
    · omega
theorem made_irow (n : Nat) : madeCells #[.int .u8 0] n = irow .u8 (zr n) := by
  apply Array.ext'
  simp only [madeCells, irow, zr, Array.toList_map, Array.toList_range, List.map_replicate]
  apply List.ext_getElem
  · simp
  · intro i h1 h2
    simp [Nat.mod_one]
theorem make_u64 (n : Nat) (h : n ≤ 281474976710656) (W : World) : (Instr.makeSlice 67 (.int .u64 (n : Int)) (.int .u64 (n : Int))).run Tryd.prog W = .ok (.slice (some ⟨W.heap.size, 0, none⟩) n n) (W.alloc (.cells (irow .u8 (zr n)) 5)) := by
  rw [← made_irow]
  exact run_make_row' 67 5 (.int .u8 0) 1 Tryd.underlying67 (by kernel_rfl) rfl .u64 .u64 n (by omega) (by omega) W
theorem make_i64 (n : Nat) (h : n ≤ 281474976710656) (W : World) : (Instr.makeSlice 67 (.int .i64 (n : Int)) (.int .i64 (n : Int))).run Tryd.prog W = .ok (.slice (some ⟨W.heap.size, 0, none⟩) n n) (W.alloc (.cells (irow .u8 (zr n)) 5)) := by
  rw [← made_irow]
  exact run_make_row' 67 5 (.int .u8 0) 1 Tryd.underlying67 (by kernel_rfl) rfl .i64 .i64 n (by omega) (by omega) W
set_option maxHeartbeats 2000000 in
theorem a_pad (n : Nat) (hn : n < 18446744073709551616) (w : World) : Calls Tryd.prog 48 #[.int .u64 (n : Int)] w fun e w' => ∃ v g, e = .returned v ∧ v = .slice (some ⟨g, 0, none⟩) (plen n) (plen n) ∧ w.heap.size ≤ g ∧ w'.heap[g]? = some (.cells (irow .u8 (padL n)) 5 (0, 0)) ∧ Below w.heap.size w w' := by
  have hpb := plen_bd n
  have hpl : 1 + (119 - (n : Int)) % 64 + 8 = (plen n : Int) := by unfold plen; omega
  have hmk := make_u64 (plen n) (by omega) w
  have R0 := hp1_0 w (.cells (irow .u8 (zr (plen n))) 5)
  have HW : Below w.heap.size w (w.alloc (.cells (irow .u8 (zr (plen n))) 5)) := (Below.refl _ _).alloc (Nat.le_refl _) _
  have hc0 := irow_cell R0 (j := 0) (by rw [zr_len]; omega)
  have hf0 := row_frozen R0 0
  have hps := padP_set n
  have hpp := padP_len n
  have hset0 : (irow .u8 (zr (plen n))).setIfInBounds 0 (.int .u8 128) = irow .u8 (padP n 0) := by
    rw [padP_zero n]
    simp [irow, List.map_set]
  replace hset0 := hide hset0
  clear R0 HW
  have hbit : ∀ k : Nat, k < 8 → (8 * (n : Int) % 18446744073709551616) / 2 ^ (8 * k) % 256 = pbit n k := fun k _ => by
    unfold pbit
    rw [Int.natCast_emod, Int.natCast_ediv, Int.natCast_emod, Int.natCast_mul, Int.natCast_pow]
    rfl
  generalize plen n = L at *
  go_enter Tryd.func48, Tryd.ntmps48
  go_wp2
  go_loopw [19] (fun i wr => ∃ k : Nat, k ≤ 8 ∧ i = .int .i64 k ∧ wr.heap[w.heap.size]? = some (.cells (irow .u8 (padP n k)) 5 (0, 0)) ∧ Below w.heap.size w wr) (fun i _ => 8 - (intOf i).toNat)
  case atStart => exact ⟨0, by omega, rfl, by rw [hset0.out]; exact hp1_0 w _, (Below.refl _ _).alloc (Nat.le_refl _) _⟩
  case round =>
    clear hset0 hmk hc0 hf0
    obtain ⟨k, hk, rfl, r0, hw⟩ := hrel
    by_cases hlt : k < 8
    · have hd : decide ((k : Int) < 8) = true := by simp; omega
      have hc := irow_cell r0 (j := L - 1 - k) (by rw [hpp]; omega)
      have hf := row_frozen r0 (L - 1 - k)
      have hs := hps k hlt
      have hb := hbit k hlt
      have hbb := pbit_bd n k
      clear hps hbit
      go_wp2
      refine ⟨⟨k + 1, by omega, by go_num, ?_, hw.setCell (show w.heap.size ≤ w.heap.size from Nat.le_refl _) _⟩, ?_⟩
      · rw [IntKind.wrap_u64, hb, ← hs]
        exact irow_set r0 _ _
      · simp [intOf]; omega
    · obtain rfl : k = 8 := by omega
      have hd : decide ((8 : Int) < 8) = false := by decide
      go_wp2
      go_ret
      exact ⟨_, _, rfl, rfl, Nat.le_refl _, r0, hw⟩

end Go.Proofs.YtilgicikcjcdjaaDoor


namespace Go.Proofs.YtilgicikcjcdjaaDoor
set_option maxRecDepth 100000
open Go Go.RowKit Go.Sort

/-! Blocks in a row; a hash under way. -/
def wat (bs : List Int) (q i : Nat) : Int := bs.getD (64 * q + i) 0
def chunk (bs : List Int) (k : Nat) : List Int := prt (wat bs k) 64
def fol (h bs : List Int) : Nat → List Int
  | 0 => h
  | k + 1 => blk (fol h bs k) (chunk bs k)
theorem fol_len {h : List Int} (hl : h.length = 8) (bs : List Int) : ∀ k, (fol h bs k).length = 8
  | 0 => hl
  | _ + 1 => blk_len _ _
theorem fol_bd {h : List Int} (hz : ∀ x ∈ h, 0 ≤ x ∧ x < 4294967296) (bs : List Int) : ∀ k, ∀ x ∈ fol h bs k, 0 ≤ x ∧ x < 4294967296
  | 0 => hz
  | _ + 1 => sums_bd _ _
theorem prt_congr {W V : Nat → Int} {t : Nat} (h : ∀ j, j < t → j < 64 → W j = V j) : prt W t = prt V t := by
  unfold prt
  apply List.map_congr_left
  intro j hj
  rw [List.mem_range] at hj
  by_cases e : j < t
  · rw [if_pos e, if_pos e, h j e hj]
  · rw [if_neg e, if_neg e]
theorem chunk_len (bs : List Int) (k : Nat) : (chunk bs k).length = 64 := prt_len _ _
theorem getD_bd {bs : List Int} (hz : ∀ z ∈ bs, 0 ≤ z ∧ z < 256) (j : Nat) : 0 ≤ bs.getD j 0 ∧ bs.getD j 0 < 256 := by
  rw [List.getD_eq_getElem?_getD]
  by_cases h : j < bs.length
  · rw [List.getElem?_eq_getElem h]; exact hz _ (List.getElem_mem _)
  · rw [List.getElem?_eq_none (by omega)]; exact ⟨by decide, by decide⟩
theorem prt_bd {W : Nat → Int} (h : ∀ j, 0 ≤ W j ∧ W j < 256) (t : Nat) : ∀ z ∈ prt W t, 0 ≤ z ∧ z < 256 := by
  intro z hz
  simp only [prt, List.mem_map] at hz
  obtain ⟨j, _, rfl⟩ := hz
  split
  · exact h j
  · omega
theorem wat_bd {bs : List Int} (hz : ∀ z ∈ bs, 0 ≤ z ∧ z < 256) (q : Nat) : ∀ j, 0 ≤ wat bs q j ∧ wat bs q j < 256 := fun _ => getD_bd hz _
theorem chunk_bd {bs : List Int} (hz : ∀ z ∈ bs, 0 ≤ z ∧ z < 256) (k : Nat) : ∀ z ∈ chunk bs k, 0 ≤ z ∧ z < 256 := prt_bd (wat_bd hz k) 64
theorem getD_append_lt (a b : List Int) (j : Nat) (h : j < a.length) : (a ++ b).getD j 0 = a.getD j 0 := by
  rw [List.getD_eq_getElem?_getD, List.getD_eq_getElem?_getD, List.getElem?_append_left h]
theorem getD_append_ge (a b : List Int) (j : Nat) (h : a.length ≤ j) : (a ++ b).getD j 0 = b.getD (j - a.length) 0 := by
  rw [List.getD_eq_getElem?_getD, List.getD_eq_getElem?_getD, List.getElem?_append_right h]
theorem fol_append (h a b : List Int) : ∀ k, 64 * k ≤ a.length → fol h (a ++ b) k = fol h a k
  | 0, _ => rfl
  | k + 1, hk => by
    unfold fol
    rw [fol_append h a b k (by omega)]
    congr 1
    unfold chunk
    apply prt_congr
    intro j _ hj
    exact getD_append_lt a b _ (by omega)
theorem wat_append (a b : List Int) (q r : Nat) (hr : a.length = 64 * q + r) : prt (wat (a ++ b) q) r = prt (wat a q) r := prt_congr fun j hj _ => getD_append_lt a b _ (by omega)
/-- What is copied behind r bytes of a part. -/
theorem part_over (a c : List Int) (q r : Nat) (hr : a.length = 64 * q + r) (hc : r + c.length ≤ 64) : (prt (wat a q) r).take r ++ c ++ (prt (wat a q) r).drop (r + c.length) = prt (wat (a ++ c) q) (r + c.length) := by
  have hl := prt_len (wat a q) r
  apply List.ext_getElem?
  intro j
  by_cases h1 : j < r
  · rw [List.append_assoc, List.getElem?_append_left (by simp; omega), List.getElem?_take_of_lt h1]
    simp only [prt, List.getElem?_map, List.getElem?_range (show j < 64 by omega), Option.map_some, if_pos h1, if_pos (show j < r + c.length by omega)]
    rw [wat, wat, getD_append_lt a c _ (by omega)]
  · by_cases h2 : j < r + c.length
    · rw [List.getElem?_append_left (by simp; omega), List.getElem?_append_right (by simp; omega)]
      have e : ((prt (wat a q) r).take r).length = r := by simp; omega
      rw [e]
      simp only [prt, List.getElem?_map, List.getElem?_range (show j < 64 by omega), Option.map_some, if_pos h2]
      rw [wat, getD_append_ge a c _ (by omega), List.getElem?_eq_getElem (by omega), List.getD_eq_getElem?_getD, show 64 * q + j - a.length = j - r by omega, List.getElem?_eq_getElem (by omega)]
      rfl
    · rw [List.getElem?_append_right (by simp; omega), List.getElem?_drop]
      have e : r + c.length + (j - ((prt (wat a q) r).take r ++ c).length) = j := by simp; omega
      rw [e]
      by_cases hj : j < 64
      · simp only [prt, List.getElem?_map, List.getElem?_range hj, Option.map_some, if_neg h1, if_neg h2]
      · rw [List.getElem?_eq_none (by omega), List.getElem?_eq_none (by rw [prt_len]; omega)]
/-- The cells of a hash. -/
def hcells (ws ps : List Int) (sz : Int) : Array Value := (ws.map (Value.int .u32) ++ (ps.map (Value.int .u8) ++ [Value.int .u64 sz])).toArray
def hwords (bs : List Int) : List Int := fol sl bs (bs.length / 64)
def hpart (bs : List Int) : List Int := prt (wat bs (bs.length / 64)) (bs.length % 64)
def hst (bs : List Int) : Array Value := hcells (hwords bs) (hpart bs) (bs.length : Int)
theorem hwords_len (bs : List Int) : (hwords bs).length = 8 := fol_len rfl _ _
theorem hpart_len (bs : List Int) : (hpart bs).length = 64 := prt_len _ _
theorem sl_bd : ∀ x ∈ sl, 0 ≤ x ∧ x < 4294967296 := by decide
theorem hwords_bd (bs : List Int) : ∀ x ∈ hwords bs, 0 ≤ x ∧ x < 4294967296 := fol_bd sl_bd _ _
theorem hpart_bd {bs : List Int} (hz : ∀ z ∈ bs, 0 ≤ z ∧ z < 256) : ∀ z ∈ hpart bs, 0 ≤ z ∧ z < 256 := prt_bd (wat_bd hz _) _
theorem hst_nil : hst [] = hcells sl (zr 64) 0 := rfl
/-- Bytes behind, the block not full. -/
theorem hst_less (a c : List Int) (h : a.length % 64 + c.length < 64) : hst (a ++ c) = hcells (hwords a) (prt (wat (a ++ c) (a.length / 64)) (a.length % 64 + c.length)) ((a.length : Int) + c.length) := by
  have e1 : (a ++ c).length / 64 = a.length / 64 := by rw [List.length_append]; omega
  have e2 : (a ++ c).length % 64 = a.length % 64 + c.length := by rw [List.length_append]; omega
  unfold hst hwords hpart
  rw [e1, e2, fol_append _ _ _ _ (by omega), List.length_append]
  rfl
/-- Bytes behind, the block full. -/
theorem hst_full (a c : List Int) (h : a.length % 64 + c.length = 64) : hst (a ++ c) = hcells (blk (hwords a) (prt (wat (a ++ c) (a.length / 64)) 64)) (zr 64) ((a.length : Int) + c.length) := by
  have e1 : (a ++ c).length / 64 = a.length / 64 + 1 := by rw [List.length_append]; omega
  have e2 : (a ++ c).length % 64 = 0 := by rw [List.length_append]; omega
  unfold hst hwords hpart
  rw [e1, e2, fol, fol_append _ _ _ _ (by omega), List.length_append, prt_zero]
  rfl
theorem hcells_size (ws ps : List Int) (sz : Int) (h1 : ws.length = 8) (h2 : ps.length = 64) : (hcells ws ps sz).size = 73 := by simp [hcells, h1, h2]
theorem hcells_words (ws ps : List Int) (sz : Int) (h1 : ws.length = 8) : (hcells ws ps sz).extract 0 (0 + 8) = irow .u32 ws := by
  apply Array.ext'
  simp [hcells, irow, h1]
theorem hcells_part (ws ps : List Int) (sz : Int) (h1 : ws.length = 8) (h2 : ps.length = 64) : (hcells ws ps sz).extract 8 (8 + 64) = irow .u8 ps := by
  apply Array.ext'
  simp [hcells, irow, h1, h2]
theorem hcells_at (ws ps : List Int) (sz : Int) (h1 : ws.length = 8) (h2 : ps.length = 64) : (hcells ws ps sz)[72]? = some (.int .u64 sz) := by
  simp [hcells, h1, h2]
theorem hcells_setsz (ws ps : List Int) (sz z : Int) (h1 : ws.length = 8) (h2 : ps.length = 64) : (hcells ws ps sz).setIfInBounds 72 (.int .u64 z) = hcells ws ps z := by
  apply Array.ext'
  simp [hcells, h1, h2]
/-- What copy makes of the part. -/
theorem hcells_copy (ws ps c : List Int) (sz : Int) (o : Nat) (h1 : ws.length = 8) (h2 : ps.length = 64) (hc : o + c.length ≤ 64) : ((hcells ws ps sz).toList.take (8 + o) ++ c.map (Value.int .u8) ++ (hcells ws ps sz).toList.drop (8 + o + (c.map (Value.int .u8)).length)).toArray = hcells ws (ps.take o ++ c ++ ps.drop (o + c.length)) sz := by
  apply Array.ext'
  have e1 : 8 + o - ws.length = o := by omega
  have e2 : 8 + o + c.length - ws.length = o + c.length := by omega
  simp only [hcells, List.length_map, List.take_append, List.drop_append, h1, h2, List.map_append, List.map_take, List.map_drop]
  rw [List.take_of_length_le (show (ws.map (Value.int .u32)).length ≤ 8 + o by simp; omega), List.drop_eq_nil_of_le (show (ws.map (Value.int .u32)).length ≤ 8 + o + c.length by simp; omega), show 8 + o - 8 = o by omega, show 8 + o + c.length - 8 = o + c.length by omega, show o - 64 = 0 by omega, show o + c.length - 64 = 0 by omega]
  simp [List.append_assoc]
theorem ovw_list : ∀ (vs : List Value) (cs : Array Value) (o : Nat), o + vs.length ≤ cs.size → (ovw cs o vs).toList = cs.toList.take o ++ vs ++ cs.toList.drop (o + vs.length)
  | [], cs, o, _ => by simp [ovw]
  | v :: r, cs, o, h => by
    have h' : o < cs.toList.length := by simp at h ⊢; omega
    rw [ovw, ovw_list r _ _ (by simp at h ⊢; omega), Array.toList_setIfInBounds, List.set_eq_take_append_cons_drop, if_pos h']
    have e : (cs.toList.take o).length = o := by rw [List.length_take]; omega
    rw [List.take_append, List.drop_append, e, List.take_take, show min (o + 1) o = o by omega, show o + 1 - o = 1 by omega, List.drop_eq_nil_of_le (show (cs.toList.take o).length ≤ o + 1 + r.length by omega), show o + 1 + r.length - o = r.length + 1 by omega, List.drop_succ_cons, List.drop_drop, List.length_cons, show o + 1 + r.length = o + (r.length + 1) by omega]
    simp
theorem hcells_setwords (ws vs ps : List Int) (sz : Int) (h1 : ws.length = 8) (h2 : ps.length = 64) (h3 : vs.length = 8) : ovw (hcells ws ps sz) 0 (irow .u32 vs).toList = hcells vs ps sz := by
  apply Array.ext'
  rw [ovw_list _ _ _ (by rw [hcells_size _ _ _ h1 h2]; simp [irow, h3])]
  simp [hcells, irow, h1, h3]
theorem hcells_setpart (ws ps qs : List Int) (sz : Int) (h1 : ws.length = 8) (h2 : ps.length = 64) (h3 : qs.length = 64) : ovw (hcells ws ps sz) 8 (irow .u8 qs).toList = hcells ws qs sz := by
  apply Array.ext'
  rw [ovw_list _ _ _ (by rw [hcells_size _ _ _ h1 h2]; simp [irow, h3])]
  simp only [hcells, irow, h1, h3, List.length_map, List.take_append, List.take_of_length_le (show (ws.map (Value.int .u32)).length ≤ 8 by simp; omega)]
  rw [show 8 - 8 = 0 from rfl, List.take_zero, ← List.append_assoc (ws.map (Value.int .u32)) (ps.map (Value.int .u8)), List.drop_left' (by simp; omega)]
  simp
theorem hcells_one (ws ps : List Int) (sz : Int) : (hcells ws ps sz).all (·.oneCell') = true := by
  simp only [hcells, List.all_toArray, List.all_append, List.all_map, Bool.and_eq_true, List.all_eq_true, List.all_cons, List.all_nil]
  exact ⟨fun _ _ => rfl, fun _ _ => rfl, rfl, trivial⟩
end Go.Proofs.YtilgicikcjcdjaaDoor

namespace Go.Proofs.YtilgicikcjcdjaaDoor
set_option maxRecDepth 100000
open Go Go.RowKit Go.Sort
attribute [local go_sem] setCell_drewN alloc_drewN

def kvals (l : List Int) : Nat → List (Nat × Value) := fun n => (List.range n).map fun i => (i, .int .u32 (l.getD i 0))
theorem kbuilt : Tryd.prog.built 95 (kvals kl 64) = some (irow .u32 kl) := by kernel_rfl
theorem sbuilt : Tryd.prog.built 77 (kvals sl 8) = some (irow .u32 sl) := by kernel_rfl
theorem infok : (Tryd.prog.info? 95).map (·.size) = some (irow .u32 kl).size := by kernel_rfl
set_option maxRecDepth 100000 in
set_option maxHeartbeats 4000000 in
theorem r_constants : Gives 50 #[] (.agg (irow .u32 kl)) := by
  intro w
  have R0 := hp1_0 w (.cells (irow .u32 (zr 64)) 95)
  have HW : Below w.heap.size w (w.alloc (.cells (irow .u32 (zr 64)) 95)) := ((Below.refl _ _).alloc (Nat.le_refl _) _)

  go_enter Tryd.func50, Tryd.ntmps50
  go_wp2_with (first | (refine wpList_alloc rfl 95 rfl (irow .u32 (zr 64)) z57 ?_) | (refine wpList_build_as rfl 95 _ rfl (kvals kl 64) (by kernel_rfl) (irow .u32 kl) kbuilt ?_) | (refine wpList_store_row rfl 95 _ _ rfl (w.heap.size) (irow .u32 kl) rfl rfl 95 _ R0 infok rfl (irow_one _ _) ?_) | fail)
  replace R0 := setRow_heap (w.alloc (.cells (irow .u32 (zr 64)) 95)) (w.heap.size) _ (irow .u32 kl) _ _ R0
  replace HW := below_setRow HW (show w.heap.size ≤ w.heap.size by omega) (irow .u32 kl)
  generalize (w.alloc (.cells (irow .u32 (zr 64)) 95)).setRow (w.heap.size) (irow .u32 kl) = w9 at *
  exact bodyPost_ret (v := .agg (irow .u32 kl)) (results_cell_row Tryd.results50 _ _ (w.heap.size) _ _ _ _ rfl R0 Tryd.underlying95 rfl infok) rfl ⟨rfl, HW⟩
set_option maxRecDepth 100000 in
set_option maxHeartbeats 4000000 in
theorem r_start : Gives 36 #[] (.agg (irow .u32 sl)) := by
  intro w
  have R0 := hp1_0 w (.cells (irow .u32 (zr 8)) 77)
  have HW : Below w.heap.size w (w.alloc (.cells (irow .u32 (zr 8)) 77)) := ((Below.refl _ _).alloc (Nat.le_refl _) _)

  go_enter Tryd.func36, Tryd.ntmps36
  go_wp2_with (first | (refine wpList_alloc rfl 77 rfl (irow .u32 (zr 8)) z23 ?_) | (refine wpList_build_as rfl 77 _ rfl (kvals sl 8) (by kernel_rfl) (irow .u32 sl) sbuilt ?_) | (refine wpList_store_row rfl 77 _ _ rfl (w.heap.size) (irow .u32 sl) rfl rfl 77 _ R0 (info23 sl rfl) rfl (irow_one _ _) ?_) | fail)
  replace R0 := setRow_heap (w.alloc (.cells (irow .u32 (zr 8)) 77)) (w.heap.size) _ (irow .u32 sl) _ _ R0
  replace HW := below_setRow HW (show w.heap.size ≤ w.heap.size by omega) (irow .u32 sl)
  generalize (w.alloc (.cells (irow .u32 (zr 8)) 77)).setRow (w.heap.size) (irow .u32 sl) = w9 at *
  exact bodyPost_ret (v := .agg (irow .u32 sl)) (results_cell_row Tryd.results36 _ _ (w.heap.size) _ _ _ _ rfl R0 Tryd.underlying77 rfl (info23 sl rfl)) rfl ⟨rfl, HW⟩

end Go.Proofs.YtilgicikcjcdjaaDoor


namespace Go.Proofs.YtilgicikcjcdjaaDoor
set_option maxRecDepth 100000
open Go Go.RowKit Go.Sort
attribute [local go_sem] setCell_drewN alloc_drewN

theorem st0_list (h : List Int) (hl : h.length = 8) : (st0 h).list = h := by
  match h, hl with
  | [a, b, c, d, e, f, g, x], _ => rfl
set_option maxRecDepth 100000 in
set_option maxHeartbeats 8000000 in
theorem r_block (h b : List Int) (hl : h.length = 8) (hb : b.length = 64) (hz : ∀ z ∈ b, 0 ≤ z ∧ z < 256) : Gives 43 #[.agg (irow .u32 h), .agg (irow .u8 b)] (.agg (irow .u32 (blk h b))) := by
  intro w
  have cK := r_constants
  have r0 := hp3_0 w (.cells (irow .u32 h) 77) (.cells (irow .u8 b) 78) (.cells (irow .u32 (zr 8)) 77)
  have r1 := hp3_1 w (.cells (irow .u32 h) 77) (.cells (irow .u8 b) 78) (.cells (irow .u32 (zr 8)) 77)
  have r2 := hp3_2 w (.cells (irow .u32 h) 77) (.cells (irow .u8 b) 78) (.cells (irow .u32 (zr 8)) 77)
  have hw : Below w.heap.size w (((w.alloc (.cells (irow .u32 h) 77)).alloc (.cells (irow .u8 b) 78)).alloc (.cells (irow .u32 (zr 8)) 77)) := ((((Below.refl _ _).alloc (Nat.le_refl _) _).alloc (by simp) _).alloc (by simp; omega) _)

  go_enter Tryd.func43, Tryd.ntmps43
  go_wp2_with (first | (refine wpList_box rfl 77 _ rfl _ rfl (b23 _) ?_) | (refine wpList_box rfl 78 _ rfl _ rfl (b24 _) ?_) | (refine wpList_alloc rfl 77 rfl (irow .u32 (zr 8)) z23 ?_) | fail)
  try simp only [size_alloc1, Act.put, List.setIfInBounds_toArray, List.set_cons_succ, List.set_cons_zero]
  generalize (((w.alloc (.cells (irow .u32 h) 77)).alloc (.cells (irow .u8 b) 78)).alloc (.cells (irow .u32 (zr 8)) 77)) = w0 at *
  refine (cK.at _).mono ?_
  rintro e_ w1 ⟨rfl, hb⟩
  replace r0 := keep hb r0
  replace r1 := keep hb r1
  replace r2 := keep hb r2
  replace hw := Below.after hw hb
  clear hb

  go_wp2_with (first | (refine wpList_alloc rfl 95 rfl (irow .u32 (zr 64)) z57 ?_) | (refine wpList_store_row rfl 95 _ _ rfl (w1.heap.size) (irow .u32 kl) rfl rfl 95 _ (hp1_0 w1 _) infok rfl (irow_one _ _) ?_; rw [setRow_alloc_new _ _ _ _ _ _ rfl]) | fail)
  have rk := hp2_0 w1 (.cells (irow .u32 kl) 95) (.cells (irow .u32 (zr 64)) 95)
  have rw := hp2_1 w1 (.cells (irow .u32 kl) 95) (.cells (irow .u32 (zr 64)) 95)
  have hB : Below w1.heap.size w1 ((w1.alloc (.cells (irow .u32 kl) 95)).alloc (.cells (irow .u32 (zr 64)) 95)) := ((Below.refl _ _).alloc (Nat.le_refl _) _).alloc (by simp) _
  have yk := lt_of_row r2
  replace r0 := keep hB r0
  replace r1 := keep hB r1
  replace r2 := keep hB r2
  replace hw := Below.after hw hB
  clear hB cK
  try simp only [size_alloc1, Act.put, List.setIfInBounds_toArray, List.set_cons_succ, List.set_cons_zero]
  generalize (w1.alloc (.cells (irow .u32 kl) 95)).alloc (.cells (irow .u32 (zr 64)) 95) = w2 at *
  generalize w1.heap.size = gK at *
  rw [← prt_zero (wds b)] at rw
  go_loopw [7] (fun i wr => ∃ k : Nat, k ≤ 16 ∧ i = .int .i64 k ∧ wr.heap[w.heap.size]? = some (.cells (irow .u32 h) 77 (0, 0)) ∧ wr.heap[w.heap.size + 1]? = some (.cells (irow .u8 b) 78 (0, 0)) ∧ wr.heap[w.heap.size + 1 + 1]? = some (.cells (irow .u32 (zr 8)) 77 (0, 0)) ∧ wr.heap[gK]? = some (.cells (irow .u32 kl) 95 (0, 0)) ∧ wr.heap[gK + 1]? = some (.cells (irow .u32 (prt (wds b) k)) 95 (0, 0)) ∧ Below w.heap.size w wr) (fun i _ => 16 - (intOf i).toNat)
  case atStart => exact ⟨0, by omega, rfl, r0, r1, r2, rk, rw, hw⟩
  case round =>
    clear r0 r1 r2 rk rw hw
    obtain ⟨k, hk, rfl, r0, r1, r2, rk, rw, hw⟩ := hrel
    by_cases hlt : k < 16
    · have hd : decide ((k : Int) < 16) = true := by simp; omega
      have c0 := irow_cell r1 (j := 4 * k + 0) (by omega)
      have c1 := irow_cell r1 (j := 4 * k + 1) (by omega)
      have c2 := irow_cell r1 (j := 4 * k + 2) (by omega)
      have c3 := irow_cell r1 (j := 4 * k + 3) (by omega)
      have b0 := bound_at hz (4 * k + 0) (by omega)
      have b1 := bound_at hz (4 * k + 1) (by omega)
      have b2 := bound_at hz (4 * k + 2) (by omega)
      have b3 := bound_at hz (4 * k + 3) (by omega)
      have hset := prt_set (wds b) k (by omega)
      have hpl := prt_len (wds b) k
      have e : wds b k = w4 (b.getD (4 * k + 0) 0) (b.getD (4 * k + 1) 0) (b.getD (4 * k + 2) 0) (b.getD (4 * k + 3) 0) := by rw [wds_lo _ hlt]; rfl
      generalize b.getD (4 * k + 0) 0 = z0 at *
      generalize b.getD (4 * k + 1) 0 = z1 at *
      generalize b.getD (4 * k + 2) 0 = z2 at *
      generalize b.getD (4 * k + 3) 0 = z3 at *
      rw [Nat.add_zero] at c0
      rw [e] at hset
      unfold w4 at hset
      clear e
      replace hset := hide hset
      go_wp2
      have k0 : ∀ p : Regrown, (grow (redrawn wr p.d) p.os).cell? ⟨w.heap.size + 1, 4 * k, none⟩ = some (.int .u8 z0) := fun p => cell_regrown (c0) p.d p.os
      have k1 : ∀ p : Regrown, (grow (redrawn wr p.d) p.os).cell? ⟨w.heap.size + 1, 4 * k + 1, none⟩ = some (.int .u8 z1) := fun p => cell_regrown (c1) p.d p.os
      have k2 : ∀ p : Regrown, (grow (redrawn wr p.d) p.os).cell? ⟨w.heap.size + 1, 4 * k + 2, none⟩ = some (.int .u8 z2) := fun p => cell_regrown (c2) p.d p.os
      have k3 : ∀ p : Regrown, (grow (redrawn wr p.d) p.os).cell? ⟨w.heap.size + 1, 4 * k + 3, none⟩ = some (.int .u8 z3) := fun p => cell_regrown (c3) p.d p.os
      refine wp_region_tail (C := fun w' => ∃ p : Regrown, w' = grow (redrawn wr p.d) p.os) 31 _ rfl rfl rfl (by kernel_rfl) (by kernel_rfl) (by kernel_rfl) (by kernel_rfl) ⟨⟨wr.drawn + 1, #[]⟩, by rw [grow_empty]; rfl⟩ ?_
      dsimp only [List.set, idle]
      go_big_quiet_step (fail)
      go_big_quiet_step (fail)
      go_big_quiet_step (fail)
      go_big_quiet_step (fail)
      go_big_quiet_step (fail)
      go_big_quiet_step (fail)
      go_big_quiet_step (fail)
      go_big_quiet_step (fail)
      go_big_quiet_step (fail)
      go_big_quiet_step (fail)
      go_big_quiet_step (fail)
      go_big_quiet_step (fail)
      go_big_quiet_step (fail)
      go_big_quiet_step (fail)
      go_big_quiet_step (fail)
      go_big_quiet_step (fail)
      go_big_quiet_step (fail)
      go_big_quiet_step (fail)
      go_big_quiet_step (fail)
      go_big_quiet_step (fail)
      go_big_quiet_step (fail)
      go_big_quiet_step (fail)
      go_big_quiet_step (fail)
      go_big_quiet_step (fail)
      go_big_quiet_step (fail)
      go_big_quiet_step (fail)
      go_big_quiet_step (fail)
      go_big_quiet_step (fail)
      go_big_quiet_step (fail)
      go_big_quiet_step (fail)
      go_big_quiet_step (fail)
      refine wpQuiet_idle rfl rfl rfl ?_
      rintro _ ⟨p, rfl⟩
      have hb := below_regrown wr p.d p.os
      generalize grow (redrawn wr p.d) p.os = w3 at *
      clear k0 k1 k2 k3
      replace r0 := keep hb r0
      replace r1 := keep hb r1
      replace r2 := keep hb r2
      replace rk := keep hb rk
      replace rw := keep hb rw
      replace hw := Below.after hw hb
      clear hb

      have cz := irow_cell rw (j := k) (by omega)
      have hf := row_frozen rw k
      clear c0 c1 c2 c3 b0 b1 b2 b3
      go_wp2
      refine ⟨⟨k + 1, by omega, by go_num, heap_other r0 (by omega), heap_other r1 (by omega), heap_other r2 (by omega), heap_other rk (by omega), by rw [← hset.out]; exact irow_set rw k _, hw.setCell (show w.heap.size ≤ gK + 1 by omega) _⟩, ?_⟩
      simp [intOf]; omega
    · obtain rfl : k = 16 := by omega
      have hd : decide ((16 : Int) < 16) = false := by decide
      go_wp2
      go_loopw [8] (fun i wr => ∃ k : Nat, 16 ≤ k ∧ k ≤ 64 ∧ i = .int .i64 k ∧ wr.heap[w.heap.size]? = some (.cells (irow .u32 h) 77 (0, 0)) ∧ wr.heap[w.heap.size + 1]? = some (.cells (irow .u8 b) 78 (0, 0)) ∧ wr.heap[w.heap.size + 1 + 1]? = some (.cells (irow .u32 (zr 8)) 77 (0, 0)) ∧ wr.heap[gK]? = some (.cells (irow .u32 kl) 95 (0, 0)) ∧ wr.heap[gK + 1]? = some (.cells (irow .u32 (prt (wds b) k)) 95 (0, 0)) ∧ Below w.heap.size w wr) (fun i _ => 64 - (intOf i).toNat)
      case atStart => exact ⟨16, by omega, by omega, rfl, r0, r1, r2, rk, rw, hw⟩
      case round =>
        clear r0 r1 r2 rk rw hw hd
        obtain ⟨k, hk0, hk, rfl, r0, r1, r2, rk, rw, hw⟩ := hrel
        by_cases hlt : k < 64
        · have hd : decide ((k : Int) < 64) = true := by simp; omega
          have d2 := irow_cell rw (j := k - 2) (by rw [prt_len]; omega)
          have d7 := irow_cell rw (j := k - 7) (by rw [prt_len]; omega)
          have d15 := irow_cell rw (j := k - 15) (by rw [prt_len]; omega)
          have d16 := irow_cell rw (j := k - 16) (by rw [prt_len]; omega)
          rw [prt_get _ _ (by omega) (by omega)] at d2 d7 d15 d16
          have c1 := r_lo1 (wds b (k - 2))
          have c0 := r_lo0 (wds b (k - 15))
          have hset := prt_set (wds b) k (by omega)
          have hpl := prt_len (wds b) k
          rw [wds_hi b (t := k) (by omega)] at hset
          generalize lo1 (wds b (k - 2)) = q1 at *
          generalize lo0 (wds b (k - 15)) = q0 at *
          generalize wds b (k - 2) = x2 at *
          generalize wds b (k - 7) = x7 at *
          generalize wds b (k - 15) = x15 at *
          generalize wds b (k - 16) = x16 at *
          replace hset := hide hset
          go_wp2
          have k2 : ∀ p : Regrown, (grow (redrawn wr p.d) p.os).cell? ⟨gK + 1, k - 2, none⟩ = some (.int .u32 x2) := fun p => cell_regrown (d2) p.d p.os
          have k7 : ∀ p : Regrown, (grow (redrawn wr p.d) p.os).cell? ⟨gK + 1, k - 7, none⟩ = some (.int .u32 x7) := fun p => cell_regrown (d7) p.d p.os
          have k15 : ∀ p : Regrown, (grow (redrawn wr p.d) p.os).cell? ⟨gK + 1, k - 15, none⟩ = some (.int .u32 x15) := fun p => cell_regrown (d15) p.d p.os
          have k16 : ∀ p : Regrown, (grow (redrawn wr p.d) p.os).cell? ⟨gK + 1, k - 16, none⟩ = some (.int .u32 x16) := fun p => cell_regrown (d16) p.d p.os
          refine wp_region_tail (C := fun w' => ∃ p : Regrown, w' = grow (redrawn wr p.d) p.os) 23 _ rfl rfl rfl (by kernel_rfl) (by kernel_rfl) (by kernel_rfl) (by kernel_rfl) ⟨⟨wr.drawn + 1, #[]⟩, by rw [grow_empty]; rfl⟩ ?_
          dsimp only [List.set, idle]
          go_big_quiet_step (fail)
          go_big_quiet_step (fail)
          go_big_quiet_step (fail)
          go_big_quiet_step (fail)
          go_big_quiet_step (fail)
          go_big_quiet_step (exact c1.re)
          go_big_quiet_step (fail)
          go_big_quiet_step (fail)
          go_big_quiet_step (fail)
          go_big_quiet_step (fail)
          go_big_quiet_step (fail)
          go_big_quiet_step (fail)
          go_big_quiet_step (fail)
          go_big_quiet_step (fail)
          go_big_quiet_step (fail)
          go_big_quiet_step (exact c0.re)
          go_big_quiet_step (fail)
          go_big_quiet_step (fail)
          go_big_quiet_step (fail)
          go_big_quiet_step (fail)
          go_big_quiet_step (fail)
          go_big_quiet_step (fail)
          go_big_quiet_step (fail)
          refine wpQuiet_idle rfl rfl rfl ?_
          rintro _ ⟨p, rfl⟩
          have hb := below_regrown wr p.d p.os
          generalize grow (redrawn wr p.d) p.os = w3 at *
          clear k2 k7 k15 k16
          replace r0 := keep hb r0
          replace r1 := keep hb r1
          replace r2 := keep hb r2
          replace rk := keep hb rk
          replace rw := keep hb rw
          replace hw := Below.after hw hb
          clear hb

          have cz := irow_cell rw (j := k) (by omega)
          have hf := row_frozen rw k
          clear d2 d7 d15 d16 c0 c1
          go_wp2
          refine ⟨⟨k + 1, by omega, by omega, by go_num, heap_other r0 (by omega), heap_other r1 (by omega), heap_other r2 (by omega), heap_other rk (by omega), by rw [← hset.out]; exact irow_set rw k _, hw.setCell (show w.heap.size ≤ gK + 1 by omega) _⟩, ?_⟩
          simp [intOf]; omega
        · obtain rfl : k = 64 := by omega
          have hd : decide ((64 : Int) < 64) = false := by decide
          go_wp2_with (first | (refine wpList_load_want rfl 77 _ rfl (w.heap.size) rfl 77 (irow .u32 h) (0, 0) _ r0 Tryd.underlying77 rfl (info23 _ hl) ?_) | (refine wpList_alloc rfl 77 rfl (irow .u32 (zr 8)) z23 ?_) | (refine wpList_store_row rfl 77 _ _ rfl (wr.heap.size) (irow .u32 h) rfl rfl 77 _ (hp1_0 wr _) (info23 _ hl) (fit8 _ _ (zr_len 8) hl) (irow_one _ _) ?_; rw [setRow_alloc_new _ _ _ _ _ _ rfl]) | fail)
          have rv := hp1_0 wr (.cells (irow .u32 h) 77)
          have hB : Below wr.heap.size wr (wr.alloc (.cells (irow .u32 h) 77)) := (Below.refl _ _).alloc (Nat.le_refl _) _
          have yv := lt_of_row rw
          replace r0 := keep hB r0
          replace r2 := keep hB r2
          replace rk := keep hB rk
          replace rw := keep hB rw
          replace hw := Below.after hw hB
          clear hB r1
          try simp only [size_alloc1, Act.put, List.setIfInBounds_toArray, List.set_cons_succ, List.set_cons_zero]
          generalize wr.alloc (.cells (irow .u32 h) 77) = w4_ at *
          generalize wr.heap.size = gV at *
          rw [← st0_list h hl, show st0 h = rs h (wds b) 0 from rfl] at rv
          go_loopw [10] (fun i wr => ∃ k : Nat, k ≤ 64 ∧ i = .int .i64 k ∧ wr.heap[w.heap.size]? = some (.cells (irow .u32 h) 77 (0, 0)) ∧ wr.heap[w.heap.size + 1 + 1]? = some (.cells (irow .u32 (zr 8)) 77 (0, 0)) ∧ wr.heap[gK]? = some (.cells (irow .u32 kl) 95 (0, 0)) ∧ wr.heap[gK + 1]? = some (.cells (irow .u32 (prt (wds b) 64)) 95 (0, 0)) ∧ wr.heap[gV]? = some (.cells (irow .u32 (rs h (wds b) k).list) 77 (0, 0)) ∧ Below w.heap.size w wr) (fun i _ => 64 - (intOf i).toNat)
          case atStart => exact ⟨0, by omega, rfl, r0, r2, rk, rw, rv, hw⟩
          case round =>
            clear r0 r2 rk rw rv hw hd
            obtain ⟨k, hk, rfl, r0, r2, rk, rw, rv, hw⟩ := hrel
            by_cases hlt : k < 64
            · have hd : decide ((k : Int) < 64) = true := by simp; omega
              have hn : rs h (wds b) (k + 1) = rnd (kl.getD k 0) (wds b k) (rs h (wds b) k) := rfl
              generalize rs h (wds b) k = sk at *
              obtain ⟨a, bb, c, d, e, f, g, x⟩ := sk
              unfold St8.list at rv
              dsimp only at rv
              have dk := irow_cell rk (j := k) hlt
              have dw := irow_cell rw (j := k) (by rw [prt_len]; omega)
              rw [prt_get _ _ hlt hlt] at dw
              have c1 := r_up1 e
              have c0 := r_up0 a
              simp only [rnd, one1, two2, notx] at hn
              generalize up1 e = q1 at *
              generalize up0 a = q0 at *
              generalize kl.getD k 0 = K at *
              generalize wds b k = wk at *
              replace hn := hide hn
              have d0 : wr.cell? ⟨gV, 0, none⟩ = some (.int .u32 a) := irow_cell rv (j := 0) (show 0 < 8 by decide)
              have d1 : wr.cell? ⟨gV, 1, none⟩ = some (.int .u32 bb) := irow_cell rv (j := 1) (show 1 < 8 by decide)
              have d2 : wr.cell? ⟨gV, 2, none⟩ = some (.int .u32 c) := irow_cell rv (j := 2) (show 2 < 8 by decide)
              have d3 : wr.cell? ⟨gV, 3, none⟩ = some (.int .u32 d) := irow_cell rv (j := 3) (show 3 < 8 by decide)
              have d4 : wr.cell? ⟨gV, 4, none⟩ = some (.int .u32 e) := irow_cell rv (j := 4) (show 4 < 8 by decide)
              have d5 : wr.cell? ⟨gV, 5, none⟩ = some (.int .u32 f) := irow_cell rv (j := 5) (show 5 < 8 by decide)
              have d6 : wr.cell? ⟨gV, 6, none⟩ = some (.int .u32 g) := irow_cell rv (j := 6) (show 6 < 8 by decide)
              have d7 : wr.cell? ⟨gV, 7, none⟩ = some (.int .u32 x) := irow_cell rv (j := 7) (show 7 < 8 by decide)
              go_wp2
              have k4 : ∀ p : Regrown, (grow (redrawn wr p.d) p.os).cell? ⟨gV, 4, none⟩ = some (.int .u32 e) := fun p => cell_regrown (d4) p.d p.os
              have k5 : ∀ p : Regrown, (grow (redrawn wr p.d) p.os).cell? ⟨gV, 5, none⟩ = some (.int .u32 f) := fun p => cell_regrown (d5) p.d p.os
              have k6 : ∀ p : Regrown, (grow (redrawn wr p.d) p.os).cell? ⟨gV, 6, none⟩ = some (.int .u32 g) := fun p => cell_regrown (d6) p.d p.os
              have k7 : ∀ p : Regrown, (grow (redrawn wr p.d) p.os).cell? ⟨gV, 7, none⟩ = some (.int .u32 x) := fun p => cell_regrown (d7) p.d p.os
              have kk : ∀ p : Regrown, (grow (redrawn wr p.d) p.os).cell? ⟨gK, k, none⟩ = some (.int .u32 K) := fun p => cell_regrown (dk) p.d p.os
              have kw : ∀ p : Regrown, (grow (redrawn wr p.d) p.os).cell? ⟨gK + 1, k, none⟩ = some (.int .u32 wk) := fun p => cell_regrown (dw) p.d p.os
              refine wp_region_quiet_below (by kernel_rfl) (by kernel_rfl) ?_
              go_big_quiet_step (fail)
              go_big_quiet_step (fail)
              go_big_quiet_step (fail)
              go_big_quiet_step (fail)
              go_big_quiet_step (exact c1.re)
              go_big_quiet_step (fail)
              go_big_quiet_step (fail)
              go_big_quiet_step (fail)
              go_big_quiet_step (fail)
              go_big_quiet_step (fail)
              go_big_quiet_step (fail)
              go_big_quiet_step (fail)
              go_big_quiet_step (fail)
              go_big_quiet_step (fail)
              go_big_quiet_step (fail)
              go_big_quiet_step (fail)
              go_big_quiet_step (fail)
              go_big_quiet_step (fail)
              go_big_quiet_step (fail)
              go_big_quiet_step (fail)
              go_big_quiet_step (fail)
              go_big_quiet_step (fail)
              go_big_quiet_step (fail)
              go_big_quiet_step (fail)
              go_big_quiet_step (fail)
              go_big_quiet_step (fail)
              go_big_quiet_step (fail)
              go_big_quiet_step (fail)
              refine wpQuiet_nil ?_
              rintro _ ⟨p, rfl⟩
              have hb := below_regrown wr p.d p.os
              generalize grow (redrawn wr p.d) p.os = w5 at *
              clear k4 k5 k6 k7 kk kw
              replace r0 := keep hb r0
              replace r2 := keep hb r2
              replace rk := keep hb rk
              replace rw := keep hb rw
              replace rv := keep hb rv
              replace hw := Below.after hw hb
              clear hb

              clear d0 d1 d2 d3 d4 d5 d6 d7 dk dw
              have d0 : w5.cell? ⟨gV, 0, none⟩ = some (.int .u32 a) := irow_cell rv (j := 0) (show 0 < 8 by decide)
              have d1 : w5.cell? ⟨gV, 1, none⟩ = some (.int .u32 bb) := irow_cell rv (j := 1) (show 1 < 8 by decide)
              have d2 : w5.cell? ⟨gV, 2, none⟩ = some (.int .u32 c) := irow_cell rv (j := 2) (show 2 < 8 by decide)
              go_wp2
              have k0 : ∀ p : Regrown, (grow (redrawn w5 p.d) p.os).cell? ⟨gV, 0, none⟩ = some (.int .u32 a) := fun p => cell_regrown (d0) p.d p.os
              have k1 : ∀ p : Regrown, (grow (redrawn w5 p.d) p.os).cell? ⟨gV, 1, none⟩ = some (.int .u32 bb) := fun p => cell_regrown (d1) p.d p.os
              have k2 : ∀ p : Regrown, (grow (redrawn w5 p.d) p.os).cell? ⟨gV, 2, none⟩ = some (.int .u32 c) := fun p => cell_regrown (d2) p.d p.os
              refine wp_region_quiet_below (by kernel_rfl) (by kernel_rfl) ?_
              go_big_quiet_step (fail)
              go_big_quiet_step (fail)
              go_big_quiet_step (exact c0.re)
              go_big_quiet_step (fail)
              go_big_quiet_step (fail)
              go_big_quiet_step (fail)
              go_big_quiet_step (fail)
              go_big_quiet_step (fail)
              go_big_quiet_step (fail)
              go_big_quiet_step (fail)
              go_big_quiet_step (fail)
              go_big_quiet_step (fail)
              go_big_quiet_step (fail)
              go_big_quiet_step (fail)
              go_big_quiet_step (fail)
              go_big_quiet_step (fail)
              go_big_quiet_step (fail)
              go_big_quiet_step (fail)
              go_big_quiet_step (fail)
              go_big_quiet_step (fail)
              go_big_quiet_step (fail)
              go_big_quiet_step (fail)
              refine wpQuiet_nil ?_
              rintro _ ⟨p, rfl⟩
              have hb := below_regrown w5 p.d p.os
              generalize grow (redrawn w5 p.d) p.os = w6 at *
              clear k0 k1 k2
              replace r0 := keep hb r0
              replace r2 := keep hb r2
              replace rk := keep hb rk
              replace rw := keep hb rw
              replace rv := keep hb rv
              replace hw := Below.after hw hb
              clear hb

              clear d0 d1 d2
              have d0 : w6.cell? ⟨gV, 0, none⟩ = some (.int .u32 a) := irow_cell rv (j := 0) (show 0 < 8 by decide)
              have d1 : w6.cell? ⟨gV, 1, none⟩ = some (.int .u32 bb) := irow_cell rv (j := 1) (show 1 < 8 by decide)
              have d2 : w6.cell? ⟨gV, 2, none⟩ = some (.int .u32 c) := irow_cell rv (j := 2) (show 2 < 8 by decide)
              have d3 : w6.cell? ⟨gV, 3, none⟩ = some (.int .u32 d) := irow_cell rv (j := 3) (show 3 < 8 by decide)
              have d4 : w6.cell? ⟨gV, 4, none⟩ = some (.int .u32 e) := irow_cell rv (j := 4) (show 4 < 8 by decide)
              have d5 : w6.cell? ⟨gV, 5, none⟩ = some (.int .u32 f) := irow_cell rv (j := 5) (show 5 < 8 by decide)
              have d6 : w6.cell? ⟨gV, 6, none⟩ = some (.int .u32 g) := irow_cell rv (j := 6) (show 6 < 8 by decide)
              generalize hO : (x + q1 + bits .xor .u32 (bits .and .u32 e f) (bits .and .u32 (bits .xor .u32 IntKind.u32.max e) g) + K + wk) % 4294967296 = o1 at *
              generalize hT : (q0 + bits .xor .u32 (bits .xor .u32 (bits .and .u32 a bb) (bits .and .u32 a c)) (bits .and .u32 bb c)) % 4294967296 = o2 at *
              clear hO hT
              go_wp2_with (first | (refine wpList_store_row rfl 77 _ _ rfl gV (irow .u32 [(o1 + o2) % 4294967296, a, bb, c, (d + o1) % 4294967296, e, f, g]) rfl rfl 77 _ rv (info23 _ rfl) (fit8 _ _ rfl rfl) (irow_one _ _) ?_) | fail)
              refine ⟨⟨k + 1, by omega, by go_num, (setRow_other w6 gV (w.heap.size) (irow .u32 [(o1 + o2) % 4294967296, a, bb, c, (d + o1) % 4294967296, e, f, g]) (by omega)).trans r0, (setRow_other w6 gV (w.heap.size + 1 + 1) (irow .u32 [(o1 + o2) % 4294967296, a, bb, c, (d + o1) % 4294967296, e, f, g]) (by omega)).trans r2, (setRow_other w6 gV gK (irow .u32 [(o1 + o2) % 4294967296, a, bb, c, (d + o1) % 4294967296, e, f, g]) (by omega)).trans rk, (setRow_other w6 gV (gK + 1) (irow .u32 [(o1 + o2) % 4294967296, a, bb, c, (d + o1) % 4294967296, e, f, g]) (by omega)).trans rw, by rw [hn.out]; exact setRow_heap w6 gV _ (irow .u32 [(o1 + o2) % 4294967296, a, bb, c, (d + o1) % 4294967296, e, f, g]) _ _ rv, below_setRow hw (show w.heap.size ≤ gV by omega) (irow .u32 [(o1 + o2) % 4294967296, a, bb, c, (d + o1) % 4294967296, e, f, g])⟩, ?_⟩
              simp [intOf]; omega
            · obtain rfl : k = 64 := by omega
              have hd : decide ((64 : Int) < 64) = false := by decide
              have hfin : blk h b = sums h (rs h (wds b) 64).list 8 := rfl
              have he := list_len (rs h (wds b) 64)
              generalize (rs h (wds b) 64).list = e at *
              rw [← sums_zero h e hl] at r0
              go_wp2
              go_loopw [13] (fun i wr => ∃ k : Nat, k ≤ 8 ∧ i = .int .i64 k ∧ wr.heap[w.heap.size]? = some (.cells (irow .u32 (sums h e k)) 77 (0, 0)) ∧ wr.heap[w.heap.size + 1 + 1]? = some (.cells (irow .u32 (zr 8)) 77 (0, 0)) ∧ wr.heap[gV]? = some (.cells (irow .u32 e) 77 (0, 0)) ∧ Below w.heap.size w wr) (fun i _ => 8 - (intOf i).toNat)
              case atStart => exact ⟨0, by omega, rfl, r0, r2, rv, hw⟩
              case round =>
                clear r0 r2 rk rw rv hw hd
                obtain ⟨k, hk, rfl, r0, r2, rg, hw⟩ := hrel
                by_cases hlt : k < 8
                · have hd : decide ((k : Int) < 8) = true := by simp; omega
                  have dh := irow_cell r0 (j := k) (by rw [sums_len]; exact hlt)
                  have de := irow_cell rg (j := k) (by rw [he]; exact hlt)
                  rw [sums_get _ _ _ hlt] at dh
                  have hset := sums_set h e k hlt
                  have hpl := sums_len h e k
                  generalize h.getD k 0 = x at *
                  generalize e.getD k 0 = y at *
                  replace hset := hide hset
                  go_wp2
                  have k0 : ∀ p : Regrown, (grow (redrawn wr p.d) p.os).cell? ⟨w.heap.size, k, none⟩ = some (.int .u32 x) := fun p => cell_regrown (dh) p.d p.os
                  have k1 : ∀ p : Regrown, (grow (redrawn wr p.d) p.os).cell? ⟨gV, k, none⟩ = some (.int .u32 y) := fun p => cell_regrown (de) p.d p.os
                  refine wp_region_tail (C := fun w' => ∃ p : Regrown, w' = grow (redrawn wr p.d) p.os) 9 _ rfl rfl rfl (by kernel_rfl) (by kernel_rfl) (by kernel_rfl) (by kernel_rfl) ⟨⟨wr.drawn + 1, #[]⟩, by rw [grow_empty]; rfl⟩ ?_
                  dsimp only [List.set, idle]
                  go_big_quiet_step (fail)
                  go_big_quiet_step (fail)
                  go_big_quiet_step (fail)
                  go_big_quiet_step (fail)
                  go_big_quiet_step (fail)
                  go_big_quiet_step (fail)
                  go_big_quiet_step (fail)
                  go_big_quiet_step (fail)
                  go_big_quiet_step (fail)
                  refine wpQuiet_idle rfl rfl rfl ?_
                  rintro _ ⟨p, rfl⟩
                  have hb := below_regrown wr p.d p.os
                  generalize grow (redrawn wr p.d) p.os = w3 at *
                  clear k0 k1
                  replace r0 := keep hb r0
                  replace r2 := keep hb r2
                  replace rg := keep hb rg
                  replace hw := Below.after hw hb
                  clear hb

                  have cz := irow_cell r0 (j := k) (by omega)
                  have hf := row_frozen r0 k
                  clear dh de
                  go_wp2
                  refine ⟨⟨k + 1, by omega, by go_num, by rw [← hset.out]; exact irow_set r0 k _, heap_other r2 (by omega), heap_other rg (by omega), hw.setCell (show w.heap.size ≤ w.heap.size by omega) _⟩, ?_⟩
                  simp [intOf]; omega
                · obtain rfl : k = 8 := by omega
                  have hd : decide ((8 : Int) < 8) = false := by decide
                  have hq := sums_len h e 8
                  rw [← hfin] at r0 hq
                  go_wp2_with (first | (refine wpList_load_want rfl 77 _ rfl (w.heap.size) rfl 77 (irow .u32 (blk h b)) (0, 0) _ r0 Tryd.underlying77 rfl (info23 _ hq) ?_) | (refine wpList_store_row rfl 77 _ _ rfl (w.heap.size + 1 + 1) (irow .u32 (blk h b)) rfl rfl 77 _ r2 (info23 _ hq) (fit8 _ _ (zr_len 8) hq) (irow_one _ _) ?_) | fail)
                  replace r2 := setRow_heap wr (w.heap.size + 1 + 1) _ (irow .u32 (blk h b)) _ _ r2
                  replace hw := below_setRow hw (show w.heap.size ≤ w.heap.size + 1 + 1 by omega) (irow .u32 (blk h b))
                  generalize wr.setRow (w.heap.size + 1 + 1) (irow .u32 (blk h b)) = w9 at *
                  exact bodyPost_ret (v := .agg (irow .u32 (blk h b))) (results_cell_row Tryd.results43 _ _ (w.heap.size + 1 + 1) _ _ _ _ rfl r2 Tryd.underlying77 rfl (info23 _ hq)) rfl ⟨rfl, hw⟩

end Go.Proofs.YtilgicikcjcdjaaDoor

