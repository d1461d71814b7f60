import Derived.Test.YtlbcdjflcghkeaaDoorProg
import Derived.WalkKit
import Derived.WalkSpells
import Derived.WalkLawsBesides
import Derived.Lib.QuietBelow
import Derived.BigQuiet
import Derived.Test.YtlbcdjflcghkeaaDoorKa
import Derived.Test.YtlbcdjflcghkeaaDoorSgh
namespace Go.Proofs.YtlbcdjflcghkeaaDoor
set_option maxRecDepth 100000
open Go Go.RowKit Go.Sort
attribute [local go_sem] setCell_drewN alloc_drewN

/-- Four bytes as a word. -/
def w4 (a b c d : Int) : Int := bits .or .u32 (bits .or .u32 (bits .or .u32 (a * 16777216) (b * 65536)) (c * 256)) d
def wrd (b : List Int) (t : Nat) : Int := w4 (b.getD (4 * t) 0) (b.getD (4 * t + 1) 0) (b.getD (4 * t + 2) 0) (b.getD (4 * t + 3) 0)
/-- The words of a block. -/
def wds (b : List Int) (t : Nat) : Int := if t < 16 then wrd b t else (lo1 (wds b (t - 2)) + wds b (t - 7) + lo0 (wds b (t - 15)) + wds b (t - 16)) % 4294967296
termination_by t
theorem wds_lo (b : List Int) {t : Nat} (h : t < 16) : wds b t = wrd b t := by rw [wds, if_pos h]
theorem wds_hi (b : List Int) {t : Nat} (h : ¬ t < 16) : wds b t = (lo1 (wds b (t - 2)) + wds b (t - 7) + lo0 (wds b (t - 15)) + wds b (t - 16)) % 4294967296 := by rw [wds, if_neg h]
/-- The first t of sixty-four, then zeros. -/
def prt (W : Nat → Int) (t : Nat) : List Int := (List.range 64).map fun j => if j < t then W j else 0
theorem prt_len (W : Nat → Int) (t : Nat) : (prt W t).length = 64 := by simp [prt]
theorem prt_get (W : Nat → Int) (t : Nat) {j : Nat} (h : j < t) (h2 : j < 64) : (prt W t).getD j 0 = W j := by
  simp [prt, List.getD_eq_getElem?_getD, h2, h]
theorem prt_set (W : Nat → Int) (t : Nat) (h : t < 64) : (prt W t).set t (W t) = prt W (t + 1) := by
  apply List.ext_getElem?
  intro j
  rw [List.getElem?_set]
  by_cases e : t = j
  · subst e
    rw [if_pos rfl, if_pos (by rw [prt_len]; exact h)]
    simp [prt, h]
  · rw [if_neg e]
    simp only [prt, List.getElem?_map]
    by_cases hj : j < 64
    · simp only [List.getElem?_range hj, Option.map_some]
      by_cases h1 : j < t
      · rw [if_pos h1, if_pos (by omega)]
      · rw [if_neg h1, if_neg (by omega)]
    · rw [List.getElem?_eq_none (by simp; omega)]; rfl
theorem prt_zero (W : Nat → Int) : prt W 0 = zr 64 := rfl
set_option maxHeartbeats 1000000 in
theorem a_word (g off cap : Nat) (z0 z1 z2 z3 : Int) (W : World) (b0 : 0 ≤ z0 ∧ z0 < 256) (b1 : 0 ≤ z1 ∧ z1 < 256) (b2 : 0 ≤ z2 ∧ z2 < 256) (b3 : 0 ≤ z3 ∧ z3 < 256) (c0 : W.cell? ⟨g, off + 0, none⟩ = some (.int .u8 z0)) (c1 : W.cell? ⟨g, off + 1, none⟩ = some (.int .u8 z1)) (c2 : W.cell? ⟨g, off + 2, none⟩ = some (.int .u8 z2)) (c3 : W.cell? ⟨g, off + 3, none⟩ = some (.int .u8 z3)) : Calls Tryd.prog 88 #[.slice (some ⟨g, off, none⟩) 4 cap] W fun e w' => e = .returned (.int .u32 (w4 z0 z1 z2 z3)) ∧ Below W.heap.size W w' := by
  rw [Nat.add_zero] at c0
  have hw : Below W.heap.size W W := Below.refl _ _
  go_enter Tryd.func88, Tryd.ntmps88
  go_wp2
  have k0 : ∀ p : Regrown, (grow (redrawn W p.d) p.os).cell? ⟨g, off, none⟩ = some (.int .u8 z0) := fun p => cell_regrown (c0) p.d p.os
  have k1 : ∀ p : Regrown, (grow (redrawn W p.d) p.os).cell? ⟨g, off + 1, none⟩ = some (.int .u8 z1) := fun p => cell_regrown (c1) p.d p.os
  have k2 : ∀ p : Regrown, (grow (redrawn W p.d) p.os).cell? ⟨g, off + 2, none⟩ = some (.int .u8 z2) := fun p => cell_regrown (c2) p.d p.os
  have k3 : ∀ p : Regrown, (grow (redrawn W p.d) p.os).cell? ⟨g, off + 3, none⟩ = some (.int .u8 z3) := fun p => cell_regrown (c3) p.d p.os
  refine wp_region_quiet_below (by kernel_rfl) (by kernel_rfl) ?_
  go_big_quiet_step (fail)
  go_big_quiet_step (fail)
  go_big_quiet_step (fail)
  go_big_quiet_step (fail)
  go_big_quiet_step (fail)
  go_big_quiet_step (fail)
  go_big_quiet_step (fail)
  go_big_quiet_step (fail)
  go_big_quiet_step (fail)
  go_big_quiet_step (fail)
  go_big_quiet_step (fail)
  go_big_quiet_step (fail)
  go_big_quiet_step (fail)
  go_big_quiet_step (fail)
  go_big_quiet_step (fail)
  go_big_quiet_step (fail)
  go_big_quiet_step (fail)
  go_big_quiet_step (fail)
  go_big_quiet_step (fail)
  go_big_quiet_step (fail)
  go_big_quiet_step (fail)
  go_big_quiet_step (fail)
  go_big_quiet_step (fail)
  refine wpQuiet_nil ?_
  rintro _ ⟨p, rfl⟩
  have hb := below_regrown W p.d p.os
  generalize grow (redrawn W p.d) p.os = w1 at *
  clear k0 k1 k2 k3
  replace hw := Below.after hw hb
  clear hb

  go_wp2
  go_ret
  exact ⟨rfl, hw⟩
theorem bound_at {l : List Int} (hz : ∀ z ∈ l, 0 ≤ z ∧ z < 256) (j : Nat) (hj : j < l.length) : 0 ≤ l.getD j 0 ∧ l.getD j 0 < 256 := by
  apply hz
  rw [List.getD_eq_getElem?_getD, List.getElem?_eq_getElem hj]
  exact List.getElem_mem _
theorem slice4 (g k : Nat) (hk : k < 16) (W : World) : (Instr.sliceAt 113 (.pointer (some ⟨g, 0, none⟩)) (some (.int .i64 (4 * (k : Int)))) (some (.int .i64 (4 * (k : Int) + 4))) (some (.int .i64 (4 * (k : Int) + 4)))).run Tryd.prog W = .ok (.slice (some ⟨g, 4 * k, none⟩) 4 4) W := by
  have ht : Tryd.prog.underlying 113 = some (.array (Tryd.prog.arrayLen 113) (Tryd.prog.elem 113)) := by kernel_rfl
  have hn : Tryd.prog.arrayLen 113 = 64 := by kernel_rfl
  have hs : (sizeOf (Tryd.prog.elem 113)).run Tryd.prog W = .ok 1 W := by kernel_rfl
  rw [run_sliceAt_array_lhm W _ _ ht .i64 .i64 .i64 _ _ _ (by omega) (by omega) (by omega) (by rw [hn]; omega), hs]
  show Result.ok (slicedAt _ _ _ _ 1) W = _
  have e1 : (4 * (k : Int)).toNat = 4 * k := by omega
  have e2 : (4 * (k : Int) + 4).toNat = 4 * k + 4 := by omega
  rw [e1, e2, slicedAt, if_neg (by omega), addr_add]
  simp
theorem info57 (W : Nat → Int) (t : Nat) : (Tryd.prog.info? 126).map (·.size) = some (irow .u32 (prt W t)).size := by
  rw [irow_size, prt_len]; kernel_rfl
theorem fit57 (W V : Nat → Int) (t u : Nat) : (irow .u32 (prt W t)).size = (irow .u32 (prt V u)).size := by
  rw [irow_size, irow_size, prt_len, prt_len]
set_option maxRecDepth 100000 in
set_option maxHeartbeats 4000000 in
theorem a_spread (l : List Int) (hl : l.length = 64) (hz : ∀ z ∈ l, 0 ≤ z ∧ z < 256) : Gives 78 #[.agg (irow .u8 l)] (.agg (irow .u32 (prt (wds l) 64))) := by
  intro w
  have R0 := hp3_0 w (.cells (irow .u8 l) 113) (.cells (irow .u32 (zr 64)) 126) (.cells (irow .u32 (zr 64)) 126)
  have R1 := hp3_1 w (.cells (irow .u8 l) 113) (.cells (irow .u32 (zr 64)) 126) (.cells (irow .u32 (zr 64)) 126)
  have R2 := hp3_2 w (.cells (irow .u8 l) 113) (.cells (irow .u32 (zr 64)) 126) (.cells (irow .u32 (zr 64)) 126)
  have HW : Below w.heap.size w (((w.alloc (.cells (irow .u8 l) 113)).alloc (.cells (irow .u32 (zr 64)) 126)).alloc (.cells (irow .u32 (zr 64)) 126)) := ((((Below.refl _ _).alloc (Nat.le_refl _) _).alloc (by simp) _).alloc (by simp; omega) _)

  go_enter Tryd.func78, Tryd.ntmps78
  go_wp2_with (first | (refine wpList_box rfl 113 _ rfl _ rfl (b24 _) ?_) | (refine wpList_alloc rfl 126 rfl (irow .u32 (zr 64)) z57 ?_) | fail)
  generalize (((w.alloc (.cells (irow .u8 l) 113)).alloc (.cells (irow .u32 (zr 64)) 126)).alloc (.cells (irow .u32 (zr 64)) 126)) = w0 at *
  rw [← prt_zero (wds l)] at R1 R2
  go_loopw [10] (fun i wr => ∃ k : Nat, k ≤ 16 ∧ i = .int .i64 k ∧ wr.heap[w.heap.size]? = some (.cells (irow .u8 l) 113 (0, 0)) ∧ wr.heap[w.heap.size + 1]? = some (.cells (irow .u32 (prt (wds l) 0)) 126 (0, 0)) ∧ wr.heap[w.heap.size + 1 + 1]? = some (.cells (irow .u32 (prt (wds l) k)) 126 (0, 0)) ∧ Below w.heap.size w wr) (fun i _ => 16 - (intOf i).toNat)
  case atStart => exact ⟨0, by omega, rfl, R0, R1, R2, HW⟩
  case round =>
    clear R0 R1 R2 HW
    obtain ⟨k, hk, rfl, r0, r1, r2, hw⟩ := hrel
    by_cases hlt : k < 16
    · have hd : decide ((k : Int) < 16) = true := by simp; omega
      have c0 := irow_cell r0 (j := 4 * k + 0) (by omega)
      have c1 := irow_cell r0 (j := 4 * k + 1) (by omega)
      have c2 := irow_cell r0 (j := 4 * k + 2) (by omega)
      have c3 := irow_cell r0 (j := 4 * k + 3) (by omega)
      have b0 := bound_at hz (4 * k) (by omega)
      have b1 := bound_at hz (4 * k + 1) (by omega)
      have b2 := bound_at hz (4 * k + 2) (by omega)
      have b3 := bound_at hz (4 * k + 3) (by omega)
      have hsl := slice4 w.heap.size k hlt wr
      have hcall := fun cap => a_word _ (4 * k) cap _ _ _ _ wr b0 b1 b2 b3 c0 c1 c2 c3
      have e : w4 (l.getD (4 * k) 0) (l.getD (4 * k + 1) 0) (l.getD (4 * k + 2) 0) (l.getD (4 * k + 3) 0) = wds l k := by rw [wds_lo _ hlt]; rfl
      rw [e] at hcall
      clear e b0 b1 b2 b3 c0 c1 c2 c3
      have hset := prt_set (wds l) k (by omega)
      have hpl := prt_len (wds l) k
      generalize wds l k = z at *
      go_wp2_with (fail)
      refine (hcall _).mono ?_
      rintro e w1 ⟨rfl, hb⟩
      replace r0 := keep hb r0
      replace r1 := keep hb r1
      replace r2 := keep hb r2
      replace hw := Below.after hw hb
      have cz := irow_cell r2 (j := k) (by omega)
      have hf := row_frozen r2 k
      clear hcall hb
      go_wp2
      go_roundw
      case rel => exact ⟨k + 1, by omega, by go_num, heap_other r0 (by omega), heap_other r1 (by omega), by rw [← hset]; exact irow_set r2 k z, hw.setCell (show w.heap.size ≤ w.heap.size + 1 + 1 by omega) _⟩
      case measure => simp [intOf]; omega
    · obtain rfl : k = 16 := by omega
      have hd : decide ((16 : Int) < 16) = false := by decide
      go_wp2
      go_loopw [5] (fun i wr => ∃ k : Nat, 16 ≤ k ∧ k ≤ 64 ∧ i = .int .i64 k ∧ wr.heap[w.heap.size]? = some (.cells (irow .u8 l) 113 (0, 0)) ∧ wr.heap[w.heap.size + 1]? = some (.cells (irow .u32 (prt (wds l) 0)) 126 (0, 0)) ∧ wr.heap[w.heap.size + 1 + 1]? = some (.cells (irow .u32 (prt (wds l) k)) 126 (0, 0)) ∧ Below w.heap.size w wr) (fun i _ => 64 - (intOf i).toNat)
      case atStart => exact ⟨16, by omega, by omega, rfl, r0, r1, r2, hw⟩
      case round =>
        clear r0 r1 r2 hw hd
        obtain ⟨k, hk0, hk, rfl, r0, r1, r2, hw⟩ := hrel
        by_cases hlt : k < 64
        · have hd : decide ((k : Int) < 64) = true := by simp; omega
          have d15 := irow_cell r2 (j := k - 15) (by rw [prt_len]; omega)
          have d2 := irow_cell r2 (j := k - 2) (by rw [prt_len]; omega)
          rw [prt_get _ _ (by omega) (by omega)] at d15 d2
          have c7 := a_right (wds l (k - 15)) 7 (by decide) (by decide)
          have c18 := a_right (wds l (k - 15)) 18 (by decide) (by decide)
          have c17 := a_right (wds l (k - 2)) 17 (by decide) (by decide)
          have c19 := a_right (wds l (k - 2)) 19 (by decide) (by decide)
          have hset := prt_set (wds l) k (by omega)
          have hpl := prt_len (wds l) k
          have e := wds_hi l (t := k) (by omega)
          have e7 := prt_get (wds l) k (j := k - 7) (by omega) (by omega)
          have e16 := prt_get (wds l) k (j := k - 16) (by omega) (by omega)
          unfold lo0 lo1 at e
          generalize rot (wds l (k - 15)) 7 = q7 at *
          generalize rot (wds l (k - 15)) 18 = q18 at *
          generalize rot (wds l (k - 2)) 17 = q17 at *
          generalize rot (wds l (k - 2)) 19 = q19 at *
          generalize wds l (k - 15) = x15 at *
          generalize wds l (k - 2) = x2 at *
          generalize wds l (k - 7) = x7 at *
          generalize wds l (k - 16) = x16 at *
          generalize wds l k = z at *
          replace e := hide e
          replace hset := hide hset
          go_wp2
          have k15 : ∀ p : Regrown, (grow (redrawn wr p.d) p.os).cell? ⟨w.heap.size + 1 + 1, k - 15, none⟩ = some (.int .u32 x15) := fun p => cell_regrown (d15) p.d p.os
          have k2 : ∀ p : Regrown, (grow (redrawn wr p.d) p.os).cell? ⟨w.heap.size + 1 + 1, k - 2, none⟩ = some (.int .u32 x2) := fun p => cell_regrown (d2) p.d p.os
          refine wp_region_quiet_below (by kernel_rfl) (by kernel_rfl) ?_
          go_big_quiet_step (fail)
          go_big_quiet_step (fail)
          go_big_quiet_step (fail)
          go_big_quiet_step (fail)
          go_big_quiet_step (fail)
          go_big_quiet_step (fail)
          go_big_quiet_step (fail)
          go_big_quiet_step (fail)
          go_big_quiet_step (fail)
          go_big_quiet_step (fail)
          refine wpQuiet_nil ?_
          rintro _ ⟨p, rfl⟩
          have hb := below_regrown wr p.d p.os
          generalize grow (redrawn wr p.d) p.os = w1 at *
          clear k15 k2
          replace r0 := keep hb r0
          replace r1 := keep hb r1
          replace r2 := keep hb r2
          replace hw := Below.after hw hb
          clear hb

          go_wp2_with (fail)
          refine (c7.at _).mono ?_
          rintro e_ w2 ⟨rfl, hb⟩
          replace r0 := keep hb r0
          replace r1 := keep hb r1
          replace r2 := keep hb r2
          replace hw := Below.after hw hb
          clear hb

          go_wp2_with (fail)
          refine (c18.at _).mono ?_
          rintro e_ w3 ⟨rfl, hb⟩
          replace r0 := keep hb r0
          replace r1 := keep hb r1
          replace r2 := keep hb r2
          replace hw := Below.after hw hb
          clear hb

          go_wp2_with (fail)
          refine (c17.at _).mono ?_
          rintro e_ w4_ ⟨rfl, hb⟩
          replace r0 := keep hb r0
          replace r1 := keep hb r1
          replace r2 := keep hb r2
          replace hw := Below.after hw hb
          clear hb

          go_wp2_with (fail)
          refine (c19.at _).mono ?_
          rintro e_ w5 ⟨rfl, hb⟩
          replace r0 := keep hb r0
          replace r1 := keep hb r1
          replace r2 := keep hb r2
          replace hw := Below.after hw hb
          clear hb

          have d7 := irow_cell r2 (j := k - 7) (by omega)
          have d16 := irow_cell r2 (j := k - 16) (by omega)
          rw [e7] at d7
          rw [e16] at d16
          clear e7 e16
          go_wp2
          have k7 : ∀ p : Regrown, (grow (redrawn w5 p.d) p.os).cell? ⟨w.heap.size + 1 + 1, k - 7, none⟩ = some (.int .u32 x7) := fun p => cell_regrown (d7) p.d p.os
          have k16 : ∀ p : Regrown, (grow (redrawn w5 p.d) p.os).cell? ⟨w.heap.size + 1 + 1, k - 16, none⟩ = some (.int .u32 x16) := fun p => cell_regrown (d16) p.d p.os
          refine wp_region_tail (C := fun w' => ∃ p : Regrown, w' = grow (redrawn w5 p.d) p.os) 15 _ rfl rfl rfl (by kernel_rfl) (by kernel_rfl) (by kernel_rfl) (by kernel_rfl) ⟨⟨w5.drawn + 1, #[]⟩, by rw [grow_empty]; rfl⟩ ?_
          dsimp only [List.set, idle]
          go_big_quiet_step (fail)
          go_big_quiet_step (fail)
          go_big_quiet_step (fail)
          go_big_quiet_step (fail)
          go_big_quiet_step (fail)
          go_big_quiet_step (fail)
          go_big_quiet_step (fail)
          go_big_quiet_step (fail)
          go_big_quiet_step (fail)
          go_big_quiet_step (fail)
          go_big_quiet_step (fail)
          go_big_quiet_step (fail)
          go_big_quiet_step (fail)
          go_big_quiet_step (fail)
          go_big_quiet_step (fail)
          refine wpQuiet_idle rfl rfl rfl ?_
          rintro _ ⟨p, rfl⟩
          have hb := below_regrown w5 p.d p.os
          generalize grow (redrawn w5 p.d) p.os = w6 at *
          clear k7 k16
          replace r0 := keep hb r0
          replace r1 := keep hb r1
          replace r2 := keep hb r2
          replace hw := Below.after hw hb
          clear hb

          have cz := irow_cell r2 (j := k) (by omega)
          have hf := row_frozen r2 k
          go_wp2
          refine ⟨?_, ?measure⟩
          apply Exists.intro
          apply Exists.intro
          repeat apply Exists.intro
          refine ⟨?rel, rfl⟩
          case rel => exact ⟨k + 1, by omega, by omega, by go_num, heap_other r0 (by omega), heap_other r1 (by omega), by rw [← hset.out, e.out]; exact irow_set r2 k _, hw.setCell (show w.heap.size ≤ w.heap.size + 1 + 1 by omega) _⟩
          case measure => simp [intOf]; omega
        · obtain rfl : k = 64 := by omega
          have hd : decide ((64 : Int) < 64) = false := by decide
          go_wp2_with (first | (refine wpList_load_want rfl 126 _ rfl (w.heap.size + 1 + 1) rfl 126 (irow .u32 (prt (wds l) 64)) (0, 0) _ r2 Tryd.underlying126 rfl (info57 _ _) ?_) | (refine wpList_store_row rfl 126 _ _ rfl (w.heap.size + 1) (irow .u32 (prt (wds l) 64)) rfl rfl 126 _ r1 (info57 _ _) (fit57 _ _ _ _) (irow_one _ _) ?_) | fail)
          replace r1 := setRow_heap wr (w.heap.size + 1) _ (irow .u32 (prt (wds l) 64)) _ _ r1
          replace hw := below_setRow hw (show w.heap.size ≤ w.heap.size + 1 by omega) (irow .u32 (prt (wds l) 64))
          generalize wr.setRow (w.heap.size + 1) (irow .u32 (prt (wds l) 64)) = w9 at *
          exact bodyPost_ret (v := .agg (irow .u32 (prt (wds l) 64))) (results_cell_row Tryd.results78 _ _ (w.heap.size + 1) _ _ _ _ rfl r1 Tryd.underlying126 rfl (info57 _ _)) rfl ⟨rfl, hw⟩

end Go.Proofs.YtlbcdjflcghkeaaDoor


namespace Go.Proofs.YtlbcdjflcghkeaaDoor
set_option maxRecDepth 100000
open Go Go.RowKit Go.Sort
attribute [local go_sem] setCell_drewN alloc_drewN

/-- The constants; the start. -/
def kl : List Int := [1116352408, 1899447441, 3049323471, 3921009573, 961987163, 1508970993, 2453635748, 2870763221, 3624381080, 310598401, 607225278, 1426881987, 1925078388, 2162078206, 2614888103, 3248222580, 3835390401, 4022224774, 264347078, 604807628, 770255983, 1249150122, 1555081692, 1996064986, 2554220882, 2821834349, 2952996808, 3210313671, 3336571891, 3584528711, 113926993, 338241895, 666307205, 773529912, 1294757372, 1396182291, 1695183700, 1986661051, 2177026350, 2456956037, 2730485921, 2820302411, 3259730800, 3345764771, 3516065817, 3600352804, 4094571909, 275423344, 430227734, 506948616, 659060556, 883997877, 958139571, 1322822218, 1537002063, 1747873779, 1955562222, 2024104815, 2227730452, 2361852424, 2428436474, 2756734187, 3204031479, 3329325298]
def sl : List Int := [1779033703, 3144134277, 1013904242, 2773480762, 1359893119, 2600822924, 528734635, 1541459225]
/-- What the package variables hold. -/
def Kon (W : World) : Prop := ∃ t fr, W.heap[2]? = some (.cells (irow .u32 kl) t fr)
def Sta (W : World) : Prop := ∃ t fr, W.heap[1]? = some (.cells (irow .u32 sl) t fr)
theorem Kon.sz {W : World} (h : Kon W) : 2 < W.heap.size := by obtain ⟨_, _, h⟩ := h; exact (Array.getElem?_eq_some_iff.1 h).1
theorem Kon.belowN {W W' : World} {n : Nat} (h : Kon W) (hn : 2 < n) (hb : Below n W W') : Kon W' := by obtain ⟨t, fr, h⟩ := h; exact ⟨t, fr, (hb.block 2 hn).trans h⟩
theorem Kon.below {W W' : World} (h : Kon W) (hb : Below W.heap.size W W') : Kon W' := h.belowN h.sz hb
theorem Sta.sz {W : World} (h : Sta W) : 1 < W.heap.size := by obtain ⟨_, _, h⟩ := h; exact (Array.getElem?_eq_some_iff.1 h).1
theorem Sta.belowN {W W' : World} {n : Nat} (h : Sta W) (hn : 1 < n) (hb : Below n W W') : Sta W' := by obtain ⟨t, fr, h⟩ := h; exact ⟨t, fr, (hb.block 1 hn).trans h⟩
theorem Sta.below {W W' : World} (h : Sta W) (hb : Below W.heap.size W W') : Sta W' := h.belowN h.sz hb
theorem Kon.cell {W : World} (h : Kon W) (j : Nat) (hj : j < 64) : W.cell? ⟨2, j, none⟩ = some (.int .u32 (kl.getD j 0)) := by
  obtain ⟨t, fr, h⟩ := h
  rw [cell_of_row _ _ _ _ _ _ h]
  exact irow_get _ _ _ hj
/-- A call where the constants lie. -/
def Gives1 (f : FuncId) (args : Array Value) (v : Value) : Prop := ∀ W, Kon W → Calls Tryd.prog f args W fun e w' => e = .returned v ∧ Below W.heap.size W w'
theorem Gives1.at {f : FuncId} {args : Array Value} {v : Value} (h : Gives1 f args v) {W : World} (hW : Kon W) : Calls Tryd.prog f args W fun e w' => e = .returned v ∧ Below W.heap.size W w' := h W hW
theorem Gives1.re {f : FuncId} {args : Array Value} {v : Value} (h : Gives1 f args v) {w : World} {d : Nat} {os : Array Obj} (hw : Kon w) : Calls Tryd.prog f args (grow (redrawn w d) os) fun e w'' => e = .returned v ∧ ∃ p : Regrown, w'' = grow (redrawn w p.d) p.os := Calls.regrown_of (h _ (hw.below (below_regrown w d os)))

/-- Eight words. -/
structure St8 where
  (a b c d e f g h : Int)
def notx (x : Int) : Int := bits .xor .u32 IntKind.u32.max x
def one1 (k w : Int) (s : St8) : Int := (s.h + up1 s.e + bits .xor .u32 (bits .and .u32 s.e s.f) (bits .and .u32 (notx s.e) s.g) + k + w) % 4294967296
def two2 (s : St8) : Int := (up0 s.a + bits .xor .u32 (bits .xor .u32 (bits .and .u32 s.a s.b) (bits .and .u32 s.a s.c)) (bits .and .u32 s.b s.c)) % 4294967296
def rnd (k w : Int) (s : St8) : St8 := ⟨(one1 k w s + two2 s) % 4294967296, s.a, s.b, s.c, (s.d + one1 k w s) % 4294967296, s.e, s.f, s.g⟩
def st0 (h : List Int) : St8 := ⟨h.getD 0 0, h.getD 1 0, h.getD 2 0, h.getD 3 0, h.getD 4 0, h.getD 5 0, h.getD 6 0, h.getD 7 0⟩
def rs (h : List Int) (W : Nat → Int) : Nat → St8
  | 0 => st0 h
  | t + 1 => rnd (kl.getD t 0) (W t) (rs h W t)
def St8.list (s : St8) : List Int := [s.a, s.b, s.c, s.d, s.e, s.f, s.g, s.h]
set_option maxRecDepth 100000 in
set_option maxHeartbeats 4000000 in
theorem a_mixed (h : List Int) (hl : h.length = 8) (W : Nat → Int) : Gives1 77 #[.agg (irow .u32 h), .agg (irow .u32 (prt W 64))] (.agg (irow .u32 (rs h W 64).list)) := by
  intro w hK
  have R0 := hp3_0 w (.cells (irow .u32 h) 112) (.cells (irow .u32 (prt W 64)) 126) (.cells (irow .u32 (zr 8)) 112)
  have R1 := hp3_1 w (.cells (irow .u32 h) 112) (.cells (irow .u32 (prt W 64)) 126) (.cells (irow .u32 (zr 8)) 112)
  have R2 := hp3_2 w (.cells (irow .u32 h) 112) (.cells (irow .u32 (prt W 64)) 126) (.cells (irow .u32 (zr 8)) 112)
  have HW : Below w.heap.size w (((w.alloc (.cells (irow .u32 h) 112)).alloc (.cells (irow .u32 (prt W 64)) 126)).alloc (.cells (irow .u32 (zr 8)) 112)) := ((((Below.refl _ _).alloc (Nat.le_refl _) _).alloc (by simp) _).alloc (by simp; omega) _)

  have f4 := hK.below HW
  clear hK
  go_enter Tryd.func77, Tryd.ntmps77
  go_wp2_with (first | (refine wpList_box rfl 112 _ rfl _ rfl (b23 _) ?_) | (refine wpList_box rfl 126 _ rfl _ rfl (b57 _) ?_) | (refine wpList_alloc rfl 112 rfl (irow .u32 (zr 8)) z23 ?_) | fail)
  simp only [size_alloc1, Act.put, List.setIfInBounds_toArray, List.set_cons_succ, List.set_cons_zero]
  generalize (((w.alloc (.cells (irow .u32 h) 112)).alloc (.cells (irow .u32 (prt W 64)) 126)).alloc (.cells (irow .u32 (zr 8)) 112)) = w0 at *
  have d0 := irow_cell R0 (j := 0) (by omega)
  have d1 := irow_cell R0 (j := 1) (by omega)
  have d2 := irow_cell R0 (j := 2) (by omega)
  have d3 := irow_cell R0 (j := 3) (by omega)
  have d4 := irow_cell R0 (j := 4) (by omega)
  have d5 := irow_cell R0 (j := 5) (by omega)
  have d6 := irow_cell R0 (j := 6) (by omega)
  have d7 := irow_cell R0 (j := 7) (by omega)
  have hst : rs h W 0 = st0 h := rfl
  unfold st0 at hst
  generalize h.getD 0 0 = z0 at *
  generalize h.getD 1 0 = z1 at *
  generalize h.getD 2 0 = z2 at *
  generalize h.getD 3 0 = z3 at *
  generalize h.getD 4 0 = z4 at *
  generalize h.getD 5 0 = z5 at *
  generalize h.getD 6 0 = z6 at *
  generalize h.getD 7 0 = z7 at *
  replace hst := hide hst
  have k0 : ∀ p : Regrown, (grow (redrawn w0 p.d) p.os).cell? ⟨w.heap.size, 0, none⟩ = some (.int .u32 z0) := fun p => cell_regrown (d0) p.d p.os
  have k1 : ∀ p : Regrown, (grow (redrawn w0 p.d) p.os).cell? ⟨w.heap.size, 1, none⟩ = some (.int .u32 z1) := fun p => cell_regrown (d1) p.d p.os
  have k2 : ∀ p : Regrown, (grow (redrawn w0 p.d) p.os).cell? ⟨w.heap.size, 2, none⟩ = some (.int .u32 z2) := fun p => cell_regrown (d2) p.d p.os
  have k3 : ∀ p : Regrown, (grow (redrawn w0 p.d) p.os).cell? ⟨w.heap.size, 3, none⟩ = some (.int .u32 z3) := fun p => cell_regrown (d3) p.d p.os
  have k4 : ∀ p : Regrown, (grow (redrawn w0 p.d) p.os).cell? ⟨w.heap.size, 4, none⟩ = some (.int .u32 z4) := fun p => cell_regrown (d4) p.d p.os
  have k5 : ∀ p : Regrown, (grow (redrawn w0 p.d) p.os).cell? ⟨w.heap.size, 5, none⟩ = some (.int .u32 z5) := fun p => cell_regrown (d5) p.d p.os
  have k6 : ∀ p : Regrown, (grow (redrawn w0 p.d) p.os).cell? ⟨w.heap.size, 6, none⟩ = some (.int .u32 z6) := fun p => cell_regrown (d6) p.d p.os
  have k7 : ∀ p : Regrown, (grow (redrawn w0 p.d) p.os).cell? ⟨w.heap.size, 7, none⟩ = some (.int .u32 z7) := fun p => cell_regrown (d7) p.d p.os
  refine wp_region_quiet_below (by kernel_rfl) (by kernel_rfl) ?_
  go_big_quiet_step (fail)
  go_big_quiet_step (fail)
  go_big_quiet_step (fail)
  go_big_quiet_step (fail)
  go_big_quiet_step (fail)
  go_big_quiet_step (fail)
  go_big_quiet_step (fail)
  go_big_quiet_step (fail)
  go_big_quiet_step (fail)
  go_big_quiet_step (fail)
  go_big_quiet_step (fail)
  go_big_quiet_step (fail)
  go_big_quiet_step (fail)
  go_big_quiet_step (fail)
  go_big_quiet_step (fail)
  go_big_quiet_step (fail)
  go_big_quiet_step (fail)
  go_big_quiet_step (fail)
  go_big_quiet_step (fail)
  go_big_quiet_step (fail)
  go_big_quiet_step (fail)
  go_big_quiet_step (fail)
  go_big_quiet_step (fail)
  go_big_quiet_step (fail)
  refine wpQuiet_nil ?_
  rintro _ ⟨p, rfl⟩
  have hb := below_regrown w0 p.d p.os
  generalize grow (redrawn w0 p.d) p.os = w1 at *
  clear k0 k1 k2 k3 k4 k5 k6 k7
  replace R1 := keep hb R1
  replace R2 := keep hb R2
  replace f4 := f4.below hb
  replace HW := Below.after HW hb
  clear hb

  clear d0 d1 d2 d3 d4 d5 d6 d7 R0
  go_wp2
  go_loopw [5, 6, 7, 8, 9, 10, 11, 12, 34] (fun va vb vc vd ve vf vg vh i wr => ∃ k : Nat, k ≤ 64 ∧ i = .int .i64 k ∧ va = .int .u32 (rs h W k).a ∧ vb = .int .u32 (rs h W k).b ∧ vc = .int .u32 (rs h W k).c ∧ vd = .int .u32 (rs h W k).d ∧ ve = .int .u32 (rs h W k).e ∧ vf = .int .u32 (rs h W k).f ∧ vg = .int .u32 (rs h W k).g ∧ vh = .int .u32 (rs h W k).h ∧ wr.heap[w.heap.size + 1]? = some (.cells (irow .u32 (prt W 64)) 126 (0, 0)) ∧ wr.heap[w.heap.size + 1 + 1]? = some (.cells (irow .u32 (zr 8)) 112 (0, 0)) ∧ Kon wr ∧ Below w.heap.size w wr) (fun _ _ _ _ _ _ _ _ i _ => 64 - (intOf i).toNat)
  case atStart => exact ⟨0, by omega, rfl, by rw [hst.out], by rw [hst.out], by rw [hst.out], by rw [hst.out], by rw [hst.out], by rw [hst.out], by rw [hst.out], by rw [hst.out], R1, R2, f4, HW⟩
  case round =>
    clear R1 R2 HW f4 hst
    obtain ⟨k, hk, rfl, rfl, rfl, rfl, rfl, rfl, rfl, rfl, rfl, r1, r2, f4, hw⟩ := hrel
    by_cases hlt : k < 64
    · have hd : decide ((k : Int) < 64) = true := by simp; omega
      have hn : rs h W (k + 1) = rnd (kl.getD k 0) (W k) (rs h W k) := rfl
      generalize rs h W k = sk at *
      obtain ⟨a, b, c, d, e, f, g, x⟩ := sk
      dsimp only at *
      have c6 := a_right e 6 (by decide) (by decide)
      have c11 := a_right e 11 (by decide) (by decide)
      have c25 := a_right e 25 (by decide) (by decide)
      have c2 := a_right a 2 (by decide) (by decide)
      have c13 := a_right a 13 (by decide) (by decide)
      have c22 := a_right a 22 (by decide) (by decide)
      simp only [rnd, one1, two2, up0, up1, notx] at hn
      generalize rot e 6 = q6 at *
      generalize rot e 11 = q11 at *
      generalize rot e 25 = q25 at *
      generalize rot a 2 = q2 at *
      generalize rot a 13 = q13 at *
      generalize rot a 22 = q22 at *
      replace hn := hide hn
      go_wp2_with (fail)
      refine (c6.at _).mono ?_
      rintro e_ w2 ⟨rfl, hb⟩
      replace r1 := keep hb r1
      replace r2 := keep hb r2
      replace f4 := f4.below hb
      replace hw := Below.after hw hb
      clear hb

      go_wp2_with (fail)
      refine (c11.at _).mono ?_
      rintro e_ w3 ⟨rfl, hb⟩
      replace r1 := keep hb r1
      replace r2 := keep hb r2
      replace f4 := f4.below hb
      replace hw := Below.after hw hb
      clear hb

      go_wp2_with (fail)
      refine (c25.at _).mono ?_
      rintro e_ w4_ ⟨rfl, hb⟩
      replace r1 := keep hb r1
      replace r2 := keep hb r2
      replace f4 := f4.below hb
      replace hw := Below.after hw hb
      clear hb

      have dk := f4.cell k hlt
      have dw := irow_cell r1 (j := k) (by rw [prt_len]; omega)
      rw [prt_get _ _ hlt hlt] at dw
      generalize kl.getD k 0 = K at *
      generalize W k = wk at *
      go_wp2
      have k0 : ∀ p : Regrown, (grow (redrawn w4_ p.d) p.os).cell? ⟨2, k, none⟩ = some (.int .u32 K) := fun p => cell_regrown (dk) p.d p.os
      have k1 : ∀ p : Regrown, (grow (redrawn w4_ p.d) p.os).cell? ⟨w.heap.size + 1, k, none⟩ = some (.int .u32 wk) := fun p => cell_regrown (dw) p.d p.os
      refine wp_region_quiet_below (by kernel_rfl) (by kernel_rfl) ?_
      go_big_quiet_step (fail)
      go_big_quiet_step (fail)
      go_big_quiet_step (fail)
      go_big_quiet_step (fail)
      go_big_quiet_step (fail)
      go_big_quiet_step (fail)
      go_big_quiet_step (fail)
      go_big_quiet_step (fail)
      go_big_quiet_step (fail)
      go_big_quiet_step (fail)
      go_big_quiet_step (fail)
      go_big_quiet_step (fail)
      go_big_quiet_step (fail)
      go_big_quiet_step (fail)
      go_big_quiet_step (fail)
      go_big_quiet_step (fail)
      go_big_quiet_step (fail)
      go_big_quiet_step (fail)
      go_big_quiet_step (fail)
      go_big_quiet_step (fail)
      go_big_quiet_step (fail)
      refine wpQuiet_nil ?_
      rintro _ ⟨p, rfl⟩
      have hb := below_regrown w4_ p.d p.os
      generalize grow (redrawn w4_ p.d) p.os = w5 at *
      clear k0 k1
      replace r1 := keep hb r1
      replace r2 := keep hb r2
      replace f4 := f4.below hb
      replace hw := Below.after hw hb
      clear hb

      clear dk dw
      go_wp2_with (fail)
      refine (c2.at _).mono ?_
      rintro e_ w6 ⟨rfl, hb⟩
      replace r1 := keep hb r1
      replace r2 := keep hb r2
      replace f4 := f4.below hb
      replace hw := Below.after hw hb
      clear hb

      go_wp2_with (fail)
      refine (c13.at _).mono ?_
      rintro e_ w7 ⟨rfl, hb⟩
      replace r1 := keep hb r1
      replace r2 := keep hb r2
      replace f4 := f4.below hb
      replace hw := Below.after hw hb
      clear hb

      go_wp2_with (fail)
      refine (c22.at _).mono ?_
      rintro e_ w8 ⟨rfl, hb⟩
      replace r1 := keep hb r1
      replace r2 := keep hb r2
      replace f4 := f4.below hb
      replace hw := Below.after hw hb
      clear hb

      go_wp2
      refine ⟨?rel, ?measure⟩
      case rel =>
        refine ⟨k + 1, by omega, by go_num, ?_, ?_, ?_, ?_, ?_, ?_, ?_, ?_, r1, r2, f4, hw⟩
        all_goals (rw [hn.out])
      case measure => simp [intOf]; omega
    · obtain rfl : k = 64 := by omega
      have hd : decide ((64 : Int) < 64) = false := by decide
      have hfin : irow .u32 (rs h W 64).list = (irow .u32 [(rs h W 64).a, (rs h W 64).b, (rs h W 64).c, (rs h W 64).d, (rs h W 64).e, (rs h W 64).f, (rs h W 64).g, (rs h W 64).h]) := rfl
      have hi8 : (Tryd.prog.info? 112).map (·.size) = some ((irow .u32 [(rs h W 64).a, (rs h W 64).b, (rs h W 64).c, (rs h W 64).d, (rs h W 64).e, (rs h W 64).f, (rs h W 64).g, (rs h W 64).h]) : Array Value).size := by kernel_rfl
      generalize (rs h W 64).a = za at *
      generalize (rs h W 64).b = zb at *
      generalize (rs h W 64).c = zc at *
      generalize (rs h W 64).d = zd at *
      generalize (rs h W 64).e = ze at *
      generalize (rs h W 64).f = zf at *
      generalize (rs h W 64).g = zg at *
      generalize (rs h W 64).h = zh at *
      replace hfin := hide hfin
      go_wp2_with (first | (refine wpList_store_row rfl 112 _ _ rfl (w.heap.size + 1 + 1) (irow .u32 [za, zb, zc, zd, ze, zf, zg, zh]) rfl rfl 112 _ r2 hi8 (by rw [irow_size, irow_size]; rfl) (irow_one _ _) ?_) | fail)
      replace r2 := setRow_heap wr (w.heap.size + 1 + 1) _ (irow .u32 [za, zb, zc, zd, ze, zf, zg, zh]) _ _ r2
      replace hw := below_setRow hw (show w.heap.size ≤ w.heap.size + 1 + 1 by omega) (irow .u32 [za, zb, zc, zd, ze, zf, zg, zh])
      generalize wr.setRow (w.heap.size + 1 + 1) (irow .u32 [za, zb, zc, zd, ze, zf, zg, zh]) = w9 at *
      exact bodyPost_ret (v := .agg (irow .u32 [za, zb, zc, zd, ze, zf, zg, zh])) (results_cell_row Tryd.results77 _ _ (w.heap.size + 1 + 1) _ _ _ _ rfl r2 Tryd.underlying112 rfl hi8) rfl ⟨by rw [hfin.out], hw⟩

end Go.Proofs.YtlbcdjflcghkeaaDoor

