import Derived.Test.YtelildhjkknaiaaProg
import Derived.WalkKit
import Derived.WalkSpells
import Derived.WalkLawsBesides
import Derived.Lib.QuietBelow
import Derived.BigQuiet
import Derived.Test.YtelildhjkknaiaaS0
namespace Go.Proofs.Ytelildhjkknaiaa.Wi
open Go Go.RowKit Go.Sort
attribute [local go_sem] setCell_drewN alloc_drewN

/-- Bytes as a word, the highest first. -/
def hor (l : List Int) (o : Nat) : Nat → Int
  | 0 => 0
  | j + 1 => hor l o j * 256 + l.getD (o + j) 0
theorem getD_bd {bs : List Int} (hz : ∀ z ∈ bs, 0 ≤ z ∧ z < 256) (j : Nat) : 0 ≤ bs.getD j 0 ∧ bs.getD j 0 < 256 := by
  rw [List.getD_eq_getElem?_getD]
  by_cases h : j < bs.length
  · rw [List.getElem?_eq_getElem h]; exact hz _ (List.getElem_mem _)
  · rw [List.getElem?_eq_none (by omega)]; exact ⟨by decide, by decide⟩
theorem hor_bd {l : List Int} (hz : ∀ z ∈ l, 0 ≤ z ∧ z < 256) (o : Nat) : ∀ j, 0 ≤ hor l o j ∧ hor l o j < 256 ^ j
  | 0 => by rw [hor]; decide
  | j + 1 => by
    have h := hor_bd hz o j
    have hb := getD_bd hz (o + j)
    rw [hor, Int.pow_succ]
    omega
theorem hor_small {l : List Int} (hz : ∀ z ∈ l, 0 ≤ z ∧ z < 256) (o j : Nat) (hj : j < 8) : 0 ≤ hor l o j ∧ hor l o j < 72057594037927936 := by
  have h := hor_bd hz o j
  have h2 : (256 : Int) ^ j ≤ 72057594037927936 := by
    have : ∀ j : Nat, j < 8 → (256 : Int) ^ j ≤ 72057594037927936 := by decide
    exact this j hj
  omega
theorem or_byte (a b : Int) (ha : 0 ≤ a ∧ a < 72057594037927936) (hb : 0 ≤ b ∧ b < 256) : bits .or .u64 (a * 256) b = a * 256 + b := by
  obtain ⟨a, rfl⟩ := Int.eq_ofNat_of_zero_le ha.1
  obtain ⟨b, rfl⟩ := Int.eq_ofNat_of_zero_le hb.1
  have e : (a : Int) * 256 = ((a * 256 : Nat) : Int) := by omega
  rw [e, bits_or_u64_nat _ _ (by omega) (by omega)]
  have h := Nat.shiftLeft_add_eq_or_of_lt (i := 8) (b := b) (by omega) a
  rw [Nat.shiftLeft_eq] at h
  rw [show a * 256 ||| b = a * 2 ^ 8 ||| b from rfl, ← h]
  omega
def wrd (b : List Int) (t : Nat) : Int := hor b (8 * t) 8
/-- The words of a block. -/
def wds (b : List Int) (t : Nat) : Int := if t < 16 then wrd b t else IntKind.u64.wrap (IntKind.u64.wrap (IntKind.u64.wrap (lo1 (wds b (t - 2)) + wds b (t - 7)) + lo0 (wds b (t - 15))) + wds b (t - 16))
termination_by t
theorem wds_lo (b : List Int) {t : Nat} (h : t < 16) : wds b t = wrd b t := by rw [wds, if_pos h]
theorem wds_hi (b : List Int) {t : Nat} (h : ¬ t < 16) : wds b t = IntKind.u64.wrap (IntKind.u64.wrap (IntKind.u64.wrap (lo1 (wds b (t - 2)) + wds b (t - 7)) + lo0 (wds b (t - 15))) + wds b (t - 16)) := by rw [wds, if_neg h]
theorem wrap_bd (x : Int) : 0 ≤ IntKind.u64.wrap x ∧ IntKind.u64.wrap x < 18446744073709551616 := by rw [IntKind.wrap_u64]; omega
theorem wds_bd {b : List Int} (hz : ∀ z ∈ b, 0 ≤ z ∧ z < 256) (t : Nat) : 0 ≤ wds b t ∧ wds b t < 18446744073709551616 := by
  by_cases h : t < 16
  · rw [wds_lo b h]
    exact hor_bd hz (8 * t) 8
  · rw [wds_hi b h]; exact wrap_bd _
/-- The first t of 80, then zeros. -/
def prt (W : Nat → Int) (t : Nat) : List Int := (List.range 80).map fun j => if j < t then W j else 0
theorem prt_len (W : Nat → Int) (t : Nat) : (prt W t).length = 80 := by simp [prt]
theorem prt_get (W : Nat → Int) (t : Nat) {j : Nat} (h : j < t) (h2 : j < 80) : (prt W t).getD j 0 = W j := by
  simp [prt, List.getD_eq_getElem?_getD, h2, h]
theorem prt_none (W : Nat → Int) (t : Nat) {j : Nat} (h : ¬ j < t) (h2 : j < 80) : (prt W t).getD j 0 = 0 := by
  simp [prt, List.getD_eq_getElem?_getD, h2, h]
theorem prt_set (W : Nat → Int) (t : Nat) (h : t < 80) : (prt W t).set t (W t) = prt W (t + 1) := by
  apply List.ext_getElem?
  intro j
  rw [List.getElem?_set]
  by_cases e : t = j
  · subst e
    rw [if_pos rfl, if_pos (by rw [prt_len]; exact h)]
    simp [prt, h]
  · rw [if_neg e]
    simp only [prt, List.getElem?_map]
    by_cases hj : j < 80
    · simp only [List.getElem?_range hj, Option.map_some]
      by_cases h1 : j < t
      · rw [if_pos h1, if_pos (by omega)]
      · rw [if_neg h1, if_neg (by omega)]
    · rw [List.getElem?_eq_none (by simp; omega)]; rfl
theorem prt_zero (W : Nat → Int) : prt W 0 = zr 80 := rfl
set_option maxHeartbeats 1000000 in
theorem a_word (g off cap : Nat) (l : List Int) (t : TypeId) (W : World) (hg : W.heap[g]? = some (.cells (irow .u8 l) t (0, 0))) (hl : off + 8 ≤ l.length) (hz : ∀ z ∈ l, 0 ≤ z ∧ z < 256) : Calls Try.prog 42 #[.slice (some ⟨g, off, none⟩) 8 cap] W fun e w' => e = .returned (.int .u64 (hor l off 8)) ∧ Below W.heap.size W w' := by
  go_enter Try.func42, Try.ntmps42
  go_wp2
  go_loopw [3, 8] (fun v i wr => ∃ k : Nat, k ≤ 8 ∧ v = .int .u64 (hor l off k) ∧ i = .int .i64 k ∧ wr = W) (fun _ i _ => 8 - (intOf i).toNat)
  case atStart => exact ⟨0, by omega, rfl, rfl, rfl⟩
  case round =>
    obtain ⟨k, hk, rfl, rfl, rfl⟩ := hrel
    by_cases hlt : k < 8
    · have hd : decide ((k : Int) < 8) = true := by simp; omega
      have c := irow_cell hg (j := off + k) (by omega)
      have hs := hor_small hz off k hlt
      have hb := getD_bd hz (off + k)
      have ho := or_byte _ _ hs hb
      have hn : hor l off (k + 1) = hor l off k * 256 + l.getD (off + k) 0 := rfl
      rw [← hn] at ho
      generalize hn1 : hor l off (k + 1) = h1 at *
      replace hn1 := hide hn1
      generalize hor l off k = h0 at *
      generalize l.getD (off + k) 0 = z at *
      clear hn
      go_wp2
      refine ⟨⟨k + 1, by omega, ?_, by go_num, trivial⟩, ?_⟩
      · rw [hn1.out]
      · simp [intOf]; omega
    · obtain rfl : k = 8 := by omega
      have hd : decide ((8 : Int) < 8) = false := by decide
      go_wp2
      go_ret
      exact ⟨rfl, Below.refl _ _⟩
theorem slice8 (g k : Nat) (hk : k < 16) (W : World) : (Instr.sliceAt 32 (.pointer (some ⟨g, 0, none⟩)) (some (.int .i64 (8 * (k : Int)))) (some (.int .i64 (8 * (k : Int) + 8))) (some (.int .i64 (8 * (k : Int) + 8)))).run Try.prog W = .ok (.slice (some ⟨g, 8 * k, none⟩) 8 8) W := by
  have ht : Try.prog.underlying 32 = some (.array (Try.prog.arrayLen 32) (Try.prog.elem 32)) := by kernel_rfl
  have hn : Try.prog.arrayLen 32 = 128 := by kernel_rfl
  have hs : (sizeOf (Try.prog.elem 32)).run Try.prog W = .ok 1 W := by kernel_rfl
  rw [run_sliceAt_array_lhm W _ _ ht .i64 .i64 .i64 _ _ _ (by omega) (by omega) (by omega) (by rw [hn]; omega), hs]
  show Result.ok (slicedAt _ _ _ _ 1) W = _
  have e1 : (8 * (k : Int)).toNat = 8 * k := by omega
  have e2 : (8 * (k : Int) + 8).toNat = 8 * k + 8 := by omega
  rw [e1, e2, slicedAt, if_neg (by omega), addr_add]
  simp
theorem info57 (W : Nat → Int) (t : Nat) : (Try.prog.info? 60).map (·.size) = some (irow .u64 (prt W t)).size := by
  rw [irow_size, prt_len]; kernel_rfl
theorem fit57 (W V : Nat → Int) (t u : Nat) : (irow .u64 (prt W t)).size = (irow .u64 (prt V u)).size := by
  rw [irow_size, irow_size, prt_len, prt_len]
set_option maxRecDepth 100000 in
set_option maxHeartbeats 4000000 in
theorem a_spread (l : List Int) (hl : l.length = 128) (hz : ∀ z ∈ l, 0 ≤ z ∧ z < 256) : Gives 34 #[.agg (irow .u8 l)] (.agg (irow .u64 (prt (wds l) 80))) := by
  intro w
  have R0 := hp3_0 w (.cells (irow .u8 l) 32) (.cells (irow .u64 (zr 80)) 60) (.cells (irow .u64 (zr 80)) 60)
  have R1 := hp3_1 w (.cells (irow .u8 l) 32) (.cells (irow .u64 (zr 80)) 60) (.cells (irow .u64 (zr 80)) 60)
  have R2 := hp3_2 w (.cells (irow .u8 l) 32) (.cells (irow .u64 (zr 80)) 60) (.cells (irow .u64 (zr 80)) 60)
  have HW : Below w.heap.size w (((w.alloc (.cells (irow .u8 l) 32)).alloc (.cells (irow .u64 (zr 80)) 60)).alloc (.cells (irow .u64 (zr 80)) 60)) := ((((Below.refl _ _).alloc (Nat.le_refl _) _).alloc (by simp) _).alloc (by simp; omega) _)

  go_enter Try.func34, Try.ntmps34
  go_wp2_with (first | (refine wpList_box rfl 32 _ rfl _ rfl (bp128 _) ?_) | (refine wpList_alloc rfl 60 rfl (irow .u64 (zr 80)) zw80 ?_) | fail)
  generalize (((w.alloc (.cells (irow .u8 l) 32)).alloc (.cells (irow .u64 (zr 80)) 60)).alloc (.cells (irow .u64 (zr 80)) 60)) = w0 at *
  rw [← prt_zero (wds l)] at R1 R2
  go_loopw [10] (fun i wr => ∃ k : Nat, k ≤ 16 ∧ i = .int .i64 k ∧ wr.heap[w.heap.size]? = some (.cells (irow .u8 l) 32 (0, 0)) ∧ wr.heap[w.heap.size + 1]? = some (.cells (irow .u64 (prt (wds l) 0)) 60 (0, 0)) ∧ wr.heap[w.heap.size + 1 + 1]? = some (.cells (irow .u64 (prt (wds l) k)) 60 (0, 0)) ∧ Below w.heap.size w wr) (fun i _ => 16 - (intOf i).toNat)
  case atStart => exact ⟨0, by omega, rfl, R0, R1, R2, HW⟩
  case round =>
    clear R0 R1 R2 HW
    obtain ⟨k, hk, rfl, r0, r1, r2, hw⟩ := hrel
    by_cases hlt : k < 16
    · have hd : decide ((k : Int) < 16) = true := by simp; omega
      have hsl := slice8 w.heap.size k hlt wr
      have hcall := fun cap => a_word _ (8 * k) cap l _ wr r0 (by omega) hz
      have e : hor l (8 * k) 8 = wds l k := by rw [wds_lo _ hlt]; rfl
      rw [e] at hcall
      clear e
      have hset := prt_set (wds l) k (by omega)
      have hpl := prt_len (wds l) k
      generalize wds l k = z at *
      go_wp2_with (fail)
      refine (hcall _).mono ?_
      rintro e w1 ⟨rfl, hb⟩
      replace r0 := keep hb r0
      replace r1 := keep hb r1
      replace r2 := keep hb r2
      replace hw := Below.after hw hb
      have cz := irow_cell r2 (j := k) (by omega)
      have hf := row_frozen r2 k
      clear hcall hb
      go_wp2
      go_roundw
      case rel => exact ⟨k + 1, by omega, by go_num, heap_other r0 (by omega), heap_other r1 (by omega), by rw [← hset]; exact irow_set r2 k z, hw.setCell (show w.heap.size ≤ w.heap.size + 1 + 1 by omega) _⟩
      case measure => simp [intOf]; omega
    · obtain rfl : k = 16 := by omega
      have hd : decide ((16 : Int) < 16) = false := by decide
      go_wp2
      go_loopw [5] (fun i wr => ∃ k : Nat, 16 ≤ k ∧ k ≤ 80 ∧ i = .int .i64 k ∧ wr.heap[w.heap.size]? = some (.cells (irow .u8 l) 32 (0, 0)) ∧ wr.heap[w.heap.size + 1]? = some (.cells (irow .u64 (prt (wds l) 0)) 60 (0, 0)) ∧ wr.heap[w.heap.size + 1 + 1]? = some (.cells (irow .u64 (prt (wds l) k)) 60 (0, 0)) ∧ Below w.heap.size w wr) (fun i _ => 80 - (intOf i).toNat)
      case atStart => exact ⟨16, by omega, by omega, rfl, r0, r1, r2, hw⟩
      case round =>
        clear r0 r1 r2 hw hd
        obtain ⟨k, hk0, hk, rfl, r0, r1, r2, hw⟩ := hrel
        by_cases hlt : k < 80
        · have hd : decide ((k : Int) < 80) = true := by simp; omega
          have d15 := irow_cell r2 (j := k - 15) (by rw [prt_len]; omega)
          have d2 := irow_cell r2 (j := k - 2) (by rw [prt_len]; omega)
          rw [prt_get _ _ (by omega) (by omega)] at d15 d2
          have c7 := a_right (wds l (k - 15)) 1 (by decide) (by decide)
          have c18 := a_right (wds l (k - 15)) 8 (by decide) (by decide)
          have c17 := a_right (wds l (k - 2)) 19 (by decide) (by decide)
          have c19 := a_right (wds l (k - 2)) 61 (by decide) (by decide)
          have hset := prt_set (wds l) k (by omega)
          have hpl := prt_len (wds l) k
          have e := wds_hi l (t := k) (by omega)
          have e7 := prt_get (wds l) k (j := k - 7) (by omega) (by omega)
          have e16 := prt_get (wds l) k (j := k - 16) (by omega) (by omega)
          unfold lo0 lo1 at e
          generalize rot (wds l (k - 15)) 1 = q7 at *
          generalize rot (wds l (k - 15)) 8 = q18 at *
          generalize rot (wds l (k - 2)) 19 = q17 at *
          generalize rot (wds l (k - 2)) 61 = q19 at *
          generalize wds l (k - 15) = x15 at *
          generalize wds l (k - 2) = x2 at *
          generalize wds l (k - 7) = x7 at *
          generalize wds l (k - 16) = x16 at *
          generalize wds l k = z at *
          replace e := hide e
          replace hset := hide hset
          go_wp2
          have k15 : ∀ p : Regrown, (grow (redrawn wr p.d) p.os).cell? ⟨w.heap.size + 1 + 1, k - 15, none⟩ = some (.int .u64 x15) := fun p => cell_regrown (d15) p.d p.os
          have k2 : ∀ p : Regrown, (grow (redrawn wr p.d) p.os).cell? ⟨w.heap.size + 1 + 1, k - 2, none⟩ = some (.int .u64 x2) := fun p => cell_regrown (d2) p.d p.os
          refine wp_region_quiet_below (by kernel_rfl) (by kernel_rfl) ?_
          go_big_quiet_step (fail)
          go_big_quiet_step (fail)
          go_big_quiet_step (fail)
          go_big_quiet_step (fail)
          go_big_quiet_step (fail)
          go_big_quiet_step (fail)
          go_big_quiet_step (fail)
          go_big_quiet_step (fail)
          go_big_quiet_step (fail)
          go_big_quiet_step (fail)
          refine wpQuiet_nil ?_
          rintro _ ⟨p, rfl⟩
          have hb := below_regrown wr p.d p.os
          generalize grow (redrawn wr p.d) p.os = w1 at *
          clear k15 k2
          replace r0 := keep hb r0
          replace r1 := keep hb r1
          replace r2 := keep hb r2
          replace hw := Below.after hw hb
          clear hb

          go_wp2_with (fail)
          refine (c7.at _).mono ?_
          rintro e_ w2 ⟨rfl, hb⟩
          replace r0 := keep hb r0
          replace r1 := keep hb r1
          replace r2 := keep hb r2
          replace hw := Below.after hw hb
          clear hb

          go_wp2_with (fail)
          refine (c18.at _).mono ?_
          rintro e_ w3 ⟨rfl, hb⟩
          replace r0 := keep hb r0
          replace r1 := keep hb r1
          replace r2 := keep hb r2
          replace hw := Below.after hw hb
          clear hb

          go_wp2_with (fail)
          refine (c17.at _).mono ?_
          rintro e_ w4_ ⟨rfl, hb⟩
          replace r0 := keep hb r0
          replace r1 := keep hb r1
          replace r2 := keep hb r2
          replace hw := Below.after hw hb
          clear hb

          go_wp2_with (fail)
          refine (c19.at _).mono ?_
          rintro e_ w5 ⟨rfl, hb⟩
          replace r0 := keep hb r0
          replace r1 := keep hb r1
          replace r2 := keep hb r2
          replace hw := Below.after hw hb
          clear hb

          have d7 := irow_cell r2 (j := k - 7) (by omega)
          have d16 := irow_cell r2 (j := k - 16) (by omega)
          rw [e7] at d7
          rw [e16] at d16
          clear e7 e16
          go_wp2
          have k7 : ∀ p : Regrown, (grow (redrawn w5 p.d) p.os).cell? ⟨w.heap.size + 1 + 1, k - 7, none⟩ = some (.int .u64 x7) := fun p => cell_regrown (d7) p.d p.os
          have k16 : ∀ p : Regrown, (grow (redrawn w5 p.d) p.os).cell? ⟨w.heap.size + 1 + 1, k - 16, none⟩ = some (.int .u64 x16) := fun p => cell_regrown (d16) p.d p.os
          refine wp_region_tail (C := fun w' => ∃ p : Regrown, w' = grow (redrawn w5 p.d) p.os) 15 _ rfl rfl rfl (by kernel_rfl) (by kernel_rfl) (by kernel_rfl) (by kernel_rfl) ⟨⟨w5.drawn + 1, #[]⟩, by rw [grow_empty]; rfl⟩ ?_
          dsimp only [List.set, idle]
          go_big_quiet_step (fail)
          go_big_quiet_step (fail)
          go_big_quiet_step (fail)
          go_big_quiet_step (fail)
          go_big_quiet_step (fail)
          go_big_quiet_step (fail)
          go_big_quiet_step (fail)
          go_big_quiet_step (fail)
          go_big_quiet_step (fail)
          go_big_quiet_step (fail)
          go_big_quiet_step (fail)
          go_big_quiet_step (fail)
          go_big_quiet_step (fail)
          go_big_quiet_step (fail)
          go_big_quiet_step (fail)
          refine wpQuiet_idle rfl rfl rfl ?_
          rintro _ ⟨p, rfl⟩
          have hb := below_regrown w5 p.d p.os
          generalize grow (redrawn w5 p.d) p.os = w6 at *
          clear k7 k16
          replace r0 := keep hb r0
          replace r1 := keep hb r1
          replace r2 := keep hb r2
          replace hw := Below.after hw hb
          clear hb

          have cz := irow_cell r2 (j := k) (by omega)
          have hf := row_frozen r2 k
          go_wp2
          refine ⟨?_, ?measure⟩
          apply Exists.intro
          apply Exists.intro
          repeat apply Exists.intro
          refine ⟨?rel, rfl⟩
          case rel => exact ⟨k + 1, by omega, by omega, by go_num, heap_other r0 (by omega), heap_other r1 (by omega), by rw [← hset.out, e.out]; exact irow_set r2 k _, hw.setCell (show w.heap.size ≤ w.heap.size + 1 + 1 by omega) _⟩
          case measure => simp [intOf]; omega
        · obtain rfl : k = 80 := by omega
          have hd : decide ((80 : Int) < 80) = false := by decide
          go_wp2_with (first | (refine wpList_load_want rfl 60 _ rfl (w.heap.size + 1 + 1) rfl 60 (irow .u64 (prt (wds l) 80)) (0, 0) _ r2 Try.underlying60 rfl (info57 _ _) ?_) | (refine wpList_store_row rfl 60 _ _ rfl (w.heap.size + 1) (irow .u64 (prt (wds l) 80)) rfl rfl 60 _ r1 (info57 _ _) (fit57 _ _ _ _) (irow_one _ _) ?_) | fail)
          replace r1 := setRow_heap wr (w.heap.size + 1) _ (irow .u64 (prt (wds l) 80)) _ _ r1
          replace hw := below_setRow hw (show w.heap.size ≤ w.heap.size + 1 by omega) (irow .u64 (prt (wds l) 80))
          generalize wr.setRow (w.heap.size + 1) (irow .u64 (prt (wds l) 80)) = w9 at *
          exact bodyPost_ret (v := .agg (irow .u64 (prt (wds l) 80))) (results_cell_row Try.results34 _ _ (w.heap.size + 1) _ _ _ _ rfl r1 Try.underlying60 rfl (info57 _ _)) rfl ⟨rfl, hw⟩

end Go.Proofs.Ytelildhjkknaiaa.Wi


namespace Go.Proofs.Ytelildhjkknaiaa.Wi
open Go Go.RowKit Go.Sort
attribute [local go_sem] setCell_drewN alloc_drewN

/-- The constants; the start. -/
def kl : List Int := [4794697086780616226, 8158064640168781261, 13096744586834688815, 16840607885511220156, 4131703408338449720, 6480981068601479193, 10538285296894168987, 12329834152419229976, 15566598209576043074, 1334009975649890238, 2608012711638119052, 6128411473006802146, 8268148722764581231, 9286055187155687089, 11230858885718282805, 13951009754708518548, 16472876342353939154, 17275323862435702243, 1135362057144423861, 2597628984639134821, 3308224258029322869, 5365058923640841347, 6679025012923562964, 8573033837759648693, 10970295158949994411, 12119686244451234320, 12683024718118986047, 13788192230050041572, 14330467153632333762, 15395433587784984357, 489312712824947311, 1452737877330783856, 2861767655752347644, 3322285676063803686, 5560940570517711597, 5996557281743188959, 7280758554555802590, 8532644243296465576, 9350256976987008742, 10552545826968843579, 11727347734174303076, 12113106623233404929, 14000437183269869457, 14369950271660146224, 15101387698204529176, 15463397548674623760, 17586052441742319658, 1182934255886127544, 1847814050463011016, 2177327727835720531, 2830643537854262169, 3796741975233480872, 4115178125766777443, 5681478168544905931, 6601373596472566643, 7507060721942968483, 8399075790359081724, 8693463985226723168, 9568029438360202098, 10144078919501101548, 10430055236837252648, 11840083180663258601, 13761210420658862357, 14299343276471374635, 14566680578165727644, 15097957966210449927, 16922976911328602910, 17689382322260857208, 500013540394364858, 748580250866718886, 1242879168328830382, 1977374033974150939, 2944078676154940804, 3659926193048069267, 4368137639120453308, 4836135668995329356, 5532061633213252278, 6448918945643986474, 6902733635092675308, 7801388544844847127]
def sl : List Int := [7640891576956012808, 13503953896175478587, 4354685564936845355, 11912009170470909681, 5840696475078001361, 11170449401992604703, 2270897969802886507, 6620516959819538809]
theorem info23 (l : List Int) (hl : l.length = 8) : (Try.prog.info? 31).map (·.size) = some (irow .u64 l).size := by
  rw [irow_size, hl]; kernel_rfl
theorem info24 (l : List Int) (hl : l.length = 128) : (Try.prog.info? 32).map (·.size) = some (irow .u8 l).size := by
  rw [irow_size, hl]; kernel_rfl
theorem fit8 (l m : List Int) (hl : l.length = 8) (hm : m.length = 8) : (irow .u64 l).size = (irow .u64 m).size := by
  rw [irow_size, irow_size, hl, hm]
def kvals (l : List Int) : Nat → List (Nat × Value) := fun n => (List.range n).map fun i => (i, .int .u64 (l.getD i 0))
theorem kbuilt : Try.prog.built 60 (kvals kl 80) = some (irow .u64 kl) := by kernel_rfl
theorem sbuilt : Try.prog.built 31 (kvals sl 8) = some (irow .u64 sl) := by kernel_rfl
theorem infok : (Try.prog.info? 60).map (·.size) = some (irow .u64 kl).size := by kernel_rfl
set_option maxRecDepth 100000 in
set_option maxHeartbeats 4000000 in
theorem a_constants : Gives 40 #[] (.agg (irow .u64 kl)) := by
  intro w
  have R0 := hp1_0 w (.cells (irow .u64 (zr 80)) 60)
  have HW : Below w.heap.size w (w.alloc (.cells (irow .u64 (zr 80)) 60)) := ((Below.refl _ _).alloc (Nat.le_refl _) _)

  go_enter Try.func40, Try.ntmps40
  go_wp2_with (first | (refine wpList_alloc rfl 60 rfl (irow .u64 (zr 80)) zw80 ?_) | (refine wpList_build_as rfl 60 _ rfl (kvals kl 80) (by kernel_rfl) (irow .u64 kl) kbuilt ?_) | (refine wpList_store_row rfl 60 _ _ rfl (w.heap.size) (irow .u64 kl) rfl rfl 60 _ R0 infok rfl (irow_one _ _) ?_) | fail)
  replace R0 := setRow_heap (w.alloc (.cells (irow .u64 (zr 80)) 60)) (w.heap.size) _ (irow .u64 kl) _ _ R0
  replace HW := below_setRow HW (show w.heap.size ≤ w.heap.size by omega) (irow .u64 kl)
  generalize (w.alloc (.cells (irow .u64 (zr 80)) 60)).setRow (w.heap.size) (irow .u64 kl) = w9 at *
  exact bodyPost_ret (v := .agg (irow .u64 kl)) (results_cell_row Try.results40 _ _ (w.heap.size) _ _ _ _ rfl R0 Try.underlying60 rfl infok) rfl ⟨rfl, HW⟩
set_option maxRecDepth 100000 in
set_option maxHeartbeats 4000000 in
theorem a_start : Gives 38 #[] (.agg (irow .u64 sl)) := by
  intro w
  have R0 := hp1_0 w (.cells (irow .u64 (zr 8)) 31)
  have HW : Below w.heap.size w (w.alloc (.cells (irow .u64 (zr 8)) 31)) := ((Below.refl _ _).alloc (Nat.le_refl _) _)

  go_enter Try.func38, Try.ntmps38
  go_wp2_with (first | (refine wpList_alloc rfl 31 rfl (irow .u64 (zr 8)) zw8 ?_) | (refine wpList_build_as rfl 31 _ rfl (kvals sl 8) (by kernel_rfl) (irow .u64 sl) sbuilt ?_) | (refine wpList_store_row rfl 31 _ _ rfl (w.heap.size) (irow .u64 sl) rfl rfl 31 _ R0 (info23 sl rfl) rfl (irow_one _ _) ?_) | fail)
  replace R0 := setRow_heap (w.alloc (.cells (irow .u64 (zr 8)) 31)) (w.heap.size) _ (irow .u64 sl) _ _ R0
  replace HW := below_setRow HW (show w.heap.size ≤ w.heap.size by omega) (irow .u64 sl)
  generalize (w.alloc (.cells (irow .u64 (zr 8)) 31)).setRow (w.heap.size) (irow .u64 sl) = w9 at *
  exact bodyPost_ret (v := .agg (irow .u64 sl)) (results_cell_row Try.results38 _ _ (w.heap.size) _ _ _ _ rfl R0 Try.underlying31 rfl (info23 sl rfl)) rfl ⟨rfl, HW⟩
set_option maxRecDepth 100000 in
set_option maxHeartbeats 4000000 in
theorem r_constants : Gives 36 #[] (.agg (irow .u64 kl)) := by
  intro w
  have R0 := hp1_0 w (.cells (irow .u64 (zr 80)) 60)
  have HW : Below w.heap.size w (w.alloc (.cells (irow .u64 (zr 80)) 60)) := ((Below.refl _ _).alloc (Nat.le_refl _) _)

  go_enter Try.func36, Try.ntmps36
  go_wp2_with (first | (refine wpList_alloc rfl 60 rfl (irow .u64 (zr 80)) zw80 ?_) | (refine wpList_build_as rfl 60 _ rfl (kvals kl 80) (by kernel_rfl) (irow .u64 kl) kbuilt ?_) | (refine wpList_store_row rfl 60 _ _ rfl (w.heap.size) (irow .u64 kl) rfl rfl 60 _ R0 infok rfl (irow_one _ _) ?_) | fail)
  replace R0 := setRow_heap (w.alloc (.cells (irow .u64 (zr 80)) 60)) (w.heap.size) _ (irow .u64 kl) _ _ R0
  replace HW := below_setRow HW (show w.heap.size ≤ w.heap.size by omega) (irow .u64 kl)
  generalize (w.alloc (.cells (irow .u64 (zr 80)) 60)).setRow (w.heap.size) (irow .u64 kl) = w9 at *
  exact bodyPost_ret (v := .agg (irow .u64 kl)) (results_cell_row Try.results36 _ _ (w.heap.size) _ _ _ _ rfl R0 Try.underlying60 rfl infok) rfl ⟨rfl, HW⟩
set_option maxRecDepth 100000 in
set_option maxHeartbeats 4000000 in
theorem r_start : Gives 29 #[] (.agg (irow .u64 sl)) := by
  intro w
  have R0 := hp1_0 w (.cells (irow .u64 (zr 8)) 31)
  have HW : Below w.heap.size w (w.alloc (.cells (irow .u64 (zr 8)) 31)) := ((Below.refl _ _).alloc (Nat.le_refl _) _)

  go_enter Try.func29, Try.ntmps29
  go_wp2_with (first | (refine wpList_alloc rfl 31 rfl (irow .u64 (zr 8)) zw8 ?_) | (refine wpList_build_as rfl 31 _ rfl (kvals sl 8) (by kernel_rfl) (irow .u64 sl) sbuilt ?_) | (refine wpList_store_row rfl 31 _ _ rfl (w.heap.size) (irow .u64 sl) rfl rfl 31 _ R0 (info23 sl rfl) rfl (irow_one _ _) ?_) | fail)
  replace R0 := setRow_heap (w.alloc (.cells (irow .u64 (zr 8)) 31)) (w.heap.size) _ (irow .u64 sl) _ _ R0
  replace HW := below_setRow HW (show w.heap.size ≤ w.heap.size by omega) (irow .u64 sl)
  generalize (w.alloc (.cells (irow .u64 (zr 8)) 31)).setRow (w.heap.size) (irow .u64 sl) = w9 at *
  exact bodyPost_ret (v := .agg (irow .u64 sl)) (results_cell_row Try.results29 _ _ (w.heap.size) _ _ _ _ rfl R0 Try.underlying31 rfl (info23 sl rfl)) rfl ⟨rfl, HW⟩

/-- Eight words. -/
structure St8 where
  (a b c d e f g h : Int)
def notx (x : Int) : Int := bits .xor .u64 IntKind.u64.max x
def wp (x : Int) : Int := IntKind.u64.wrap x
def one1 (k w : Int) (s : St8) : Int := IntKind.u64.wrap (IntKind.u64.wrap (IntKind.u64.wrap (IntKind.u64.wrap (s.h + up1 s.e) + bits .xor .u64 (bits .and .u64 s.e s.f) (bits .and .u64 (notx s.e) s.g)) + k) + w)
def two2 (s : St8) : Int := IntKind.u64.wrap (up0 s.a + bits .xor .u64 (bits .xor .u64 (bits .and .u64 s.a s.b) (bits .and .u64 s.a s.c)) (bits .and .u64 s.b s.c))
def rnd (k w : Int) (s : St8) : St8 := ⟨IntKind.u64.wrap (one1 k w s + two2 s), s.a, s.b, s.c, IntKind.u64.wrap (s.d + one1 k w s), s.e, s.f, s.g⟩
def st0 (h : List Int) : St8 := ⟨h.getD 0 0, h.getD 1 0, h.getD 2 0, h.getD 3 0, h.getD 4 0, h.getD 5 0, h.getD 6 0, h.getD 7 0⟩
def rs (h : List Int) (W : Nat → Int) : Nat → St8
  | 0 => st0 h
  | t + 1 => rnd (kl.getD t 0) (W t) (rs h W t)
def St8.list (s : St8) : List Int := [s.a, s.b, s.c, s.d, s.e, s.f, s.g, s.h]
/-- All eight within their bounds. -/
def St8.ok (s : St8) : Prop := ∀ x ∈ s.list, 0 ≤ x ∧ x < 18446744073709551616
theorem st0_ok {h : List Int} (hl : h.length = 8) (hz : ∀ x ∈ h, 0 ≤ x ∧ x < 18446744073709551616) : (st0 h).ok := by
  match h, hl with
  | [a, b, c, d, e, f, g, x], _ => exact hz
theorem rnd_ok {k w : Int} {s : St8} (h : s.ok) : (rnd k w s).ok := by
  have h1 := h s.a (by simp [St8.list])
  have h2 := h s.b (by simp [St8.list])
  have h3 := h s.c (by simp [St8.list])
  have h4 := h s.e (by simp [St8.list])
  have h5 := h s.f (by simp [St8.list])
  have h6 := h s.g (by simp [St8.list])
  intro x hx
  simp only [St8.list, rnd, List.mem_cons, List.not_mem_nil, or_false] at hx
  rcases hx with rfl | rfl | rfl | rfl | rfl | rfl | rfl | rfl
  · exact wrap_bd _
  · exact h1
  · exact h2
  · exact h3
  · exact wrap_bd _
  · exact h4
  · exact h5
  · exact h6
theorem rs_ok {h : List Int} (hl : h.length = 8) (hz : ∀ x ∈ h, 0 ≤ x ∧ x < 18446744073709551616) (W : Nat → Int) : ∀ t, (rs h W t).ok
  | 0 => st0_ok hl hz
  | t + 1 => rnd_ok (rs_ok hl hz W t)
set_option maxRecDepth 100000 in
set_option maxHeartbeats 4000000 in
theorem a_mixed (h : List Int) (hl : h.length = 8) (W : Nat → Int) : Gives 33 #[.agg (irow .u64 h), .agg (irow .u64 (prt W 80))] (.agg (irow .u64 (rs h W 80).list)) := by
  intro w
  have cK := a_constants
  have R0 := hp3_0 w (.cells (irow .u64 h) 31) (.cells (irow .u64 (prt W 80)) 60) (.cells (irow .u64 (zr 8)) 31)
  have R1 := hp3_1 w (.cells (irow .u64 h) 31) (.cells (irow .u64 (prt W 80)) 60) (.cells (irow .u64 (zr 8)) 31)
  have R2 := hp3_2 w (.cells (irow .u64 h) 31) (.cells (irow .u64 (prt W 80)) 60) (.cells (irow .u64 (zr 8)) 31)
  have HW : Below w.heap.size w (((w.alloc (.cells (irow .u64 h) 31)).alloc (.cells (irow .u64 (prt W 80)) 60)).alloc (.cells (irow .u64 (zr 8)) 31)) := ((((Below.refl _ _).alloc (Nat.le_refl _) _).alloc (by simp) _).alloc (by simp; omega) _)

  go_enter Try.func33, Try.ntmps33
  go_wp2_with (first | (refine wpList_box rfl 31 _ rfl _ rfl (bw8 _) ?_) | (refine wpList_box rfl 60 _ rfl _ rfl (bw80 _) ?_) | (refine wpList_alloc rfl 31 rfl (irow .u64 (zr 8)) zw8 ?_) | fail)
  try simp only [size_alloc1, Act.put, List.setIfInBounds_toArray, List.set_cons_succ, List.set_cons_zero]
  generalize (((w.alloc (.cells (irow .u64 h) 31)).alloc (.cells (irow .u64 (prt W 80)) 60)).alloc (.cells (irow .u64 (zr 8)) 31)) = w0 at *
  refine (cK.at _).mono ?_
  rintro e_ w1 ⟨rfl, hb⟩
  replace R0 := keep hb R0
  replace R1 := keep hb R1
  replace R2 := keep hb R2
  replace HW := Below.after HW hb
  clear hb

  go_wp2_with (first | (refine wpList_alloc rfl 60 rfl (irow .u64 (zr 80)) zw80 ?_) | (refine wpList_store_row rfl 60 _ _ rfl (w1.heap.size) (irow .u64 kl) rfl rfl 60 _ (hp1_0 w1 _) infok rfl (irow_one _ _) ?_; rw [setRow_alloc_new _ _ _ _ _ _ rfl]) | fail)
  have rk := hp1_0 w1 (.cells (irow .u64 kl) 60)
  have hB : Below w1.heap.size w1 (w1.alloc (.cells (irow .u64 kl) 60)) := (Below.refl _ _).alloc (Nat.le_refl _) _
  have yk := lt_of_row R2
  replace R0 := keep hB R0
  replace R1 := keep hB R1
  replace R2 := keep hB R2
  replace HW := Below.after HW hB
  clear hB cK
  try simp only [Act.put, List.setIfInBounds_toArray, List.set_cons_succ, List.set_cons_zero]
  generalize w1.alloc (.cells (irow .u64 kl) 60) = w2 at *
  generalize w1.heap.size = gK at *
  have d0 := irow_cell R0 (j := 0) (by omega)
  have d1 := irow_cell R0 (j := 1) (by omega)
  have d2 := irow_cell R0 (j := 2) (by omega)
  have d3 := irow_cell R0 (j := 3) (by omega)
  have d4 := irow_cell R0 (j := 4) (by omega)
  have d5 := irow_cell R0 (j := 5) (by omega)
  have d6 := irow_cell R0 (j := 6) (by omega)
  have d7 := irow_cell R0 (j := 7) (by omega)
  have hst : rs h W 0 = st0 h := rfl
  unfold st0 at hst
  generalize h.getD 0 0 = z0 at *
  generalize h.getD 1 0 = z1 at *
  generalize h.getD 2 0 = z2 at *
  generalize h.getD 3 0 = z3 at *
  generalize h.getD 4 0 = z4 at *
  generalize h.getD 5 0 = z5 at *
  generalize h.getD 6 0 = z6 at *
  generalize h.getD 7 0 = z7 at *
  replace hst := hide hst
  have k0 : ∀ p : Regrown, (grow (redrawn w2 p.d) p.os).cell? ⟨w.heap.size, 0, none⟩ = some (.int .u64 z0) := fun p => cell_regrown (d0) p.d p.os
  have k1 : ∀ p : Regrown, (grow (redrawn w2 p.d) p.os).cell? ⟨w.heap.size, 1, none⟩ = some (.int .u64 z1) := fun p => cell_regrown (d1) p.d p.os
  have k2 : ∀ p : Regrown, (grow (redrawn w2 p.d) p.os).cell? ⟨w.heap.size, 2, none⟩ = some (.int .u64 z2) := fun p => cell_regrown (d2) p.d p.os
  have k3 : ∀ p : Regrown, (grow (redrawn w2 p.d) p.os).cell? ⟨w.heap.size, 3, none⟩ = some (.int .u64 z3) := fun p => cell_regrown (d3) p.d p.os
  have k4 : ∀ p : Regrown, (grow (redrawn w2 p.d) p.os).cell? ⟨w.heap.size, 4, none⟩ = some (.int .u64 z4) := fun p => cell_regrown (d4) p.d p.os
  have k5 : ∀ p : Regrown, (grow (redrawn w2 p.d) p.os).cell? ⟨w.heap.size, 5, none⟩ = some (.int .u64 z5) := fun p => cell_regrown (d5) p.d p.os
  have k6 : ∀ p : Regrown, (grow (redrawn w2 p.d) p.os).cell? ⟨w.heap.size, 6, none⟩ = some (.int .u64 z6) := fun p => cell_regrown (d6) p.d p.os
  have k7 : ∀ p : Regrown, (grow (redrawn w2 p.d) p.os).cell? ⟨w.heap.size, 7, none⟩ = some (.int .u64 z7) := fun p => cell_regrown (d7) p.d p.os
  refine wp_region_quiet_below (by kernel_rfl) (by kernel_rfl) ?_
  go_big_quiet_step (fail)
  go_big_quiet_step (fail)
  go_big_quiet_step (fail)
  go_big_quiet_step (fail)
  go_big_quiet_step (fail)
  go_big_quiet_step (fail)
  go_big_quiet_step (fail)
  go_big_quiet_step (fail)
  go_big_quiet_step (fail)
  go_big_quiet_step (fail)
  go_big_quiet_step (fail)
  go_big_quiet_step (fail)
  go_big_quiet_step (fail)
  go_big_quiet_step (fail)
  go_big_quiet_step (fail)
  go_big_quiet_step (fail)
  go_big_quiet_step (fail)
  go_big_quiet_step (fail)
  go_big_quiet_step (fail)
  go_big_quiet_step (fail)
  go_big_quiet_step (fail)
  go_big_quiet_step (fail)
  go_big_quiet_step (fail)
  go_big_quiet_step (fail)
  refine wpQuiet_nil ?_
  rintro _ ⟨p, rfl⟩
  have hb := below_regrown w2 p.d p.os
  generalize grow (redrawn w2 p.d) p.os = w3 at *
  clear k0 k1 k2 k3 k4 k5 k6 k7
  replace R1 := keep hb R1
  replace R2 := keep hb R2
  replace rk := keep hb rk
  replace HW := Below.after HW hb
  clear hb

  clear d0 d1 d2 d3 d4 d5 d6 d7 R0
  go_wp2
  go_loopw [6, 7, 8, 9, 10, 11, 12, 13, 36] (fun va vb vc vd ve vf vg vh i wr => ∃ k : Nat, k ≤ 80 ∧ i = .int .i64 k ∧ va = .int .u64 (rs h W k).a ∧ vb = .int .u64 (rs h W k).b ∧ vc = .int .u64 (rs h W k).c ∧ vd = .int .u64 (rs h W k).d ∧ ve = .int .u64 (rs h W k).e ∧ vf = .int .u64 (rs h W k).f ∧ vg = .int .u64 (rs h W k).g ∧ vh = .int .u64 (rs h W k).h ∧ wr.heap[w.heap.size + 1]? = some (.cells (irow .u64 (prt W 80)) 60 (0, 0)) ∧ wr.heap[w.heap.size + 1 + 1]? = some (.cells (irow .u64 (zr 8)) 31 (0, 0)) ∧ wr.heap[gK]? = some (.cells (irow .u64 kl) 60 (0, 0)) ∧ Below w.heap.size w wr) (fun _ _ _ _ _ _ _ _ i _ => 80 - (intOf i).toNat)
  case atStart => exact ⟨0, by omega, rfl, by rw [hst.out], by rw [hst.out], by rw [hst.out], by rw [hst.out], by rw [hst.out], by rw [hst.out], by rw [hst.out], by rw [hst.out], R1, R2, rk, HW⟩
  case round =>
    clear R1 R2 HW rk hst
    obtain ⟨k, hk, rfl, rfl, rfl, rfl, rfl, rfl, rfl, rfl, rfl, r1, r2, rk, hw⟩ := hrel
    by_cases hlt : k < 80
    · have hd : decide ((k : Int) < 80) = true := by simp; omega
      have hn : rs h W (k + 1) = rnd (kl.getD k 0) (W k) (rs h W k) := rfl
      generalize rs h W k = sk at *
      obtain ⟨a, b, c, d, e, f, g, x⟩ := sk
      dsimp only at *
      have c6 := a_right e 14 (by decide) (by decide)
      have c11 := a_right e 18 (by decide) (by decide)
      have c25 := a_right e 41 (by decide) (by decide)
      have c2 := a_right a 28 (by decide) (by decide)
      have c13 := a_right a 34 (by decide) (by decide)
      have c22 := a_right a 39 (by decide) (by decide)
      simp only [rnd, one1, two2, up0, up1, notx] at hn
      generalize rot e 14 = q14 at *
      generalize rot e 18 = q18 at *
      generalize rot e 41 = q41 at *
      generalize rot a 28 = q28 at *
      generalize rot a 34 = q34 at *
      generalize rot a 39 = q39 at *
      replace hn := hide hn
      go_wp2_with (fail)
      refine (c6.at _).mono ?_
      rintro e_ w2 ⟨rfl, hb⟩
      replace r1 := keep hb r1
      replace r2 := keep hb r2
      replace rk := keep hb rk
      replace hw := Below.after hw hb
      clear hb

      go_wp2_with (fail)
      refine (c11.at _).mono ?_
      rintro e_ w3 ⟨rfl, hb⟩
      replace r1 := keep hb r1
      replace r2 := keep hb r2
      replace rk := keep hb rk
      replace hw := Below.after hw hb
      clear hb

      go_wp2_with (fail)
      refine (c25.at _).mono ?_
      rintro e_ w4_ ⟨rfl, hb⟩
      replace r1 := keep hb r1
      replace r2 := keep hb r2
      replace rk := keep hb rk
      replace hw := Below.after hw hb
      clear hb

      have dk := irow_cell rk (j := k) hlt
      have dw := irow_cell r1 (j := k) (by rw [prt_len]; omega)
      rw [prt_get _ _ hlt hlt] at dw
      generalize kl.getD k 0 = K at *
      generalize W k = wk at *
      go_wp2
      have k0 : ∀ p : Regrown, (grow (redrawn w4_ p.d) p.os).cell? ⟨gK, k, none⟩ = some (.int .u64 K) := fun p => cell_regrown (dk) p.d p.os
      have k1 : ∀ p : Regrown, (grow (redrawn w4_ p.d) p.os).cell? ⟨w.heap.size + 1, k, none⟩ = some (.int .u64 wk) := fun p => cell_regrown (dw) p.d p.os
      refine wp_region_quiet_below (by kernel_rfl) (by kernel_rfl) ?_
      go_big_quiet_step (fail)
      go_big_quiet_step (fail)
      go_big_quiet_step (fail)
      go_big_quiet_step (fail)
      go_big_quiet_step (fail)
      go_big_quiet_step (fail)
      go_big_quiet_step (fail)
      go_big_quiet_step (fail)
      go_big_quiet_step (fail)
      go_big_quiet_step (fail)
      go_big_quiet_step (fail)
      go_big_quiet_step (fail)
      go_big_quiet_step (fail)
      go_big_quiet_step (fail)
      go_big_quiet_step (fail)
      go_big_quiet_step (fail)
      go_big_quiet_step (fail)
      go_big_quiet_step (fail)
      go_big_quiet_step (fail)
      go_big_quiet_step (fail)
      go_big_quiet_step (fail)
      refine wpQuiet_nil ?_
      rintro _ ⟨p, rfl⟩
      have hb := below_regrown w4_ p.d p.os
      generalize grow (redrawn w4_ p.d) p.os = w5 at *
      clear k0 k1
      replace r1 := keep hb r1
      replace r2 := keep hb r2
      replace rk := keep hb rk
      replace hw := Below.after hw hb
      clear hb

      clear dk dw
      go_wp2_with (fail)
      refine (c2.at _).mono ?_
      rintro e_ w6 ⟨rfl, hb⟩
      replace r1 := keep hb r1
      replace r2 := keep hb r2
      replace rk := keep hb rk
      replace hw := Below.after hw hb
      clear hb

      go_wp2_with (fail)
      refine (c13.at _).mono ?_
      rintro e_ w7 ⟨rfl, hb⟩
      replace r1 := keep hb r1
      replace r2 := keep hb r2
      replace rk := keep hb rk
      replace hw := Below.after hw hb
      clear hb

      go_wp2_with (fail)
      refine (c22.at _).mono ?_
      rintro e_ w8 ⟨rfl, hb⟩
      replace r1 := keep hb r1
      replace r2 := keep hb r2
      replace rk := keep hb rk
      replace hw := Below.after hw hb
      clear hb

      go_wp2
      refine ⟨?rel, ?measure⟩
      case rel =>
        refine ⟨k + 1, by omega, by go_num, ?_, ?_, ?_, ?_, ?_, ?_, ?_, ?_, r1, r2, rk, hw⟩
        all_goals (rw [hn.out])
      case measure => simp [intOf]; omega
    · obtain rfl : k = 80 := by omega
      have hd : decide ((80 : Int) < 80) = false := by decide
      have hfin : irow .u64 (rs h W 80).list = (irow .u64 [(rs h W 80).a, (rs h W 80).b, (rs h W 80).c, (rs h W 80).d, (rs h W 80).e, (rs h W 80).f, (rs h W 80).g, (rs h W 80).h]) := rfl
      have hi8 : (Try.prog.info? 31).map (·.size) = some ((irow .u64 [(rs h W 80).a, (rs h W 80).b, (rs h W 80).c, (rs h W 80).d, (rs h W 80).e, (rs h W 80).f, (rs h W 80).g, (rs h W 80).h]) : Array Value).size := by kernel_rfl
      generalize (rs h W 80).a = za at *
      generalize (rs h W 80).b = zb at *
      generalize (rs h W 80).c = zc at *
      generalize (rs h W 80).d = zd at *
      generalize (rs h W 80).e = ze at *
      generalize (rs h W 80).f = zf at *
      generalize (rs h W 80).g = zg at *
      generalize (rs h W 80).h = zh at *
      replace hfin := hide hfin
      go_wp2_with (first | (refine wpList_store_row rfl 31 _ _ rfl (w.heap.size + 1 + 1) (irow .u64 [za, zb, zc, zd, ze, zf, zg, zh]) rfl rfl 31 _ r2 hi8 (by rw [irow_size, irow_size]; rfl) (irow_one _ _) ?_) | fail)
      replace r2 := setRow_heap wr (w.heap.size + 1 + 1) _ (irow .u64 [za, zb, zc, zd, ze, zf, zg, zh]) _ _ r2
      replace hw := below_setRow hw (show w.heap.size ≤ w.heap.size + 1 + 1 by omega) (irow .u64 [za, zb, zc, zd, ze, zf, zg, zh])
      generalize wr.setRow (w.heap.size + 1 + 1) (irow .u64 [za, zb, zc, zd, ze, zf, zg, zh]) = w9 at *
      exact bodyPost_ret (v := .agg (irow .u64 [za, zb, zc, zd, ze, zf, zg, zh])) (results_cell_row Try.results33 _ _ (w.heap.size + 1 + 1) _ _ _ _ rfl r2 Try.underlying31 rfl hi8) rfl ⟨by rw [hfin.out], hw⟩

end Go.Proofs.Ytelildhjkknaiaa.Wi


namespace Go.Proofs.Ytelildhjkknaiaa.Wi
open Go Go.RowKit Go.Sort
attribute [local go_sem] setCell_drewN alloc_drewN

/-- Words added, the first k of eight. -/
def sums (h e : List Int) (k : Nat) : List Int := (List.range 8).map fun j => if j < k then IntKind.u64.wrap (h.getD j 0 + e.getD j 0) else h.getD j 0
theorem sums_len (h e : List Int) (k : Nat) : (sums h e k).length = 8 := by simp [sums]
theorem sums_zero (h e : List Int) (hl : h.length = 8) : sums h e 0 = h := by
  apply List.ext_getElem
  · rw [sums_len, hl]
  · intro i h1 h2
    simp [sums, h2]
theorem sums_get (h e : List Int) (k : Nat) (hk : k < 8) : (sums h e k).getD k 0 = h.getD k 0 := by
  simp [sums, List.getD_eq_getElem?_getD, hk]
theorem sums_set (h e : List Int) (k : Nat) (hk : k < 8) : (sums h e k).set k (IntKind.u64.wrap (h.getD k 0 + e.getD k 0)) = sums h e (k + 1) := by
  apply List.ext_getElem?
  intro j
  rw [List.getElem?_set]
  by_cases c : k = j
  · subst c
    rw [if_pos rfl, if_pos (by rw [sums_len]; exact hk)]
    simp [sums, hk]
  · rw [if_neg c]
    simp only [sums, List.getElem?_map]
    by_cases hj : j < 8
    · simp only [List.getElem?_range hj, Option.map_some]
      by_cases h1 : j < k
      · rw [if_pos h1, if_pos (by omega)]
      · rw [if_neg h1, if_neg (by omega)]
    · rw [List.getElem?_eq_none (by simp; omega)]; rfl
/-- What a block comes to. -/
def blk (h b : List Int) : List Int := sums h (rs h (wds b) 80).list 8
theorem blk_len (h b : List Int) : (blk h b).length = 8 := sums_len _ _ _
theorem sums_bd (h e : List Int) (x : Int) (hx : x ∈ sums h e 8) : 0 ≤ x ∧ x < 18446744073709551616 := by
  simp only [sums, List.mem_map, List.mem_range] at hx
  obtain ⟨j, hj, rfl⟩ := hx
  rw [if_pos hj]
  exact wrap_bd _
theorem fit128 (l m : List Int) (hl : l.length = 128) (hm : m.length = 128) : (irow .u8 l).size = (irow .u8 m).size := by
  rw [irow_size, irow_size, hl, hm]
theorem list_len (s : St8) : s.list.length = 8 := rfl
set_option maxRecDepth 100000 in
set_option maxHeartbeats 4000000 in
theorem a_block (h b : List Int) (hl : h.length = 8) (hb : b.length = 128) (hz : ∀ z ∈ b, 0 ≤ z ∧ z < 256) : Gives 15 #[.agg (irow .u64 h), .agg (irow .u8 b)] (.agg (irow .u64 (blk h b))) := by
  intro w
  have cS := a_spread b hb hz
  have cM := a_mixed h hl (wds b)
  have ib := info24 b hb
  clear hz
  have r0 := hp3_0 w (.cells (irow .u64 h) 31) (.cells (irow .u8 b) 32) (.cells (irow .u64 (zr 8)) 31)
  have r1 := hp3_1 w (.cells (irow .u64 h) 31) (.cells (irow .u8 b) 32) (.cells (irow .u64 (zr 8)) 31)
  have r2 := hp3_2 w (.cells (irow .u64 h) 31) (.cells (irow .u8 b) 32) (.cells (irow .u64 (zr 8)) 31)
  have hw : Below w.heap.size w (((w.alloc (.cells (irow .u64 h) 31)).alloc (.cells (irow .u8 b) 32)).alloc (.cells (irow .u64 (zr 8)) 31)) := ((((Below.refl _ _).alloc (Nat.le_refl _) _).alloc (by simp) _).alloc (by simp; omega) _)

  go_enter Try.func15, Try.ntmps15
  go_wp2_with (first | (refine wpList_box rfl 31 _ rfl _ rfl (bw8 _) ?_) | (refine wpList_box rfl 32 _ rfl _ rfl (bp128 _) ?_) | (refine wpList_alloc rfl 31 rfl (irow .u64 (zr 8)) zw8 ?_) | fail)
  try simp only [size_alloc1, Act.put, List.setIfInBounds_toArray, List.set_cons_succ, List.set_cons_zero]
  generalize (((w.alloc (.cells (irow .u64 h) 31)).alloc (.cells (irow .u8 b) 32)).alloc (.cells (irow .u64 (zr 8)) 31)) = w0 at *
  have hfin : blk h b = sums h (rs h (wds b) 80).list 8 := rfl
  have he := list_len (rs h (wds b) 80)
  generalize (rs h (wds b) 80).list = e at *
  refine wp_region_alloc_ex 4 5 [5] (fun _ => .cells (irow .u64 (zr 8)) 31 (0, 0)) (by kernel_rfl) (by decide) (by decide) (by kernel_rfl) (by kernel_rfl) (by kernel_rfl) (by kernel_rfl) (by kernel_rfl) (by kernel_rfl) (by kernel_rfl) (by kernel_rfl) (by decide) (by decide) ?_ ?_
  · intro s l u
    obtain rfl : s = 4 := by omega
    exact ⟨_, _, rfl, rfl, rfl, rfl, fun a w => by kernel_rfl⟩
  apply Exists.intro
  constructor
  · intro v_ hb
    have Hr0 := keepr (keep hb r0)
    have Hr1 := keepr (keep hb r1)
    have Hr2 := keepr (keep hb r2)
    clear hb; dsimp only [List.take]
    refine wpQuiet_load_row rfl 31 _ rfl (w.heap.size) rfl 31 (irow .u64 h) (0, 0) _ Hr0.out Try.underlying31 rfl (info23 _ hl) ?_
    simp only [Act.put, List.setIfInBounds_toArray, List.set_cons_succ, List.set_cons_zero]
    refine wpQuiet_load_row rfl 32 _ rfl (w.heap.size + 1) rfl 32 (irow .u8 b) (0, 0) _ Hr1.out Try.underlying32 rfl ib ?_
    simp only [Act.put, List.setIfInBounds_toArray, List.set_cons_succ, List.set_cons_zero]
    go_big_quiet_step (exact cS.re)
    go_big_quiet_step (exact cM.re)
    refine wpQuiet_nil ?_
    rfl
  intro w1 g_ hb hg hd_
  obtain ⟨lg, rg⟩ := hg 5 (by simp)
  replace rg : w1.heap[g_ 5]? = some (.cells (irow .u64 (zr 8)) 31 (0, 0)) := rg
  simp only [List.drop, puts, ptrs, List.map, List.foldl, Act.put, List.setIfInBounds_toArray, List.set_cons_succ, List.set_cons_zero]
  clear hg hd_
  generalize g_ 5 = gE at *
  have lr0 := lt_of_row r0
  have lr1 := lt_of_row r1
  have lr2 := lt_of_row r2
  have hs := hw.size
  replace r0 := keep hb r0
  replace r1 := keep hb r1
  replace r2 := keep hb r2
  replace hw := Below.after hw hb
  clear hb

  refine wpList_store_row rfl 31 _ _ rfl (gE) (irow .u64 e) rfl rfl 31 _ rg (info23 _ he) (fit8 _ _ (zr_len 8) he) (irow_one _ _) ?_
  simp only [Act.put]
  replace r0 := (setRow_other w1 (gE) (w.heap.size) (irow .u64 e) (by omega)).trans r0
  replace r1 := (setRow_other w1 (gE) (w.heap.size + 1) (irow .u64 e) (by omega)).trans r1
  replace r2 := (setRow_other w1 (gE) (w.heap.size + 1 + 1) (irow .u64 e) (by omega)).trans r2
  replace rg := setRow_heap w1 (gE) _ (irow .u64 e) _ _ rg
  replace hw := below_setRow hw (show w.heap.size ≤ gE by omega) (irow .u64 e)
  generalize w1.setRow (gE) (irow .u64 e) = w2 at *

  have y0 : w.heap.size + 1 + 1 < gE := by omega
  clear hs lr0 lr1 lr2 lg r1 cS cM
  rw [← sums_zero h e hl] at r0
  go_wp2
  go_loopw [11] (fun i wr => ∃ k : Nat, k ≤ 8 ∧ i = .int .i64 k ∧ wr.heap[w.heap.size]? = some (.cells (irow .u64 (sums h e k)) 31 (0, 0)) ∧ wr.heap[w.heap.size + 1 + 1]? = some (.cells (irow .u64 (zr 8)) 31 (0, 0)) ∧ wr.heap[gE]? = some (.cells (irow .u64 e) 31 (0, 0)) ∧ Below w.heap.size w wr) (fun i _ => 8 - (intOf i).toNat)
  case atStart => exact ⟨0, by omega, rfl, r0, r2, rg, hw⟩
  case round =>
    clear r0 r2 rg hw
    obtain ⟨k, hk, rfl, r0, r2, rg, hw⟩ := hrel
    by_cases hlt : k < 8
    · have hd : decide ((k : Int) < 8) = true := by simp; omega
      have dh := irow_cell r0 (j := k) (by rw [sums_len]; exact hlt)
      have de := irow_cell rg (j := k) (by rw [he]; exact hlt)
      rw [sums_get _ _ _ hlt] at dh
      have hset := sums_set h e k hlt
      have hpl := sums_len h e k
      generalize h.getD k 0 = x at *
      generalize e.getD k 0 = y at *
      replace hset := hide hset
      go_wp2
      have k0 : ∀ p : Regrown, (grow (redrawn wr p.d) p.os).cell? ⟨w.heap.size, k, none⟩ = some (.int .u64 x) := fun p => cell_regrown (dh) p.d p.os
      have k1 : ∀ p : Regrown, (grow (redrawn wr p.d) p.os).cell? ⟨gE, k, none⟩ = some (.int .u64 y) := fun p => cell_regrown (de) p.d p.os
      refine wp_region_tail (C := fun w' => ∃ p : Regrown, w' = grow (redrawn wr p.d) p.os) 8 _ rfl rfl rfl (by kernel_rfl) (by kernel_rfl) (by kernel_rfl) (by kernel_rfl) ⟨⟨wr.drawn + 1, #[]⟩, by rw [grow_empty]; rfl⟩ ?_
      dsimp only [List.set, idle]
      go_big_quiet_step (fail)
      go_big_quiet_step (fail)
      go_big_quiet_step (fail)
      go_big_quiet_step (fail)
      go_big_quiet_step (fail)
      go_big_quiet_step (fail)
      go_big_quiet_step (fail)
      go_big_quiet_step (fail)
      refine wpQuiet_idle rfl rfl rfl ?_
      rintro _ ⟨p, rfl⟩
      have hb := below_regrown wr p.d p.os
      generalize grow (redrawn wr p.d) p.os = w3 at *
      clear k0 k1
      replace r0 := keep hb r0
      replace r2 := keep hb r2
      replace rg := keep hb rg
      replace hw := Below.after hw hb
      clear hb

      have cz := irow_cell r0 (j := k) (by omega)
      have hf := row_frozen r0 k
      clear dh de
      go_wp2
      go_roundw
      case rel => exact ⟨k + 1, by omega, by go_num, by rw [← hset.out]; exact irow_set r0 k _, heap_other r2 (by omega), heap_other rg (by omega), hw.setCell (show w.heap.size ≤ w.heap.size by omega) _⟩
      case measure => simp [intOf]; omega
    · obtain rfl : k = 8 := by omega
      have hd : decide ((8 : Int) < 8) = false := by decide
      have hq := sums_len h e 8
      rw [← hfin] at r0 hq
      go_wp2_with (first | (refine wpList_load_want rfl 31 _ rfl (w.heap.size) rfl 31 (irow .u64 (blk h b)) (0, 0) _ r0 Try.underlying31 rfl (info23 _ hq) ?_) | (refine wpList_store_row rfl 31 _ _ rfl (w.heap.size + 1 + 1) (irow .u64 (blk h b)) rfl rfl 31 _ r2 (info23 _ hq) (fit8 _ _ (zr_len 8) hq) (irow_one _ _) ?_) | fail)
      replace r2 := setRow_heap wr (w.heap.size + 1 + 1) _ (irow .u64 (blk h b)) _ _ r2
      replace hw := below_setRow hw (show w.heap.size ≤ w.heap.size + 1 + 1 by omega) (irow .u64 (blk h b))
      generalize wr.setRow (w.heap.size + 1 + 1) (irow .u64 (blk h b)) = w9 at *
      exact bodyPost_ret (v := .agg (irow .u64 (blk h b))) (results_cell_row Try.results15 _ _ (w.heap.size + 1 + 1) _ _ _ _ rfl r2 Try.underlying31 rfl (info23 _ hq)) rfl ⟨rfl, hw⟩

end Go.Proofs.Ytelildhjkknaiaa.Wi


namespace Go.Proofs.Ytelildhjkknaiaa.Wi
open Go Go.RowKit Go.Sort
attribute [local go_sem] setCell_drewN alloc_drewN

/-- The first t of 64, then zeros. -/
def pk64 (W : Nat → Int) (t : Nat) : List Int := (List.range 64).map fun j => if j < t then W j else 0
theorem pk64_len (W : Nat → Int) (t : Nat) : (pk64 W t).length = 64 := by simp [pk64]
theorem pk64_get (W : Nat → Int) (t : Nat) {j : Nat} (h : j < t) (h2 : j < 64) : (pk64 W t).getD j 0 = W j := by
  simp [pk64, List.getD_eq_getElem?_getD, h2, h]
theorem pk64_none (W : Nat → Int) (t : Nat) {j : Nat} (h : ¬ j < t) (h2 : j < 64) : (pk64 W t).getD j 0 = 0 := by
  simp [pk64, List.getD_eq_getElem?_getD, h2, h]
theorem pk64_set (W : Nat → Int) (t : Nat) (h : t < 64) : (pk64 W t).set t (W t) = pk64 W (t + 1) := by
  apply List.ext_getElem?
  intro j
  rw [List.getElem?_set]
  by_cases e : t = j
  · subst e
    rw [if_pos rfl, if_pos (by rw [pk64_len]; exact h)]
    simp [pk64, h]
  · rw [if_neg e]
    simp only [pk64, List.getElem?_map]
    by_cases hj : j < 64
    · simp only [List.getElem?_range hj, Option.map_some]
      by_cases h1 : j < t
      · rw [if_pos h1, if_pos (by omega)]
      · rw [if_neg h1, if_neg (by omega)]
    · rw [List.getElem?_eq_none (by simp; omega)]; rfl
set_option maxRecDepth 10000 in
theorem pk64_zero (W : Nat → Int) : pk64 W 0 = zr 64 := rfl
/-- The first t of 128, then zeros. -/
def prq (W : Nat → Int) (t : Nat) : List Int := (List.range 128).map fun j => if j < t then W j else 0
theorem prq_len (W : Nat → Int) (t : Nat) : (prq W t).length = 128 := by simp [prq]
theorem prq_get (W : Nat → Int) (t : Nat) {j : Nat} (h : j < t) (h2 : j < 128) : (prq W t).getD j 0 = W j := by
  simp [prq, List.getD_eq_getElem?_getD, h2, h]
theorem prq_none (W : Nat → Int) (t : Nat) {j : Nat} (h : ¬ j < t) (h2 : j < 128) : (prq W t).getD j 0 = 0 := by
  simp [prq, List.getD_eq_getElem?_getD, h2, h]
theorem prq_set (W : Nat → Int) (t : Nat) (h : t < 128) : (prq W t).set t (W t) = prq W (t + 1) := by
  apply List.ext_getElem?
  intro j
  rw [List.getElem?_set]
  by_cases e : t = j
  · subst e
    rw [if_pos rfl, if_pos (by rw [prq_len]; exact h)]
    simp [prq, h]
  · rw [if_neg e]
    simp only [prq, List.getElem?_map]
    by_cases hj : j < 128
    · simp only [List.getElem?_range hj, Option.map_some]
      by_cases h1 : j < t
      · rw [if_pos h1, if_pos (by omega)]
      · rw [if_neg h1, if_neg (by omega)]
    · rw [List.getElem?_eq_none (by simp; omega)]; rfl
set_option maxRecDepth 10000 in
theorem prq_zero (W : Nat → Int) : prq W 0 = zr 128 := rfl
/-- The bytes of words. -/
def bte (h : List Int) (j : Nat) : Int := h.getD (j / 8) 0 / 2 ^ (56 - 8 * (j % 8)) % 256
def byts (h : List Int) : List Int := pk64 (bte h) 64
theorem byts_len (h : List Int) : (byts h).length = 64 := pk64_len _ _
theorem byts_bd (h : List Int) : ∀ z ∈ byts h, 0 ≤ z ∧ z < 256 := by
  intro z hz
  simp only [byts, pk64, List.mem_map, List.mem_range] at hz
  obtain ⟨j, hj, rfl⟩ := hz
  rw [if_pos hj]
  unfold bte
  omega
theorem infok8 (l : List Int) (hl : l.length = 64) : (Try.prog.info? 26).map (·.size) = some (irow .u8 l).size := by
  rw [irow_size, hl]; kernel_rfl
theorem fit64 (l m : List Int) (hl : l.length = 64) (hm : m.length = 64) : (irow .u8 l).size = (irow .u8 m).size := by
  rw [irow_size, irow_size, hl, hm]
set_option maxRecDepth 100000 in
set_option maxHeartbeats 4000000 in
theorem r_bytes (h : List Int) (hl : h.length = 8) (hz : ∀ x ∈ h, 0 ≤ x ∧ x < 18446744073709551616) : Gives 30 #[.agg (irow .u64 h)] (.agg (irow .u8 (byts h))) := by
  intro w
  have r0 := hp3_0 w (.cells (irow .u64 h) 31) (.cells (irow .u8 (zr 64)) 26) (.cells (irow .u8 (zr 64)) 26)
  have r1 := hp3_1 w (.cells (irow .u64 h) 31) (.cells (irow .u8 (zr 64)) 26) (.cells (irow .u8 (zr 64)) 26)
  have r2 := hp3_2 w (.cells (irow .u64 h) 31) (.cells (irow .u8 (zr 64)) 26) (.cells (irow .u8 (zr 64)) 26)
  have hw : Below w.heap.size w (((w.alloc (.cells (irow .u64 h) 31)).alloc (.cells (irow .u8 (zr 64)) 26)).alloc (.cells (irow .u8 (zr 64)) 26)) := ((((Below.refl _ _).alloc (Nat.le_refl _) _).alloc (by simp) _).alloc (by simp; omega) _)

  go_enter Try.func30, Try.ntmps30
  go_wp2_with (first | (refine wpList_box rfl 31 _ rfl _ rfl (bw8 _) ?_) | (refine wpList_alloc rfl 26 rfl (irow .u8 (zr 64)) zwide ?_) | fail)
  try simp only [size_alloc1, Act.put, List.setIfInBounds_toArray, List.set_cons_succ, List.set_cons_zero]
  generalize (((w.alloc (.cells (irow .u64 h) 31)).alloc (.cells (irow .u8 (zr 64)) 26)).alloc (.cells (irow .u8 (zr 64)) 26)) = w0 at *
  rw [← pk64_zero (bte h)] at r2
  go_loopw [4] (fun i wr => ∃ k : Nat, k ≤ 64 ∧ i = .int .i64 k ∧ wr.heap[w.heap.size]? = some (.cells (irow .u64 h) 31 (0, 0)) ∧ wr.heap[w.heap.size + 1]? = some (.cells (irow .u8 (zr 64)) 26 (0, 0)) ∧ wr.heap[w.heap.size + 1 + 1]? = some (.cells (irow .u8 (pk64 (bte h) k)) 26 (0, 0)) ∧ Below w.heap.size w wr) (fun i _ => 64 - (intOf i).toNat)
  case atStart => exact ⟨0, by omega, rfl, r0, r1, r2, hw⟩
  case round =>
    clear r0 r1 r2 hw
    obtain ⟨k, hk, rfl, r0, r1, r2, hw⟩ := hrel
    by_cases hlt : k < 64
    · have hd : decide ((k : Int) < 64) = true := by simp; omega
      have dh := irow_cell r0 (j := k / 8) (by omega)
      have hset := pk64_set (bte h) k (by omega)
      have hpl := pk64_len (bte h) k
      have e : bte h k = h.getD (k / 8) 0 / 2 ^ (56 - k % 8 * 8) % 256 := by rw [Nat.mul_comm]; rfl
      have hb : 0 ≤ h.getD (k / 8) 0 ∧ h.getD (k / 8) 0 < 18446744073709551616 := by
        apply hz
        rw [List.getD_eq_getElem?_getD, List.getElem?_eq_getElem (by omega)]
        exact List.getElem_mem _
      rw [e] at hset
      generalize h.getD (k / 8) 0 = x at *
      have cz := irow_cell r2 (j := k) (by omega)
      have hf := row_frozen r2 k
      clear e
      replace hset := hide hset
      go_wp2
      refine ⟨⟨k + 1, by omega, by go_num, heap_other r0 (by omega), heap_other r1 (by omega), by rw [← hset.out]; exact irow_set r2 _ _, hw.setCell (show w.heap.size ≤ w.heap.size + 1 + 1 by omega) _⟩, ?_⟩
      simp [intOf]; omega
    · obtain rfl : k = 64 := by omega
      have hd : decide ((64 : Int) < 64) = false := by decide
      have hq := byts_len h
      go_wp2_with (first | (refine wpList_load_want rfl 26 _ rfl (w.heap.size + 1 + 1) rfl 26 (irow .u8 (byts h)) (0, 0) _ r2 Try.underlying26 rfl (infok8 _ hq) ?_) | (refine wpList_store_row rfl 26 _ _ rfl (w.heap.size + 1) (irow .u8 (byts h)) rfl rfl 26 _ r1 (infok8 _ hq) (fit64 _ _ (zr_len 64) hq) (irow_one _ _) ?_) | fail)
      replace r1 := setRow_heap wr (w.heap.size + 1) _ (irow .u8 (byts h)) _ _ r1
      replace hw := below_setRow hw (show w.heap.size ≤ w.heap.size + 1 by omega) (irow .u8 (byts h))
      generalize wr.setRow (w.heap.size + 1) (irow .u8 (byts h)) = w9 at *
      exact bodyPost_ret (v := .agg (irow .u8 (byts h))) (results_cell_row Try.results30 _ _ (w.heap.size + 1) _ _ _ _ rfl r1 Try.underlying26 rfl (infok8 _ hq)) rfl ⟨rfl, hw⟩
theorem index23 (h : List Int) (hl : h.length = 8) (k : Nat) (hk : k < 8) (W : World) : (Instr.index 31 (.agg (irow .u64 h)) (.int .i64 (k : Int))).run Try.prog W = .ok (.int .u64 (h.getD k 0)) W := by
  obtain ⟨i0, hi⟩ : ∃ i, Try.prog.info? 30 = some i := ⟨_, rfl⟩
  have hs : (sizeOf 30).run Try.prog W = .ok 1 W := by kernel_rfl
  have hp := run_part_int (P := Try.prog) W Try.underlying30 hi h k (by omega)
  have e : h.getD k 0 = h[k]'(by omega) := by simp [List.getD_eq_getElem?_getD, List.getElem?_eq_getElem (show k < h.length by omega)]
  rw [e]
  unfold Instr.index
  have h2 : (0 : Int) ≤ (k : Int) ∧ (k : Int) < ((8 : Nat) : Int) := by omega
  simp only [asIntOf, Sem.run_bind, Sem.run_pure, Result.andThen_ok, run_underlying Try.underlying31 W, if_pos h2, hs, Int.toNat_natCast, Nat.mul_one]
  exact hp
set_option maxRecDepth 100000 in
set_option maxHeartbeats 4000000 in
theorem a_told (h : List Int) (hl : h.length = 8) (hz : ∀ x ∈ h, 0 ≤ x ∧ x < 18446744073709551616) : Gives 39 #[.agg (irow .u64 h)] (.agg (irow .u8 (byts h))) := by
  intro w
  have r0 := hp3_0 w (.cells (irow .u64 h) 31) (.cells (irow .u8 (zr 64)) 26) (.cells (irow .u8 (zr 64)) 26)
  have r1 := hp3_1 w (.cells (irow .u64 h) 31) (.cells (irow .u8 (zr 64)) 26) (.cells (irow .u8 (zr 64)) 26)
  have r2 := hp3_2 w (.cells (irow .u64 h) 31) (.cells (irow .u8 (zr 64)) 26) (.cells (irow .u8 (zr 64)) 26)
  have hw : Below w.heap.size w (((w.alloc (.cells (irow .u64 h) 31)).alloc (.cells (irow .u8 (zr 64)) 26)).alloc (.cells (irow .u8 (zr 64)) 26)) := ((((Below.refl _ _).alloc (Nat.le_refl _) _).alloc (by simp) _).alloc (by simp; omega) _)

  go_enter Try.func39, Try.ntmps39
  go_wp2_with (first | (refine wpList_box rfl 31 _ rfl _ rfl (bw8 _) ?_) | (refine wpList_alloc rfl 26 rfl (irow .u8 (zr 64)) zwide ?_) | (refine wpList_load_want rfl 31 _ rfl (w.heap.size) rfl 31 (irow .u64 h) (0, 0) _ r0 Try.underlying31 rfl (info23 _ hl) ?_) | fail)
  try simp only [size_alloc1, Act.put, List.setIfInBounds_toArray, List.set_cons_succ, List.set_cons_zero]
  generalize (((w.alloc (.cells (irow .u64 h) 31)).alloc (.cells (irow .u8 (zr 64)) 26)).alloc (.cells (irow .u8 (zr 64)) 26)) = w0 at *
  rw [← pk64_zero (bte h)] at r2
  go_loopw [8] (fun i wr => ∃ k : Nat, k ≤ 8 ∧ i = .int .i64 k ∧ wr.heap[w.heap.size]? = some (.cells (irow .u64 h) 31 (0, 0)) ∧ wr.heap[w.heap.size + 1]? = some (.cells (irow .u8 (zr 64)) 26 (0, 0)) ∧ wr.heap[w.heap.size + 1 + 1]? = some (.cells (irow .u8 (pk64 (bte h) (8 * k))) 26 (0, 0)) ∧ Below w.heap.size w wr) (fun i _ => 8 - (intOf i).toNat)
  case atStart => exact ⟨0, by omega, rfl, r0, r1, r2, hw⟩
  case round =>
    clear r0 r1 r2 hw
    obtain ⟨k, hk, rfl, r0, r1, r2, hw⟩ := hrel
    by_cases hlt : k < 8
    · have hd : decide ((k : Int) < 8) = true := by simp; omega
      have hb : 0 ≤ h.getD k 0 ∧ h.getD k 0 < 18446744073709551616 := by
        apply hz
        rw [List.getD_eq_getElem?_getD, List.getElem?_eq_getElem (by omega)]
        exact List.getElem_mem _
      have hix := index23 h hl k hlt
      have hbt : ∀ j, j < 8 → bte h (8 * k + j) = h.getD k 0 / 2 ^ (56 - 8 * j) % 256 := fun j hj => by
        unfold bte
        rw [show (8 * k + j) / 8 = k by omega, show (8 * k + j) % 8 = j by omega]
      generalize h.getD k 0 = x at *
      go_wp2
      go_loopw [12] (fun i wr => ∃ j : Nat, j ≤ 8 ∧ i = .int .i64 j ∧ wr.heap[w.heap.size]? = some (.cells (irow .u64 h) 31 (0, 0)) ∧ wr.heap[w.heap.size + 1]? = some (.cells (irow .u8 (zr 64)) 26 (0, 0)) ∧ wr.heap[w.heap.size + 1 + 1]? = some (.cells (irow .u8 (pk64 (bte h) (8 * k + j))) 26 (0, 0)) ∧ Below w.heap.size w wr) (fun i _ => 8 - (intOf i).toNat)
      case atStart => exact ⟨0, by omega, rfl, r0, r1, r2, hw⟩
      case round =>
        clear r0 r1 r2 hw hix
        obtain ⟨j, hj, rfl, r0, r1, r2, hw⟩ := hrel
        by_cases hlj : j < 8
        · have hdj : decide ((j : Int) < 8) = true := by simp; omega
          have hset := pk64_set (bte h) (8 * k + j) (by omega)
          have hpl := pk64_len (bte h) (8 * k + j)
          rw [hbt j hlj] at hset
          have cz := irow_cell r2 (j := 8 * k + j) (by omega)
          have hf := row_frozen r2 (8 * k + j)
          clear hbt
          replace hset := hide hset
          go_wp2
          refine ⟨⟨j + 1, by omega, by go_num, heap_other r0 (by omega), heap_other r1 (by omega), by rw [show 8 * k + (j + 1) = 8 * k + j + 1 from rfl, ← hset.out]; exact irow_set r2 _ _, hw.setCell (show w.heap.size ≤ w.heap.size + 1 + 1 by omega) _⟩, ?_⟩
          simp [intOf]; omega
        · obtain rfl : j = 8 := by omega
          have hdj : decide ((8 : Int) < 8) = false := by decide
          clear hbt
          go_wp2
          refine ⟨⟨k + 1, by omega, by go_num, r0, r1, r2, hw⟩, ?_⟩
          simp [intOf]; omega
    · obtain rfl : k = 8 := by omega
      have hd : decide ((8 : Int) < 8) = false := by decide
      have hq := byts_len h
      go_wp2_with (first | (refine wpList_load_want rfl 26 _ rfl (w.heap.size + 1 + 1) rfl 26 (irow .u8 (byts h)) (0, 0) _ r2 Try.underlying26 rfl (infok8 _ hq) ?_) | (refine wpList_store_row rfl 26 _ _ rfl (w.heap.size + 1) (irow .u8 (byts h)) rfl rfl 26 _ r1 (infok8 _ hq) (fit64 _ _ (zr_len 64) hq) (irow_one _ _) ?_) | fail)
      replace r1 := setRow_heap wr (w.heap.size + 1) _ (irow .u8 (byts h)) _ _ r1
      replace hw := below_setRow hw (show w.heap.size ≤ w.heap.size + 1 by omega) (irow .u8 (byts h))
      generalize wr.setRow (w.heap.size + 1) (irow .u8 (byts h)) = w9 at *
      exact bodyPost_ret (v := .agg (irow .u8 (byts h))) (results_cell_row Try.results39 _ _ (w.heap.size + 1) _ _ _ _ rfl r1 Try.underlying26 rfl (infok8 _ hq)) rfl ⟨rfl, hw⟩

end Go.Proofs.Ytelildhjkknaiaa.Wi


namespace Go.Proofs.Ytelildhjkknaiaa.Wi
open Go Go.RowKit Go.Sort
attribute [local go_sem] setCell_drewN alloc_drewN

/-- How long the padding is; what it is, its last k bytes and the k ahead of the count's low half said. -/
def plen (n : Nat) : Nat := 17 + (239 - n % 128) % 128
def pbit (n i : Nat) : Int := ((8 * n / 2 ^ (8 * i) % 256 : Nat) : Int)
def padP (n k : Nat) : List Int := (List.range (plen n)).map fun j => if j = 0 then 128 else if plen n - k ≤ j ∨ (plen n - 8 - k ≤ j ∧ j < plen n - 8) then pbit n (plen n - 1 - j) else 0
def padL (n : Nat) : List Int := padP n 8
theorem plen_bd (n : Nat) : 17 ≤ plen n ∧ plen n ≤ 144 := by unfold plen; omega
theorem padP_len (n k : Nat) : (padP n k).length = plen n := by simp [padP]
theorem pbit_bd (n i : Nat) : 0 ≤ pbit n i ∧ pbit n i < 256 := by unfold pbit; omega
theorem padP_zero (n : Nat) : padP n 0 = (zr (plen n)).set 0 128 := by
  have hb := plen_bd n
  apply List.ext_getElem?
  intro j
  simp only [padP, zr, List.getElem?_set, List.getElem?_map, List.length_replicate, List.getElem?_replicate]
  by_cases hj : j < plen n
  · rw [List.getElem?_range hj]
    by_cases h0 : j = 0
    · subst h0; simp; omega
    · rw [if_neg (Ne.symm h0)]; simp [h0, hj]; omega
  · rw [List.getElem?_eq_none (by simp; omega)]
    simp [hj]; omega
theorem padP_set (n k : Nat) (hk : k < 8) : ((padP n k).set (plen n - 9 - k) (pbit n (8 + k))).set (plen n - 1 - k) (pbit n k) = padP n (k + 1) := by
  have hb := plen_bd n
  apply List.ext_getElem?
  intro j
  rw [List.getElem?_set, List.getElem?_set, List.length_set]
  by_cases e : plen n - 1 - k = j
  · rw [if_pos e, if_pos (by rw [padP_len]; omega)]
    subst e
    simp only [padP, List.getElem?_map, List.getElem?_range (show plen n - 1 - k < plen n by omega), Option.map_some]
    rw [if_neg (by omega), if_pos (by omega), show plen n - 1 - (plen n - 1 - k) = k by omega]
  · rw [if_neg e]
    by_cases e2 : plen n - 9 - k = j
    · rw [if_pos e2, if_pos (by rw [padP_len]; omega)]
      subst e2
      simp only [padP, List.getElem?_map, List.getElem?_range (show plen n - 9 - k < plen n by omega), Option.map_some]
      rw [if_neg (by omega), if_pos (by omega), show plen n - 1 - (plen n - 9 - k) = 8 + k by omega]
    · rw [if_neg e2]
      simp only [padP, List.getElem?_map]
      by_cases hj : j < plen n
      · simp only [List.getElem?_range hj, Option.map_some]
        by_cases h0 : j = 0
        · rw [if_pos h0, if_pos h0]
        · rw [if_neg h0, if_neg h0]
          by_cases h1 : plen n - k ≤ j ∨ (plen n - 8 - k ≤ j ∧ j < plen n - 8)
          · rw [if_pos h1, if_pos (by omega)]
          · rw [if_neg h1, if_neg (by omega)]
      · rw [List.getElem?_eq_none (by simp; omega)]; rfl
theorem padL_bd (n : Nat) : ∀ z ∈ padL n, 0 ≤ z ∧ z < 256 := by
  intro z hz
  simp only [padL, padP, List.mem_map] at hz
  obtain ⟨j, _, rfl⟩ := hz
  split
  · omega
  · split
    · exact pbit_bd _ _
    · omega
theorem hi_bit (n k : Nat) : (n : Int) / 2305843009213693952 / 2 ^ (8 * k) % 256 = pbit n (8 + k) := by
  unfold pbit
  rw [show 8 * (8 + k) = 64 + 8 * k by omega, Nat.pow_add, ← Nat.div_div_eq_div_mul, show 8 * n / 2 ^ 64 = n / 2305843009213693952 by omega]
  rw [Int.natCast_emod, Int.natCast_ediv, Int.natCast_ediv, Int.natCast_pow]
  rfl
theorem lo_bit (n k : Nat) (hk : k < 8) : 8 * (n : Int) % 18446744073709551616 / 2 ^ (8 * k) % 256 = pbit n k := by
  unfold pbit
  have e : 8 * n % 18446744073709551616 / 2 ^ (8 * k) % 256 = 8 * n / 2 ^ (8 * k) % 256 := by
    rw [show 18446744073709551616 = 2 ^ (8 * k) * (256 * 2 ^ (8 * (7 - k))) by rw [show 256 = 2 ^ 8 from rfl, ← Nat.pow_add, ← Nat.pow_add, show 8 * k + (8 + 8 * (7 - k)) = 64 by omega], Nat.mod_mul_right_div_self, Nat.mod_mul_right_mod]
  rw [← e, Int.natCast_emod, Int.natCast_ediv, Int.natCast_emod, Int.natCast_mul, Int.natCast_pow]
  rfl
theorem made_irow (n : Nat) : madeCells #[.int .u8 0] n = irow .u8 (zr n) := by
  apply Array.ext'
  simp only [madeCells, irow, zr, Array.toList_map, Array.toList_range, List.map_replicate]
  apply List.ext_getElem
  · simp
  · intro i h1 h2
    simp [Nat.mod_one]
theorem make_u64 (n : Nat) (h : n ≤ 281474976710656) (W : World) : (Instr.makeSlice 22 (.int .u64 (n : Int)) (.int .u64 (n : Int))).run Try.prog W = .ok (.slice (some ⟨W.heap.size, 0, none⟩) n n) (W.alloc (.cells (irow .u8 (zr n)) 5)) := by
  rw [← made_irow]
  exact run_make_row' 22 5 (.int .u8 0) 1 Try.underlying22 (by kernel_rfl) rfl .u64 .u64 n (by omega) (by omega) W
theorem make_i64 (n : Nat) (h : n ≤ 281474976710656) (W : World) : (Instr.makeSlice 22 (.int .i64 (n : Int)) (.int .i64 (n : Int))).run Try.prog W = .ok (.slice (some ⟨W.heap.size, 0, none⟩) n n) (W.alloc (.cells (irow .u8 (zr n)) 5)) := by
  rw [← made_irow]
  exact run_make_row' 22 5 (.int .u8 0) 1 Try.underlying22 (by kernel_rfl) rfl .i64 .i64 n (by omega) (by omega) W
set_option maxHeartbeats 2000000 in
theorem a_pad (n : Nat) (hn : n < 18446744073709551616) (w : World) : Calls Try.prog 17 #[.int .u64 (n : Int)] w fun e w' => ∃ v g, e = .returned v ∧ v = .slice (some ⟨g, 0, none⟩) (plen n) (plen n) ∧ w.heap.size ≤ g ∧ w'.heap[g]? = some (.cells (irow .u8 (padL n)) 5 (0, 0)) ∧ Below w.heap.size w w' := by
  have hpb := plen_bd n
  have hpl : 1 + (239 - (n : Int)) % 128 + 16 = (plen n : Int) := by unfold plen; omega
  have hmk := make_u64 (plen n) (by omega) w
  have R0 := hp1_0 w (.cells (irow .u8 (zr (plen n))) 5)
  have HW : Below w.heap.size w (w.alloc (.cells (irow .u8 (zr (plen n))) 5)) := (Below.refl _ _).alloc (Nat.le_refl _) _
  have hc0 := irow_cell R0 (j := 0) (by rw [zr_len]; omega)
  have hf0 := row_frozen R0 0
  have hps := padP_set n
  have hpp := padP_len n
  have hset0 : (irow .u8 (zr (plen n))).setIfInBounds 0 (.int .u8 128) = irow .u8 (padP n 0) := by
    rw [padP_zero n]
    simp [irow, List.map_set]
  replace hset0 := hide hset0
  clear R0 HW
  have hhi := hi_bit n
  have hlo := lo_bit n
  generalize plen n = L at *
  go_enter Try.func17, Try.ntmps17
  go_wp2
  go_loopw [22] (fun i wr => ∃ k : Nat, k ≤ 8 ∧ i = .int .i64 k ∧ wr.heap[w.heap.size]? = some (.cells (irow .u8 (padP n k)) 5 (0, 0)) ∧ Below w.heap.size w wr) (fun i _ => 8 - (intOf i).toNat)
  case atStart => exact ⟨0, by omega, rfl, by rw [hset0.out]; exact hp1_0 w _, (Below.refl _ _).alloc (Nat.le_refl _) _⟩
  case round =>
    clear hset0 hmk hc0 hf0
    obtain ⟨k, hk, rfl, r0, hw⟩ := hrel
    by_cases hlt : k < 8
    · have hd : decide ((k : Int) < 8) = true := by simp; omega
      have hc := irow_cell r0 (j := L - 9 - k) (by rw [hpp]; omega)
      have hf := row_frozen r0 (L - 9 - k)
      have hs := hps k hlt
      have hb1 := hhi k
      have hb2 := hlo k hlt
      have hq1 := pbit_bd n k
      have hq2 := pbit_bd n (8 + k)
      have r1 := irow_set r0 (L - 9 - k) (pbit n (8 + k))
      have hc2 := irow_cell r1 (j := L - 1 - k) (by rw [List.length_set, hpp]; omega)
      have hf2 := row_frozen r1 (L - 1 - k)
      clear hps hhi hlo
      go_wp2
      refine ⟨⟨k + 1, by omega, by go_num, ?_, (hw.setCell (show w.heap.size ≤ w.heap.size from Nat.le_refl _) _).setCell (show w.heap.size ≤ w.heap.size from Nat.le_refl _) _⟩, ?_⟩
      · rw [IntKind.wrap_u64, Int.mul_comm, hb2, ← hs]
        exact irow_set r1 _ _
      · simp [intOf]; omega
    · obtain rfl : k = 8 := by omega
      have hd : decide ((8 : Int) < 8) = false := by decide
      go_wp2
      go_ret
      exact ⟨_, _, rfl, rfl, Nat.le_refl _, r0, hw⟩

end Go.Proofs.Ytelildhjkknaiaa.Wi


namespace Go.Proofs.Ytelildhjkknaiaa.Wi
open Go Go.RowKit Go.Sort

/-! Blocks in a row; a hash under way. -/
def wat (bs : List Int) (q i : Nat) : Int := bs.getD (128 * q + i) 0
def chunk (bs : List Int) (k : Nat) : List Int := prq (wat bs k) 128
def fol (h bs : List Int) : Nat → List Int
  | 0 => h
  | k + 1 => blk (fol h bs k) (chunk bs k)
theorem fol_len {h : List Int} (hl : h.length = 8) (bs : List Int) : ∀ k, (fol h bs k).length = 8
  | 0 => hl
  | _ + 1 => blk_len _ _
theorem fol_bd {h : List Int} (hz : ∀ x ∈ h, 0 ≤ x ∧ x < 18446744073709551616) (bs : List Int) : ∀ k, ∀ x ∈ fol h bs k, 0 ≤ x ∧ x < 18446744073709551616
  | 0 => hz
  | _ + 1 => sums_bd _ _
theorem prq_congr {W V : Nat → Int} {t : Nat} (h : ∀ j, j < t → j < 128 → W j = V j) : prq W t = prq V t := by
  unfold prq
  apply List.map_congr_left
  intro j hj
  rw [List.mem_range] at hj
  by_cases e : j < t
  · rw [if_pos e, if_pos e, h j e hj]
  · rw [if_neg e, if_neg e]
theorem chunk_len (bs : List Int) (k : Nat) : (chunk bs k).length = 128 := prq_len _ _
theorem prq_bd {W : Nat → Int} (h : ∀ j, 0 ≤ W j ∧ W j < 256) (t : Nat) : ∀ z ∈ prq W t, 0 ≤ z ∧ z < 256 := by
  intro z hz
  simp only [prq, List.mem_map] at hz
  obtain ⟨j, _, rfl⟩ := hz
  split
  · exact h j
  · omega
theorem wat_bd {bs : List Int} (hz : ∀ z ∈ bs, 0 ≤ z ∧ z < 256) (q : Nat) : ∀ j, 0 ≤ wat bs q j ∧ wat bs q j < 256 := fun _ => getD_bd hz _
theorem chunk_bd {bs : List Int} (hz : ∀ z ∈ bs, 0 ≤ z ∧ z < 256) (k : Nat) : ∀ z ∈ chunk bs k, 0 ≤ z ∧ z < 256 := prq_bd (wat_bd hz k) 128
theorem getD_append_lt (a b : List Int) (j : Nat) (h : j < a.length) : (a ++ b).getD j 0 = a.getD j 0 := by
  rw [List.getD_eq_getElem?_getD, List.getD_eq_getElem?_getD, List.getElem?_append_left h]
theorem getD_append_ge (a b : List Int) (j : Nat) (h : a.length ≤ j) : (a ++ b).getD j 0 = b.getD (j - a.length) 0 := by
  rw [List.getD_eq_getElem?_getD, List.getD_eq_getElem?_getD, List.getElem?_append_right h]
theorem fol_append (h a b : List Int) : ∀ k, 128 * k ≤ a.length → fol h (a ++ b) k = fol h a k
  | 0, _ => rfl
  | k + 1, hk => by
    unfold fol
    rw [fol_append h a b k (by omega)]
    congr 1
    unfold chunk
    apply prq_congr
    intro j _ hj
    exact getD_append_lt a b _ (by omega)
theorem wat_append (a b : List Int) (q r : Nat) (hr : a.length = 128 * q + r) : prq (wat (a ++ b) q) r = prq (wat a q) r := prq_congr fun j hj _ => getD_append_lt a b _ (by omega)
/-- What is copied behind r bytes of a part. -/
theorem part_over (a c : List Int) (q r : Nat) (hr : a.length = 128 * q + r) (hc : r + c.length ≤ 128) : (prq (wat a q) r).take r ++ c ++ (prq (wat a q) r).drop (r + c.length) = prq (wat (a ++ c) q) (r + c.length) := by
  have hl := prq_len (wat a q) r
  apply List.ext_getElem?
  intro j
  by_cases h1 : j < r
  · rw [List.append_assoc, List.getElem?_append_left (by simp; omega), List.getElem?_take_of_lt h1]
    simp only [prq, List.getElem?_map, List.getElem?_range (show j < 128 by omega), Option.map_some, if_pos h1, if_pos (show j < r + c.length by omega)]
    rw [wat, wat, getD_append_lt a c _ (by omega)]
  · by_cases h2 : j < r + c.length
    · rw [List.getElem?_append_left (by simp; omega), List.getElem?_append_right (by simp; omega)]
      have e : ((prq (wat a q) r).take r).length = r := by simp; omega
      rw [e]
      simp only [prq, List.getElem?_map, List.getElem?_range (show j < 128 by omega), Option.map_some, if_pos h2]
      rw [wat, getD_append_ge a c _ (by omega), List.getElem?_eq_getElem (by omega), List.getD_eq_getElem?_getD, show 128 * q + j - a.length = j - r by omega, List.getElem?_eq_getElem (by omega)]
      rfl
    · rw [List.getElem?_append_right (by simp; omega), List.getElem?_drop]
      have e : r + c.length + (j - ((prq (wat a q) r).take r ++ c).length) = j := by simp; omega
      rw [e]
      by_cases hj : j < 128
      · simp only [prq, List.getElem?_map, List.getElem?_range hj, Option.map_some, if_neg h1, if_neg h2]
      · rw [List.getElem?_eq_none (by omega), List.getElem?_eq_none (by rw [prq_len]; omega)]
/-- The cells of a hash. -/
def hcells (ws ps : List Int) (sz : Int) : Array Value := (ws.map (Value.int .u64) ++ (ps.map (Value.int .u8) ++ [Value.int .u64 sz])).toArray
def hwords (bs : List Int) : List Int := fol sl bs (bs.length / 128)
def hpart (bs : List Int) : List Int := prq (wat bs (bs.length / 128)) (bs.length % 128)
def hst (bs : List Int) : Array Value := hcells (hwords bs) (hpart bs) (bs.length : Int)
theorem hwords_len (bs : List Int) : (hwords bs).length = 8 := fol_len rfl _ _
theorem hpart_len (bs : List Int) : (hpart bs).length = 128 := prq_len _ _
theorem sl_bd : ∀ x ∈ sl, 0 ≤ x ∧ x < 18446744073709551616 := by decide
theorem hwords_bd (bs : List Int) : ∀ x ∈ hwords bs, 0 ≤ x ∧ x < 18446744073709551616 := fol_bd sl_bd _ _
theorem hpart_bd {bs : List Int} (hz : ∀ z ∈ bs, 0 ≤ z ∧ z < 256) : ∀ z ∈ hpart bs, 0 ≤ z ∧ z < 256 := prq_bd (wat_bd hz _) _
set_option maxRecDepth 10000 in
theorem hst_nil : hst [] = hcells sl (zr 128) 0 := rfl
/-- Bytes behind, the block not full. -/
theorem hst_less (a c : List Int) (h : a.length % 128 + c.length < 128) : hst (a ++ c) = hcells (hwords a) (prq (wat (a ++ c) (a.length / 128)) (a.length % 128 + c.length)) ((a.length : Int) + c.length) := by
  have e1 : (a ++ c).length / 128 = a.length / 128 := by rw [List.length_append]; omega
  have e2 : (a ++ c).length % 128 = a.length % 128 + c.length := by rw [List.length_append]; omega
  unfold hst hwords hpart
  rw [e1, e2, fol_append _ _ _ _ (by omega), List.length_append]
  rfl
/-- Bytes behind, the block full. -/
theorem hst_full (a c : List Int) (h : a.length % 128 + c.length = 128) : hst (a ++ c) = hcells (blk (hwords a) (prq (wat (a ++ c) (a.length / 128)) 128)) (zr 128) ((a.length : Int) + c.length) := by
  have e1 : (a ++ c).length / 128 = a.length / 128 + 1 := by rw [List.length_append]; omega
  have e2 : (a ++ c).length % 128 = 0 := by rw [List.length_append]; omega
  unfold hst hwords hpart
  rw [e1, e2, fol, fol_append _ _ _ _ (by omega), List.length_append, prq_zero]
  rfl
theorem hcells_size (ws ps : List Int) (sz : Int) (h1 : ws.length = 8) (h2 : ps.length = 128) : (hcells ws ps sz).size = 137 := by simp [hcells, h1, h2]
theorem hcells_words (ws ps : List Int) (sz : Int) (h1 : ws.length = 8) : (hcells ws ps sz).extract 0 (0 + 8) = irow .u64 ws := by
  apply Array.ext'
  simp [hcells, irow, h1]
theorem hcells_part (ws ps : List Int) (sz : Int) (h1 : ws.length = 8) (h2 : ps.length = 128) : (hcells ws ps sz).extract 8 (8 + 128) = irow .u8 ps := by
  apply Array.ext'
  simp [hcells, irow, h1, h2]
theorem hcells_at (ws ps : List Int) (sz : Int) (h1 : ws.length = 8) (h2 : ps.length = 128) : (hcells ws ps sz)[136]? = some (.int .u64 sz) := by
  simp [hcells, h1, h2]
theorem hcells_setsz (ws ps : List Int) (sz z : Int) (h1 : ws.length = 8) (h2 : ps.length = 128) : (hcells ws ps sz).setIfInBounds 136 (.int .u64 z) = hcells ws ps z := by
  apply Array.ext'
  simp [hcells, h1, h2]
/-- What copy makes of the part. -/
theorem hcells_copy (ws ps c : List Int) (sz : Int) (o : Nat) (h1 : ws.length = 8) (h2 : ps.length = 128) (hc : o + c.length ≤ 128) : ((hcells ws ps sz).toList.take (8 + o) ++ c.map (Value.int .u8) ++ (hcells ws ps sz).toList.drop (8 + o + (c.map (Value.int .u8)).length)).toArray = hcells ws (ps.take o ++ c ++ ps.drop (o + c.length)) sz := by
  apply Array.ext'
  have e1 : 8 + o - ws.length = o := by omega
  have e2 : 8 + o + c.length - ws.length = o + c.length := by omega
  simp only [hcells, List.length_map, List.take_append, List.drop_append, h1, h2, List.map_append, List.map_take, List.map_drop]
  rw [List.take_of_length_le (show (ws.map (Value.int .u64)).length ≤ 8 + o by simp; omega), List.drop_eq_nil_of_le (show (ws.map (Value.int .u64)).length ≤ 8 + o + c.length by simp; omega), show 8 + o - 8 = o by omega, show 8 + o + c.length - 8 = o + c.length by omega, show o - 128 = 0 by omega, show o + c.length - 128 = 0 by omega]
  simp [List.append_assoc]
theorem ovw_list : ∀ (vs : List Value) (cs : Array Value) (o : Nat), o + vs.length ≤ cs.size → (ovw cs o vs).toList = cs.toList.take o ++ vs ++ cs.toList.drop (o + vs.length)
  | [], cs, o, _ => by simp [ovw]
  | v :: r, cs, o, h => by
    have h' : o < cs.toList.length := by simp at h ⊢; omega
    rw [ovw, ovw_list r _ _ (by simp at h ⊢; omega), Array.toList_setIfInBounds, List.set_eq_take_append_cons_drop, if_pos h']
    have e : (cs.toList.take o).length = o := by rw [List.length_take]; omega
    rw [List.take_append, List.drop_append, e, List.take_take, show min (o + 1) o = o by omega, show o + 1 - o = 1 by omega, List.drop_eq_nil_of_le (show (cs.toList.take o).length ≤ o + 1 + r.length by omega), show o + 1 + r.length - o = r.length + 1 by omega, List.drop_succ_cons, List.drop_drop, List.length_cons, show o + 1 + r.length = o + (r.length + 1) by omega]
    simp
theorem hcells_setwords (ws vs ps : List Int) (sz : Int) (h1 : ws.length = 8) (h2 : ps.length = 128) (h3 : vs.length = 8) : ovw (hcells ws ps sz) 0 (irow .u64 vs).toList = hcells vs ps sz := by
  apply Array.ext'
  rw [ovw_list _ _ _ (by rw [hcells_size _ _ _ h1 h2]; simp [irow, h3])]
  simp [hcells, irow, h1, h3]
theorem hcells_setpart (ws ps qs : List Int) (sz : Int) (h1 : ws.length = 8) (h2 : ps.length = 128) (h3 : qs.length = 128) : ovw (hcells ws ps sz) 8 (irow .u8 qs).toList = hcells ws qs sz := by
  apply Array.ext'
  rw [ovw_list _ _ _ (by rw [hcells_size _ _ _ h1 h2]; simp [irow, h3])]
  simp only [hcells, irow, h1, h3, List.length_map, List.take_append, List.take_of_length_le (show (ws.map (Value.int .u64)).length ≤ 8 by simp; omega)]
  rw [show 8 - 8 = 0 from rfl, List.take_zero, ← List.append_assoc (ws.map (Value.int .u64)) (ps.map (Value.int .u8)), List.drop_left' (by simp; omega)]
  simp
theorem hcells_one (ws ps : List Int) (sz : Int) : (hcells ws ps sz).all (·.oneCell') = true := by
  simp only [hcells, List.all_toArray, List.all_append, List.all_map, Bool.and_eq_true, List.all_eq_true, List.all_cons, List.all_nil]
  exact ⟨fun _ _ => rfl, fun _ _ => rfl, rfl, trivial⟩
end Go.Proofs.Ytelildhjkknaiaa.Wi

namespace Go.Proofs.Ytelildhjkknaiaa.Wi
open Go Go.RowKit Go.Sort
attribute [local go_sem] setCell_drewN alloc_drewN

theorem wrap_add (a b : Int) (ha : 0 ≤ a ∧ a < 72057594037927936) (hb : 0 ≤ b ∧ b < 256) : IntKind.u64.wrap (IntKind.u64.wrap (a * 256) + b) = a * 256 + b := by
  rw [IntKind.wrap_u64, IntKind.wrap_u64]
  omega
theorem set_set (l : List Int) (k : Nat) (a b : Int) : (l.set k a).set k b = l.set k b := by simp
set_option maxRecDepth 100000 in
set_option maxHeartbeats 4000000 in
theorem r_words (l : List Int) (hl : l.length = 128) (hz : ∀ z ∈ l, 0 ≤ z ∧ z < 256) : Gives 35 #[.agg (irow .u8 l)] (.agg (irow .u64 (prt (wds l) 80))) := by
  intro w
  have r0 := hp3_0 w (.cells (irow .u8 l) 32) (.cells (irow .u64 (zr 80)) 60) (.cells (irow .u64 (zr 80)) 60)
  have r1 := hp3_1 w (.cells (irow .u8 l) 32) (.cells (irow .u64 (zr 80)) 60) (.cells (irow .u64 (zr 80)) 60)
  have r2 := hp3_2 w (.cells (irow .u8 l) 32) (.cells (irow .u64 (zr 80)) 60) (.cells (irow .u64 (zr 80)) 60)
  have hw : Below w.heap.size w (((w.alloc (.cells (irow .u8 l) 32)).alloc (.cells (irow .u64 (zr 80)) 60)).alloc (.cells (irow .u64 (zr 80)) 60)) := ((((Below.refl _ _).alloc (Nat.le_refl _) _).alloc (by simp) _).alloc (by simp; omega) _)

  go_enter Try.func35, Try.ntmps35
  go_wp2_with (first | (refine wpList_box rfl 32 _ rfl _ rfl (bp128 _) ?_) | (refine wpList_alloc rfl 60 rfl (irow .u64 (zr 80)) zw80 ?_) | fail)
  generalize (((w.alloc (.cells (irow .u8 l) 32)).alloc (.cells (irow .u64 (zr 80)) 60)).alloc (.cells (irow .u64 (zr 80)) 60)) = w0 at *
  rw [← prt_zero (wds l)] at r1 r2
  go_loopw [4] (fun i wr => ∃ k : Nat, k ≤ 16 ∧ i = .int .i64 k ∧ wr.heap[w.heap.size]? = some (.cells (irow .u8 l) 32 (0, 0)) ∧ wr.heap[w.heap.size + 1]? = some (.cells (irow .u64 (prt (wds l) 0)) 60 (0, 0)) ∧ wr.heap[w.heap.size + 1 + 1]? = some (.cells (irow .u64 (prt (wds l) k)) 60 (0, 0)) ∧ Below w.heap.size w wr) (fun i _ => 16 - (intOf i).toNat)
  case atStart => exact ⟨0, by omega, rfl, r0, r1, r2, hw⟩
  case round =>
    clear r0 r1 r2 hw
    obtain ⟨k, hk, rfl, r0, r1, r2, hw⟩ := hrel
    by_cases hlt : k < 16
    · have hd : decide ((k : Int) < 16) = true := by simp; omega
      have e0 : prt (wds l) k = (prt (wds l) k).set k (hor l (8 * k) 0) := by
        apply List.ext_getElem?
        intro j
        rw [List.getElem?_set]
        by_cases e : k = j
        · subst e
          rw [if_pos rfl, if_pos (by rw [prt_len]; omega)]
          simp [prt, hor, show k < 80 by omega]
        · rw [if_neg e]
      rw [e0] at r2
      clear e0
      go_wp2
      go_loopw [5] (fun i wr => ∃ j : Nat, j ≤ 8 ∧ i = .int .i64 j ∧ wr.heap[w.heap.size]? = some (.cells (irow .u8 l) 32 (0, 0)) ∧ wr.heap[w.heap.size + 1]? = some (.cells (irow .u64 (prt (wds l) 0)) 60 (0, 0)) ∧ wr.heap[w.heap.size + 1 + 1]? = some (.cells (irow .u64 ((prt (wds l) k).set k (hor l (8 * k) j))) 60 (0, 0)) ∧ Below w.heap.size w wr) (fun i _ => 8 - (intOf i).toNat)
      case atStart => exact ⟨0, by omega, rfl, r0, r1, r2, hw⟩
      case round =>
        clear r0 r1 r2 hw
        obtain ⟨j, hj, rfl, r0, r1, r2, hw⟩ := hrel
        by_cases hlj : j < 8
        · have hdj : decide ((j : Int) < 8) = true := by simp; omega
          have hpl : ((prt (wds l) k).set k (hor l (8 * k) j)).length = 80 := by rw [List.length_set, prt_len]
          have d2 := irow_cell r2 (j := k) (by omega)
          rw [show ((prt (wds l) k).set k (hor l (8 * k) j)).getD k 0 = hor l (8 * k) j by rw [List.getD_eq_getElem?_getD, List.getElem?_set, if_pos rfl, if_pos (by rw [prt_len]; omega)]; rfl] at d2
          have d0 := irow_cell r0 (j := 8 * k + j) (by omega)
          have ha := wrap_add _ _ (hor_small hz (8 * k) j hlj) (getD_bd hz (8 * k + j))
          rw [show hor l (8 * k) j * 256 + l.getD (8 * k + j) 0 = hor l (8 * k) (j + 1) from rfl] at ha
          have hss := set_set (prt (wds l) k) k (hor l (8 * k) j) (hor l (8 * k) (j + 1))
          have hb := getD_bd hz (8 * k + j)
          obtain ⟨L1, eL1⟩ : ∃ L1, (prt (wds l) k).set k (hor l (8 * k) (j + 1)) = L1 := ⟨_, rfl⟩
          rw [eL1] at hss
          replace eL1 := hide eL1
          generalize e1_ : hor l (8 * k) (j + 1) = h1 at hss ha
          clear e1_
          generalize (prt (wds l) k).set k (hor l (8 * k) j) = L0 at *
          generalize hor l (8 * k) j = h0 at *
          generalize l.getD (8 * k + j) 0 = z at *
          replace ha := hide ha
          replace hss := hide hss
          go_wp2
          have k2 : ∀ p : Regrown, (grow (redrawn wr p.d) p.os).cell? ⟨w.heap.size + 1 + 1, k, none⟩ = some (.int .u64 h0) := fun p => cell_regrown (d2) p.d p.os
          have k0 : ∀ p : Regrown, (grow (redrawn wr p.d) p.os).cell? ⟨w.heap.size, 8 * k + j, none⟩ = some (.int .u8 z) := fun p => cell_regrown (d0) p.d p.os
          refine wp_region_tail (C := fun w' => ∃ p : Regrown, w' = grow (redrawn wr p.d) p.os) 14 _ rfl rfl rfl (by kernel_rfl) (by kernel_rfl) (by kernel_rfl) (by kernel_rfl) ⟨⟨wr.drawn + 1, #[]⟩, by rw [grow_empty]; rfl⟩ ?_
          dsimp only [List.set, idle]
          go_big_quiet_step (fail)
          go_big_quiet_step (fail)
          go_big_quiet_step (fail)
          go_big_quiet_step (fail)
          go_big_quiet_step (fail)
          go_big_quiet_step (fail)
          go_big_quiet_step (fail)
          go_big_quiet_step (fail)
          go_big_quiet_step (fail)
          go_big_quiet_step (fail)
          go_big_quiet_step (fail)
          go_big_quiet_step (fail)
          go_big_quiet_step (fail)
          go_big_quiet_step (fail)
          refine wpQuiet_idle rfl rfl rfl ?_
          rintro _ ⟨p, rfl⟩
          have hb := below_regrown wr p.d p.os
          generalize grow (redrawn wr p.d) p.os = w3 at *
          clear k2 k0
          replace r0 := keep hb r0
          replace r1 := keep hb r1
          replace r2 := keep hb r2
          replace hw := Below.after hw hb
          clear hb

          have cz := irow_cell r2 (j := k) (by omega)
          have hf := row_frozen r2 k
          clear d0 d2
          go_wp2
          refine ⟨⟨j + 1, by omega, by go_num, heap_other r0 (by omega), heap_other r1 (by omega), ?_, hw.setCell (show w.heap.size ≤ w.heap.size + 1 + 1 by omega) _⟩, ?_⟩
          · have := irow_set r2 k h1
            rw [hss.out, ← ha.out] at this
            rw [eL1.out]
            exact this
          · simp [intOf]; omega
        · obtain rfl : j = 8 := by omega
          have hdj : decide ((8 : Int) < 8) = false := by decide
          have hset := prt_set (wds l) k (by omega)
          rw [show hor l (8 * k) 8 = wds l k by rw [wds_lo _ hlt]; rfl, hset] at r2
          clear hset
          go_wp2
          refine ⟨⟨k + 1, by omega, by go_num, r0, r1, r2, hw⟩, ?_⟩
          simp [intOf]; omega
    · obtain rfl : k = 16 := by omega
      have hd : decide ((16 : Int) < 16) = false := by decide
      go_wp2
      go_loopw [6] (fun i wr => ∃ k : Nat, 16 ≤ k ∧ k ≤ 80 ∧ i = .int .i64 k ∧ wr.heap[w.heap.size]? = some (.cells (irow .u8 l) 32 (0, 0)) ∧ wr.heap[w.heap.size + 1]? = some (.cells (irow .u64 (prt (wds l) 0)) 60 (0, 0)) ∧ wr.heap[w.heap.size + 1 + 1]? = some (.cells (irow .u64 (prt (wds l) k)) 60 (0, 0)) ∧ Below w.heap.size w wr) (fun i _ => 80 - (intOf i).toNat)
      case atStart => exact ⟨16, by omega, by omega, rfl, r0, r1, r2, hw⟩
      case round =>
        clear r0 r1 r2 hw hd
        obtain ⟨k, hk0, hk, rfl, r0, r1, r2, hw⟩ := hrel
        by_cases hlt : k < 80
        · have hd : decide ((k : Int) < 80) = true := by simp; omega
          have d2 := irow_cell r2 (j := k - 2) (by rw [prt_len]; omega)
          have d7 := irow_cell r2 (j := k - 7) (by rw [prt_len]; omega)
          have d15 := irow_cell r2 (j := k - 15) (by rw [prt_len]; omega)
          have d16 := irow_cell r2 (j := k - 16) (by rw [prt_len]; omega)
          rw [prt_get _ _ (by omega) (by omega)] at d2 d7 d15 d16
          have c1 := r_right (wds l (k - 15)) (wds_bd hz _) 1 (by decide) (by decide)
          have c8 := r_right (wds l (k - 15)) (wds_bd hz _) 8 (by decide) (by decide)
          have c19 := r_right (wds l (k - 2)) (wds_bd hz _) 19 (by decide) (by decide)
          have c61 := r_right (wds l (k - 2)) (wds_bd hz _) 61 (by decide) (by decide)
          have hset := prt_set (wds l) k (by omega)
          have hpl := prt_len (wds l) k
          rw [wds_hi l (t := k) (by omega)] at hset
          unfold lo0 lo1 at hset
          generalize rot (wds l (k - 15)) 1 = q1 at *
          generalize rot (wds l (k - 15)) 8 = q8 at *
          generalize rot (wds l (k - 2)) 19 = q19 at *
          generalize rot (wds l (k - 2)) 61 = q61 at *
          generalize wds l (k - 2) = x2 at *
          generalize wds l (k - 7) = x7 at *
          generalize wds l (k - 15) = x15 at *
          generalize wds l (k - 16) = x16 at *
          replace hset := hide hset
          go_wp2
          have d7' : wr.cell? ⟨w.heap.size + 1 + 1, k - 7, none⟩ = some (.int .u64 x7) := d7
          have k7 : ∀ p : Regrown, (grow (redrawn wr p.d) p.os).cell? ⟨w.heap.size + 1 + 1, k - 7, none⟩ = some (.int .u64 x7) := fun p => cell_regrown (d7) p.d p.os
          have k16 : ∀ p : Regrown, (grow (redrawn wr p.d) p.os).cell? ⟨w.heap.size + 1 + 1, k - 16, none⟩ = some (.int .u64 x16) := fun p => cell_regrown (d16) p.d p.os
          refine wp_region_tail (C := fun w' => ∃ p : Regrown, w' = grow (redrawn wr p.d) p.os) 29 _ rfl rfl rfl (by kernel_rfl) (by kernel_rfl) (by kernel_rfl) (by kernel_rfl) ⟨⟨wr.drawn + 1, #[]⟩, by rw [grow_empty]; rfl⟩ ?_
          dsimp only [List.set, idle]
          go_big_quiet_step (fail)
          go_big_quiet_step (fail)
          go_big_quiet_step (exact c19.re)
          go_big_quiet_step (fail)
          go_big_quiet_step (exact c61.re)
          go_big_quiet_step (fail)
          go_big_quiet_step (fail)
          go_big_quiet_step (fail)
          go_big_quiet_step (fail)
          go_big_quiet_step (fail)
          go_big_quiet_step (fail)
          go_big_quiet_step (fail)
          go_big_quiet_step (fail)
          go_big_quiet_step (fail)
          go_big_quiet_step (fail)
          go_big_quiet_step (exact c1.re)
          go_big_quiet_step (fail)
          go_big_quiet_step (exact c8.re)
          go_big_quiet_step (fail)
          go_big_quiet_step (fail)
          go_big_quiet_step (fail)
          go_big_quiet_step (fail)
          go_big_quiet_step (fail)
          go_big_quiet_step (fail)
          go_big_quiet_step (fail)
          go_big_quiet_step (fail)
          go_big_quiet_step (fail)
          go_big_quiet_step (fail)
          go_big_quiet_step (fail)
          refine wpQuiet_idle rfl rfl rfl ?_
          rintro _ ⟨p, rfl⟩
          have hb := below_regrown wr p.d p.os
          generalize grow (redrawn wr p.d) p.os = w3 at *
          clear k7 k16
          replace r0 := keep hb r0
          replace r1 := keep hb r1
          replace r2 := keep hb r2
          replace hw := Below.after hw hb
          clear hb

          have cz := irow_cell r2 (j := k) (by omega)
          have hf := row_frozen r2 k
          clear d2 d7 d7' d15 d16 c1 c8 c19 c61
          go_wp2
          refine ⟨⟨k + 1, by omega, by omega, by go_num, heap_other r0 (by omega), heap_other r1 (by omega), by rw [← hset.out]; exact irow_set r2 k _, hw.setCell (show w.heap.size ≤ w.heap.size + 1 + 1 by omega) _⟩, ?_⟩
          simp [intOf]; omega
        · obtain rfl : k = 80 := by omega
          have hd : decide ((80 : Int) < 80) = false := by decide
          go_wp2_with (first | (refine wpList_load_want rfl 60 _ rfl (w.heap.size + 1 + 1) rfl 60 (irow .u64 (prt (wds l) 80)) (0, 0) _ r2 Try.underlying60 rfl (info57 _ _) ?_) | (refine wpList_store_row rfl 60 _ _ rfl (w.heap.size + 1) (irow .u64 (prt (wds l) 80)) rfl rfl 60 _ r1 (info57 _ _) (fit57 _ _ _ _) (irow_one _ _) ?_) | fail)
          replace r1 := setRow_heap wr (w.heap.size + 1) _ (irow .u64 (prt (wds l) 80)) _ _ r1
          replace hw := below_setRow hw (show w.heap.size ≤ w.heap.size + 1 by omega) (irow .u64 (prt (wds l) 80))
          generalize wr.setRow (w.heap.size + 1) (irow .u64 (prt (wds l) 80)) = w9 at *
          exact bodyPost_ret (v := .agg (irow .u64 (prt (wds l) 80))) (results_cell_row Try.results35 _ _ (w.heap.size + 1) _ _ _ _ rfl r1 Try.underlying60 rfl (info57 _ _)) rfl ⟨rfl, hw⟩

end Go.Proofs.Ytelildhjkknaiaa.Wi


namespace Go.Proofs.Ytelildhjkknaiaa.Wi
open Go Go.RowKit Go.Sort
attribute [local go_sem] setCell_drewN alloc_drewN

theorem st0_list (h : List Int) (hl : h.length = 8) : (st0 h).list = h := by
  match h, hl with
  | [a, b, c, d, e, f, g, x], _ => rfl
set_option maxRecDepth 100000 in
set_option maxHeartbeats 8000000 in
theorem r_block (h b : List Int) (hl : h.length = 8) (hh : ∀ x ∈ h, 0 ≤ x ∧ x < 18446744073709551616) (hb : b.length = 128) (hz : ∀ z ∈ b, 0 ≤ z ∧ z < 256) : Gives 16 #[.agg (irow .u64 h), .agg (irow .u8 b)] (.agg (irow .u64 (blk h b))) := by
  intro w
  have cK := r_constants
  have cW := r_words b hb hz
  have ib := info24 b hb
  have hok := rs_ok hl hh (wds b)
  clear hh hz
  have r0 := hp3_0 w (.cells (irow .u64 h) 31) (.cells (irow .u8 b) 32) (.cells (irow .u64 (zr 8)) 31)
  have r1 := hp3_1 w (.cells (irow .u64 h) 31) (.cells (irow .u8 b) 32) (.cells (irow .u64 (zr 8)) 31)
  have r2 := hp3_2 w (.cells (irow .u64 h) 31) (.cells (irow .u8 b) 32) (.cells (irow .u64 (zr 8)) 31)
  have hw : Below w.heap.size w (((w.alloc (.cells (irow .u64 h) 31)).alloc (.cells (irow .u8 b) 32)).alloc (.cells (irow .u64 (zr 8)) 31)) := ((((Below.refl _ _).alloc (Nat.le_refl _) _).alloc (by simp) _).alloc (by simp; omega) _)

  go_enter Try.func16, Try.ntmps16
  go_wp2_with (first | (refine wpList_box rfl 31 _ rfl _ rfl (bw8 _) ?_) | (refine wpList_box rfl 32 _ rfl _ rfl (bp128 _) ?_) | (refine wpList_alloc rfl 31 rfl (irow .u64 (zr 8)) zw8 ?_) | (simp only [size_alloc1]; (refine wpList_load_want rfl 32 _ rfl (w.heap.size + 1) rfl 32 (irow .u8 b) (0, 0) _ r1 Try.underlying32 rfl ib ?_)) | fail)
  try simp only [Act.put, List.setIfInBounds_toArray, List.set_cons_succ, List.set_cons_zero]
  generalize (((w.alloc (.cells (irow .u64 h) 31)).alloc (.cells (irow .u8 b) 32)).alloc (.cells (irow .u64 (zr 8)) 31)) = w0 at *
  refine (cW.at _).mono ?_
  rintro e_ w1 ⟨rfl, hb⟩
  replace r0 := keep hb r0
  replace r2 := keep hb r2
  replace hw := Below.after hw hb
  clear hb

  go_wp2_with (first | (refine wpList_alloc rfl 60 rfl (irow .u64 (zr 80)) zw80 ?_) | (refine wpList_store_row rfl 60 _ _ rfl (w1.heap.size) (irow .u64 (prt (wds b) 80)) rfl rfl 60 _ (hp1_0 w1 _) (info57 _ _) (by rw [irow_size, irow_size, zr_len, prt_len]) (irow_one _ _) ?_; rw [setRow_alloc_new _ _ _ _ _ _ rfl]) | fail)
  have rw := hp1_0 w1 (.cells (irow .u64 (prt (wds b) 80)) 60)
  have hB : Below w1.heap.size w1 (w1.alloc (.cells (irow .u64 (prt (wds b) 80)) 60)) := (Below.refl _ _).alloc (Nat.le_refl _) _
  have yrw := lt_of_row r2
  replace r0 := keep hB r0
  replace r2 := keep hB r2
  replace hw := Below.after hw hB
  clear hB
  try simp only [Act.put, List.setIfInBounds_toArray, List.set_cons_succ, List.set_cons_zero]
  generalize w1.alloc (.cells (irow .u64 (prt (wds b) 80)) 60) = w2 at *
  generalize w1.heap.size = gW at *

  go_wp2_with (fail)
  refine (cK.at _).mono ?_
  rintro e_ w3 ⟨rfl, hb⟩
  replace r0 := keep hb r0
  replace r2 := keep hb r2
  replace rw := keep hb rw
  replace hw := Below.after hw hb
  clear hb

  have hB1 : Below w3.heap.size w3 (w3.alloc (.cells (irow .u64 kl) 60)) := (Below.refl _ _).alloc (Nat.le_refl _) _
  have r0K := keep hB1 r0
  have hB : Below w3.heap.size w3 ((w3.alloc (.cells (irow .u64 kl) 60)).alloc (.cells (irow .u64 h) 31)) := hB1.alloc (by simp) _
  have rk := hp2_0 w3 (.cells (irow .u64 kl) 60) (.cells (irow .u64 h) 31)
  have rv := hp2_1 w3 (.cells (irow .u64 kl) 60) (.cells (irow .u64 h) 31)
  have yrk := lt_of_row rw
  go_wp2_with (first | (refine wpList_alloc rfl 60 rfl (irow .u64 (zr 80)) zw80 ?_) | (refine wpList_store_row rfl 60 _ _ rfl (w3.heap.size) (irow .u64 kl) rfl rfl 60 _ (hp1_0 w3 _) infok rfl (irow_one _ _) ?_; rw [setRow_alloc_new _ _ _ _ _ _ rfl]) | (refine wpList_load_want rfl 31 _ rfl (w.heap.size) rfl 31 (irow .u64 h) (0, 0) _ r0K Try.underlying31 rfl (info23 _ hl) ?_) | (refine wpList_alloc rfl 31 rfl (irow .u64 (zr 8)) zw8 ?_) | (refine wpList_store_row rfl 31 _ _ rfl ((w3.alloc (.cells (irow .u64 kl) 60)).heap.size) (irow .u64 h) rfl rfl 31 _ (hp1_0 (w3.alloc (.cells (irow .u64 kl) 60)) _) (info23 _ hl) (fit8 _ _ (zr_len 8) hl) (irow_one _ _) ?_; rw [setRow_alloc_new _ _ _ _ _ _ rfl]) | fail)
  replace r0 := keep hB r0
  replace r2 := keep hB r2
  replace rw := keep hB rw
  replace hw := Below.after hw hB
  clear hB hB1 r0K cK cW r1
  try simp only [size_alloc1, Act.put, List.setIfInBounds_toArray, List.set_cons_succ, List.set_cons_zero]
  generalize (w3.alloc (.cells (irow .u64 kl) 60)).alloc (.cells (irow .u64 h) 31) = w5 at *
  obtain ⟨gV, eV⟩ : ∃ gV, w3.heap.size + 1 = gV := ⟨_, rfl⟩
  have yv : w3.heap.size < gV := by omega
  rw [eV] at rv ⊢
  clear eV
  generalize w3.heap.size = gK at *
  rw [← st0_list h hl, show st0 h = rs h (wds b) 0 from rfl] at rv
  go_loopw [8] (fun i wr => ∃ k : Nat, k ≤ 80 ∧ i = .int .i64 k ∧ wr.heap[w.heap.size]? = some (.cells (irow .u64 h) 31 (0, 0)) ∧ wr.heap[w.heap.size + 1 + 1]? = some (.cells (irow .u64 (zr 8)) 31 (0, 0)) ∧ wr.heap[gK]? = some (.cells (irow .u64 kl) 60 (0, 0)) ∧ wr.heap[gW]? = some (.cells (irow .u64 (prt (wds b) 80)) 60 (0, 0)) ∧ wr.heap[gV]? = some (.cells (irow .u64 (rs h (wds b) k).list) 31 (0, 0)) ∧ Below w.heap.size w wr) (fun i _ => 80 - (intOf i).toNat)
  case atStart => exact ⟨0, by omega, rfl, r0, r2, rk, rw, rv, hw⟩
  case round =>
    clear r0 r2 rk rw rv hw
    obtain ⟨k, hk, rfl, r0, r2, rk, rw, rv, hw⟩ := hrel
    by_cases hlt : k < 80
    · have hd : decide ((k : Int) < 80) = true := by simp; omega
      have hn : rs h (wds b) (k + 1) = rnd (kl.getD k 0) (wds b k) (rs h (wds b) k) := rfl
      replace hok := hok k
      generalize rs h (wds b) k = sk at *
      obtain ⟨a, bb, c, d, e, f, g, x⟩ := sk
      have ha := hok a (by simp [St8.list])
      have he := hok e (by simp [St8.list])
      clear hok
      unfold St8.list at rv
      dsimp only at rv
      have dk := irow_cell rk (j := k) hlt
      have dw := irow_cell rw (j := k) (by rw [prt_len]; omega)
      rw [prt_get _ _ hlt hlt] at dw
      have c14 := r_right e he 14 (by decide) (by decide)
      have c18 := r_right e he 18 (by decide) (by decide)
      have c41 := r_right e he 41 (by decide) (by decide)
      have c28 := r_right a ha 28 (by decide) (by decide)
      have c34 := r_right a ha 34 (by decide) (by decide)
      have c39 := r_right a ha 39 (by decide) (by decide)
      clear ha he
      simp only [rnd, one1, two2, notx, up0, up1] at hn
      generalize rot e 14 = q14 at *
      generalize rot e 18 = q18 at *
      generalize rot e 41 = q41 at *
      generalize rot a 28 = q28 at *
      generalize rot a 34 = q34 at *
      generalize rot a 39 = q39 at *
      generalize eK : kl.getD k 0 = K at *
      generalize ew : wds b k = wk at *
      replace eK := hide eK
      replace ew := hide ew
      replace hn := hide hn
      have d0 : wr.cell? ⟨gV, 0, none⟩ = some (.int .u64 a) := irow_cell rv (j := 0) (show 0 < 8 by decide)
      have d1 : wr.cell? ⟨gV, 1, none⟩ = some (.int .u64 bb) := irow_cell rv (j := 1) (show 1 < 8 by decide)
      have d2 : wr.cell? ⟨gV, 2, none⟩ = some (.int .u64 c) := irow_cell rv (j := 2) (show 2 < 8 by decide)
      have d3 : wr.cell? ⟨gV, 3, none⟩ = some (.int .u64 d) := irow_cell rv (j := 3) (show 3 < 8 by decide)
      have d4 : wr.cell? ⟨gV, 4, none⟩ = some (.int .u64 e) := irow_cell rv (j := 4) (show 4 < 8 by decide)
      have d5 : wr.cell? ⟨gV, 5, none⟩ = some (.int .u64 f) := irow_cell rv (j := 5) (show 5 < 8 by decide)
      have d6 : wr.cell? ⟨gV, 6, none⟩ = some (.int .u64 g) := irow_cell rv (j := 6) (show 6 < 8 by decide)
      have d7 : wr.cell? ⟨gV, 7, none⟩ = some (.int .u64 x) := irow_cell rv (j := 7) (show 7 < 8 by decide)
      go_wp2
      have k0 : ∀ p : Regrown, (grow (redrawn wr p.d) p.os).cell? ⟨gV, 0, none⟩ = some (.int .u64 a) := fun p => cell_regrown (d0) p.d p.os
      have k4 : ∀ p : Regrown, (grow (redrawn wr p.d) p.os).cell? ⟨gV, 4, none⟩ = some (.int .u64 e) := fun p => cell_regrown (d4) p.d p.os
      refine wp_region_quiet_below (by kernel_rfl) (by kernel_rfl) ?_
      go_big_quiet_step (fail)
      go_big_quiet_step (fail)
      go_big_quiet_step (fail)
      go_big_quiet_step (fail)
      go_big_quiet_step (fail)
      go_big_quiet_step (fail)
      refine wpQuiet_nil ?_
      rintro _ ⟨p, rfl⟩
      have hb := below_regrown wr p.d p.os
      generalize grow (redrawn wr p.d) p.os = w6 at *
      clear k0 k4
      replace r0 := keep hb r0
      replace r2 := keep hb r2
      replace rk := keep hb rk
      replace rw := keep hb rw
      replace rv := keep hb rv
      replace hw := Below.after hw hb
      clear hb

      clear d0 d1 d2 d3 d4 d5 d6 d7 dk dw
      have d5 : w6.cell? ⟨gV, 5, none⟩ = some (.int .u64 f) := irow_cell rv (j := 5) (show 5 < 8 by decide)
      have d6 : w6.cell? ⟨gV, 6, none⟩ = some (.int .u64 g) := irow_cell rv (j := 6) (show 6 < 8 by decide)
      have d7 : w6.cell? ⟨gV, 7, none⟩ = some (.int .u64 x) := irow_cell rv (j := 7) (show 7 < 8 by decide)
      have dk : w6.cell? ⟨gK, k, none⟩ = some (.int .u64 K) := by rw [irow_cell rk (j := k) hlt, eK.out]
      have dw : w6.cell? ⟨gW, k, none⟩ = some (.int .u64 wk) := by rw [irow_cell rw (j := k) (by rw [prt_len]; omega), prt_get _ _ hlt hlt, ew.out]
      go_wp2
      have k5 : ∀ p : Regrown, (grow (redrawn w6 p.d) p.os).cell? ⟨gV, 5, none⟩ = some (.int .u64 f) := fun p => cell_regrown (d5) p.d p.os
      have k6 : ∀ p : Regrown, (grow (redrawn w6 p.d) p.os).cell? ⟨gV, 6, none⟩ = some (.int .u64 g) := fun p => cell_regrown (d6) p.d p.os
      have k7 : ∀ p : Regrown, (grow (redrawn w6 p.d) p.os).cell? ⟨gV, 7, none⟩ = some (.int .u64 x) := fun p => cell_regrown (d7) p.d p.os
      have kk : ∀ p : Regrown, (grow (redrawn w6 p.d) p.os).cell? ⟨gK, k, none⟩ = some (.int .u64 K) := fun p => cell_regrown (dk) p.d p.os
      have kw : ∀ p : Regrown, (grow (redrawn w6 p.d) p.os).cell? ⟨gW, k, none⟩ = some (.int .u64 wk) := fun p => cell_regrown (dw) p.d p.os
      refine wp_region_quiet_below (by kernel_rfl) (by kernel_rfl) ?_
      go_big_quiet_step (fail)
      go_big_quiet_step (fail)
      go_big_quiet_step (fail)
      go_big_quiet_step (exact c14.re)
      go_big_quiet_step (fail)
      go_big_quiet_step (exact c18.re)
      go_big_quiet_step (fail)
      go_big_quiet_step (fail)
      go_big_quiet_step (exact c41.re)
      go_big_quiet_step (fail)
      go_big_quiet_step (fail)
      go_big_quiet_step (fail)
      go_big_quiet_step (fail)
      go_big_quiet_step (fail)
      go_big_quiet_step (fail)
      go_big_quiet_step (fail)
      go_big_quiet_step (fail)
      go_big_quiet_step (fail)
      go_big_quiet_step (fail)
      go_big_quiet_step (fail)
      go_big_quiet_step (fail)
      go_big_quiet_step (fail)
      go_big_quiet_step (fail)
      go_big_quiet_step (fail)
      go_big_quiet_step (fail)
      go_big_quiet_step (fail)
      go_big_quiet_step (fail)
      go_big_quiet_step (fail)
      go_big_quiet_step (fail)
      go_big_quiet_step (fail)
      go_big_quiet_step (fail)
      refine wpQuiet_nil ?_
      rintro _ ⟨p, rfl⟩
      have hb := below_regrown w6 p.d p.os
      generalize grow (redrawn w6 p.d) p.os = w7 at *
      clear k5 k6 k7 kk kw
      replace r0 := keep hb r0
      replace r2 := keep hb r2
      replace rk := keep hb rk
      replace rw := keep hb rw
      replace rv := keep hb rv
      replace hw := Below.after hw hb
      clear hb

      clear d5 d6 d7 dk dw
      have d1 : w7.cell? ⟨gV, 1, none⟩ = some (.int .u64 bb) := irow_cell rv (j := 1) (show 1 < 8 by decide)
      have d2 : w7.cell? ⟨gV, 2, none⟩ = some (.int .u64 c) := irow_cell rv (j := 2) (show 2 < 8 by decide)
      go_wp2
      have k1 : ∀ p : Regrown, (grow (redrawn w7 p.d) p.os).cell? ⟨gV, 1, none⟩ = some (.int .u64 bb) := fun p => cell_regrown (d1) p.d p.os
      have k2 : ∀ p : Regrown, (grow (redrawn w7 p.d) p.os).cell? ⟨gV, 2, none⟩ = some (.int .u64 c) := fun p => cell_regrown (d2) p.d p.os
      refine wp_region_quiet_below (by kernel_rfl) (by kernel_rfl) ?_
      go_big_quiet_step (fail)
      go_big_quiet_step (exact c28.re)
      go_big_quiet_step (fail)
      go_big_quiet_step (exact c34.re)
      go_big_quiet_step (fail)
      go_big_quiet_step (fail)
      go_big_quiet_step (exact c39.re)
      go_big_quiet_step (fail)
      go_big_quiet_step (fail)
      go_big_quiet_step (fail)
      go_big_quiet_step (fail)
      go_big_quiet_step (fail)
      go_big_quiet_step (fail)
      go_big_quiet_step (fail)
      go_big_quiet_step (fail)
      go_big_quiet_step (fail)
      go_big_quiet_step (fail)
      go_big_quiet_step (fail)
      go_big_quiet_step (fail)
      go_big_quiet_step (fail)
      go_big_quiet_step (fail)
      go_big_quiet_step (fail)
      go_big_quiet_step (fail)
      go_big_quiet_step (fail)
      go_big_quiet_step (fail)
      refine wpQuiet_nil ?_
      rintro _ ⟨p, rfl⟩
      have hb := below_regrown w7 p.d p.os
      generalize grow (redrawn w7 p.d) p.os = w8 at *
      clear k1 k2
      replace r0 := keep hb r0
      replace r2 := keep hb r2
      replace rk := keep hb rk
      replace rw := keep hb rw
      replace rv := keep hb rv
      replace hw := Below.after hw hb
      clear hb

      clear d1 d2
      have d0 : w8.cell? ⟨gV, 0, none⟩ = some (.int .u64 a) := irow_cell rv (j := 0) (show 0 < 8 by decide)
      have d1 : w8.cell? ⟨gV, 1, none⟩ = some (.int .u64 bb) := irow_cell rv (j := 1) (show 1 < 8 by decide)
      have d2 : w8.cell? ⟨gV, 2, none⟩ = some (.int .u64 c) := irow_cell rv (j := 2) (show 2 < 8 by decide)
      have d3 : w8.cell? ⟨gV, 3, none⟩ = some (.int .u64 d) := irow_cell rv (j := 3) (show 3 < 8 by decide)
      have d4 : w8.cell? ⟨gV, 4, none⟩ = some (.int .u64 e) := irow_cell rv (j := 4) (show 4 < 8 by decide)
      have d5 : w8.cell? ⟨gV, 5, none⟩ = some (.int .u64 f) := irow_cell rv (j := 5) (show 5 < 8 by decide)
      have d6 : w8.cell? ⟨gV, 6, none⟩ = some (.int .u64 g) := irow_cell rv (j := 6) (show 6 < 8 by decide)
      generalize hO : IntKind.u64.wrap (IntKind.u64.wrap (IntKind.u64.wrap (IntKind.u64.wrap (x + bits .xor .u64 (bits .xor .u64 q14 q18) q41) + bits .xor .u64 (bits .and .u64 e f) (bits .and .u64 (bits .xor .u64 IntKind.u64.max e) g)) + K) + wk) = o1 at *
      generalize hT : IntKind.u64.wrap (bits .xor .u64 (bits .xor .u64 q28 q34) q39 + bits .xor .u64 (bits .xor .u64 (bits .and .u64 a bb) (bits .and .u64 a c)) (bits .and .u64 bb c)) = o2 at *
      clear hO hT
      go_wp2_with (first | (refine wpList_store_row rfl 31 _ _ rfl gV (irow .u64 [IntKind.u64.wrap (o1 + o2), a, bb, c, IntKind.u64.wrap (d + o1), e, f, g]) rfl rfl 31 _ rv (info23 _ rfl) (fit8 _ _ rfl rfl) (irow_one _ _) ?_) | fail)
      refine ⟨⟨k + 1, by omega, by go_num, (setRow_other w8 gV (w.heap.size) (irow .u64 [IntKind.u64.wrap (o1 + o2), a, bb, c, IntKind.u64.wrap (d + o1), e, f, g]) (by omega)).trans r0, (setRow_other w8 gV (w.heap.size + 1 + 1) (irow .u64 [IntKind.u64.wrap (o1 + o2), a, bb, c, IntKind.u64.wrap (d + o1), e, f, g]) (by omega)).trans r2, (setRow_other w8 gV gK (irow .u64 [IntKind.u64.wrap (o1 + o2), a, bb, c, IntKind.u64.wrap (d + o1), e, f, g]) (by omega)).trans rk, (setRow_other w8 gV gW (irow .u64 [IntKind.u64.wrap (o1 + o2), a, bb, c, IntKind.u64.wrap (d + o1), e, f, g]) (by omega)).trans rw, by rw [hn.out]; exact setRow_heap w8 gV _ (irow .u64 [IntKind.u64.wrap (o1 + o2), a, bb, c, IntKind.u64.wrap (d + o1), e, f, g]) _ _ rv, below_setRow hw (show w.heap.size ≤ gV by omega) (irow .u64 [IntKind.u64.wrap (o1 + o2), a, bb, c, IntKind.u64.wrap (d + o1), e, f, g])⟩, ?_⟩
      simp [intOf]; omega
    · obtain rfl : k = 80 := by omega
      have hd : decide ((80 : Int) < 80) = false := by decide
      have hfin : blk h b = sums h (rs h (wds b) 80).list 8 := rfl
      have he := list_len (rs h (wds b) 80)
      clear hok
      generalize (rs h (wds b) 80).list = e at *
      rw [← sums_zero h e hl] at r0
      go_wp2
      go_loopw [13] (fun i wr => ∃ k : Nat, k ≤ 8 ∧ i = .int .i64 k ∧ wr.heap[w.heap.size]? = some (.cells (irow .u64 (sums h e k)) 31 (0, 0)) ∧ wr.heap[w.heap.size + 1 + 1]? = some (.cells (irow .u64 (zr 8)) 31 (0, 0)) ∧ wr.heap[gV]? = some (.cells (irow .u64 e) 31 (0, 0)) ∧ Below w.heap.size w wr) (fun i _ => 8 - (intOf i).toNat)
      case atStart => exact ⟨0, by omega, rfl, r0, r2, rv, hw⟩
      case round =>
        clear r0 r2 rk rw rv hw hd
        obtain ⟨k, hk, rfl, r0, r2, rg, hw⟩ := hrel
        by_cases hlt : k < 8
        · have hd : decide ((k : Int) < 8) = true := by simp; omega
          have dh := irow_cell r0 (j := k) (by rw [sums_len]; exact hlt)
          have de := irow_cell rg (j := k) (by rw [he]; exact hlt)
          rw [sums_get _ _ _ hlt] at dh
          have hset := sums_set h e k hlt
          have hpl := sums_len h e k
          generalize h.getD k 0 = x at *
          generalize e.getD k 0 = y at *
          replace hset := hide hset
          go_wp2
          have k0 : ∀ p : Regrown, (grow (redrawn wr p.d) p.os).cell? ⟨w.heap.size, k, none⟩ = some (.int .u64 x) := fun p => cell_regrown (dh) p.d p.os
          have k1 : ∀ p : Regrown, (grow (redrawn wr p.d) p.os).cell? ⟨gV, k, none⟩ = some (.int .u64 y) := fun p => cell_regrown (de) p.d p.os
          refine wp_region_tail (C := fun w' => ∃ p : Regrown, w' = grow (redrawn wr p.d) p.os) 9 _ rfl rfl rfl (by kernel_rfl) (by kernel_rfl) (by kernel_rfl) (by kernel_rfl) ⟨⟨wr.drawn + 1, #[]⟩, by rw [grow_empty]; rfl⟩ ?_
          dsimp only [List.set, idle]
          go_big_quiet_step (fail)
          go_big_quiet_step (fail)
          go_big_quiet_step (fail)
          go_big_quiet_step (fail)
          go_big_quiet_step (fail)
          go_big_quiet_step (fail)
          go_big_quiet_step (fail)
          go_big_quiet_step (fail)
          go_big_quiet_step (fail)
          refine wpQuiet_idle rfl rfl rfl ?_
          rintro _ ⟨p, rfl⟩
          have hb := below_regrown wr p.d p.os
          generalize grow (redrawn wr p.d) p.os = w3 at *
          clear k0 k1
          replace r0 := keep hb r0
          replace r2 := keep hb r2
          replace rg := keep hb rg
          replace hw := Below.after hw hb
          clear hb

          have cz := irow_cell r0 (j := k) (by omega)
          have hf := row_frozen r0 k
          clear dh de
          go_wp2
          refine ⟨⟨k + 1, by omega, by go_num, by rw [← hset.out]; exact irow_set r0 k _, heap_other r2 (by omega), heap_other rg (by omega), hw.setCell (show w.heap.size ≤ w.heap.size by omega) _⟩, ?_⟩
          simp [intOf]; omega
        · obtain rfl : k = 8 := by omega
          have hd : decide ((8 : Int) < 8) = false := by decide
          have hq := sums_len h e 8
          rw [← hfin] at r0 hq
          go_wp2_with (first | (refine wpList_load_want rfl 31 _ rfl (w.heap.size) rfl 31 (irow .u64 (blk h b)) (0, 0) _ r0 Try.underlying31 rfl (info23 _ hq) ?_) | (refine wpList_store_row rfl 31 _ _ rfl (w.heap.size + 1 + 1) (irow .u64 (blk h b)) rfl rfl 31 _ r2 (info23 _ hq) (fit8 _ _ (zr_len 8) hq) (irow_one _ _) ?_) | fail)
          replace r2 := setRow_heap wr (w.heap.size + 1 + 1) _ (irow .u64 (blk h b)) _ _ r2
          replace hw := below_setRow hw (show w.heap.size ≤ w.heap.size + 1 + 1 by omega) (irow .u64 (blk h b))
          generalize wr.setRow (w.heap.size + 1 + 1) (irow .u64 (blk h b)) = w9 at *
          exact bodyPost_ret (v := .agg (irow .u64 (blk h b))) (results_cell_row Try.results16 _ _ (w.heap.size + 1 + 1) _ _ _ _ rfl r2 Try.underlying31 rfl (info23 _ hq)) rfl ⟨rfl, hw⟩

end Go.Proofs.Ytelildhjkknaiaa.Wi

