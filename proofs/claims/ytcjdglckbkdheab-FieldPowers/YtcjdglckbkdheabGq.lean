import Derived.Test.YtcjdglckbkdheabProg
import Derived.WalkKit
import Derived.WalkSpells
import Derived.WalkLawsBesides
import Derived.Lib.QuietBelow
import Derived.BigQuiet
import Derived.Test.YtcjdglckbkdheabKit
import Derived.Test.YtcjdglckbkdheabGp
namespace Go.Proofs.Ytcjdglckbkdheab
open Go.RowKit Go.Sort
attribute [local go_sem] setCell_drewN alloc_drewN


theorem and8 (x : Int) (h0 : 0 ≤ x) (h1 : x < 256) : bits .and .u8 x 1 = x % 2 := by
  rw [u8_and x 1 h0 h1 (by decide) (by decide)]
  have e : (1 : Int).toNat = 1 := by decide
  rw [e, nat_mask1]
  omega
theorem bit_at (z : Int) (j : Nat) (h0 : 0 ≤ z) (h1 : z < 256) : (bits .and .u8 (z / 2 ^ j) 1 == 1) = decide (z.toNat / 2 ^ j % 2 = 1) := by
  obtain ⟨m, rfl⟩ := Int.eq_ofNat_of_zero_le h0
  have e : (m : Int) / 2 ^ j = ((m / 2 ^ j : Nat) : Int) := by simp
  have hle := Nat.div_le_self m (2 ^ j)
  rw [e, Int.toNat_natCast]
  generalize m / 2 ^ j = q at *
  rw [and8 _ (by omega) (by omega)]
  by_cases h : q % 2 = 1
  · rw [decide_eq_true h, beq_iff_eq]; omega
  · rw [decide_eq_false h, beq_eq_false_iff_ne]; omega
theorem bit_iff (z : Int) (j : Nat) (h0 : 0 ≤ z) (h1 : z < 256) : (bits .and .u8 (z / 2 ^ j) 1 = 1) = (z.toNat / 2 ^ j % 2 = 1) := by
  have := bit_at z j h0 h1
  apply propext
  constructor
  · intro h; rw [h] at this; exact of_decide_eq_true this.symm
  · intro h; rw [decide_eq_true h] at this; exact beq_iff_eq.1 this
set_option maxHeartbeats 4000000 in
set_option maxRecDepth 10000 in
theorem power_walk {r o : Array Value} {x : Int} {bs : List Int} (h : NumOf r x) (g : NumOf o 1) (co : Gives 11 #[.int .u64 1] (.agg o)) (w : World) (ev : Value) (hB : Bys w ev bs) :
    Calls Try.prog 23 #[.agg r, ev] w fun e w' => e = .returned (.agg (bytesP r o bs bs.length)) ∧ Below w.heap.size w w' := by
  obtain ⟨ao, cap, rfl, hl, hc, hz⟩ := hB
  have hP := bytesP_spec h g hz
  generalize hlen : bs.length = len at *
  go_enter Try.func23, Try.ntmps23
  go_wp2_with (first | (refine wpList_load_want rfl 27 _ rfl (w.heap.size) rfl 27 r (0, 0) _ (hp2_0 w _ _) Try.underlying27 rfl h.info ?_) | (refine wpList_load_want rfl 27 _ rfl (w.heap.size + 1) rfl 27 #[.int .u64 0, .int .u64 0, .int .u64 0, .int .u64 0, .int .u64 0] (0, 0) _ (hp2_1 w _ _) Try.underlying27 rfl num_zero.info ?_) | fail)
  have rp0 : ((w.alloc (.cells r 27)).alloc (.cells #[.int .u64 0, .int .u64 0, .int .u64 0, .int .u64 0, .int .u64 0] 27)).heap[w.heap.size]? = some (.cells r 27 (0, 0)) := hp2_0 w _ _
  have rp1 : ((w.alloc (.cells r 27)).alloc (.cells #[.int .u64 0, .int .u64 0, .int .u64 0, .int .u64 0, .int .u64 0] 27)).heap[w.heap.size + 1]? = some (.cells #[.int .u64 0, .int .u64 0, .int .u64 0, .int .u64 0, .int .u64 0] 27 (0, 0)) := hp2_1 w _ _
  have hw : Below w.heap.size w ((w.alloc (.cells r 27)).alloc (.cells #[.int .u64 0, .int .u64 0, .int .u64 0, .int .u64 0, .int .u64 0] 27)) := (((Below.refl _ _).alloc (Nat.le_refl _) _).alloc (by simp) _)
  generalize ((w.alloc (.cells r 27)).alloc (.cells #[.int .u64 0, .int .u64 0, .int .u64 0, .int .u64 0, .int .u64 0] 27)) = w0 at *
  refine (co.at _).mono ?_
  rintro e w2 ⟨rfl, hb⟩
  replace rp0 := keep hb rp0
  replace rp1 := keep hb rp1
  replace hw := Below.after hw hb
  clear hb
  go_wp2_with (first | (refine wpList_store_row rfl 27 _ _ rfl (w2.heap.size) o rfl rfl 27 #[.int .u64 0, .int .u64 0, .int .u64 0, .int .u64 0, .int .u64 0] (hp1_0 w2 _) g.info (g.fits rfl) g.one ?_; rw [setRow_alloc_new _ _ _ _ _ _ (by simp)]) | fail | fail)
  have rl5 : (w2.alloc (.cells o 27)).heap[w2.heap.size]? = some (.cells o 27 (0, 0)) := hp1_0 w2 _
  have hb : Below w2.heap.size w2 (w2.alloc (.cells o 27)) := ((Below.refl _ _).alloc (Nat.le_refl _) _)
  generalize (w2.alloc (.cells o 27)) = wa at *
  have yg5_0 := lt_of_row rp0
  have yg5_1 := lt_of_row rp1
  have yg5 := hw.size
  replace rp0 := keep hb rp0
  replace rp1 := keep hb rp1
  replace hw := Below.after hw hb
  clear hb
  generalize w2.heap.size = g5 at *
  clear w2
  go_loopw [12] (fun i wr => ∃ k : Nat, k ≤ len ∧ i = .int .i64 k ∧ wr.heap[w.heap.size]? = some (.cells r 27 (0, 0)) ∧ wr.heap[w.heap.size + 1]? = some (.cells #[.int .u64 0, .int .u64 0, .int .u64 0, .int .u64 0, .int .u64 0] 27 (0, 0)) ∧ wr.heap[g5]? = some (.cells (bytesP r o bs k) 27 (0, 0)) ∧ Below w.heap.size w wr) (fun i _ => len - (intOf i).toNat)
  case atStart => exact ⟨0, by omega, rfl, rp0, rp1, rl5, hw⟩
  case round =>
    clear rp0 rp1 rl5 hw
    obtain ⟨k, hk, rfl, rp0, rp1, rl5, hw⟩ := hrel
    have hn := hP k hk
    by_cases hlt : k < len
    · have hd : decide ((k : Int) < (len : Int)) = true := by simp; omega
      obtain ⟨b, off, rfl, hb1, hb2⟩ := hc (len - 1 - k) (by omega)
      replace hb2 := (hw.cell hb1).trans hb2
      have hbat := bat_bd hz (k := k) (by omega)
      rw [show bs.getD (len - 1 - k) 0 = bat bs k by unfold bat; rw [hlen]] at hb2
      generalize hzz : bat bs k = z at *
      go_wp2
      go_loopw [23] (fun i wv => ∃ j : Nat, j ≤ 8 ∧ i = .int .i64 j ∧ wv.heap[w.heap.size]? = some (.cells r 27 (0, 0)) ∧ wv.heap[w.heap.size + 1]? = some (.cells #[.int .u64 0, .int .u64 0, .int .u64 0, .int .u64 0, .int .u64 0] 27 (0, 0)) ∧ wv.heap[g5]? = some (.cells (bitsP r (bytesP r o bs k) z.toNat j) 27 (0, 0)) ∧ Below w.heap.size w wv) (fun i _ => 8 - (intOf i).toNat)
      case atStart => exact ⟨0, by omega, rfl, rp0, rp1, rl5, hw⟩
      case round =>
        clear rp0 rp1 rl5 hw hb2
        obtain ⟨j, hj, rfl, rp0, rp1, rl5, hw⟩ := hrel
        have hbn := bitsP_spec h hn (z := z.toNat) (by omega) j hj
        by_cases hlj : j < 8
        · have hdj : decide ((j : Int) < 8) = true := by simp; omega
          obtain ⟨hs, cs⟩ := nextSq_spec hbn
          obtain ⟨hm, cm⟩ := nextMul_spec hs h
          have hstep : bitsP r (bytesP r o bs k) z.toNat (j + 1) = if z.toNat / 2 ^ (7 - j) % 2 = 1 then nextMul (nextSq (bitsP r (bytesP r o bs k) z.toNat j)) r else nextSq (bitsP r (bytesP r o bs k) z.toNat j) := rfl
          generalize bitsP r (bytesP r o bs k) z.toNat j = s0 at *
          generalize nextMul (nextSq s0) r = s2 at *
          generalize nextSq s0 = s1 at *
          have csw := fun on => a_swap hs hm on
          go_wp2_with (first | (refine wpList_load_want rfl 27 _ rfl (g5) rfl 27 s0 (0, 0) _ rl5 Try.underlying27 rfl hbn.info ?_) | fail)
          refine (cs.at _).mono ?_
          rintro e w1 ⟨rfl, hb⟩
          replace rp0 := keep hb rp0
          replace rp1 := keep hb rp1
          replace rl5 := keep hb rl5
          replace hw := Below.after hw hb
          clear hb
          go_wp2_with (first | (refine wpList_store_row rfl 27 _ _ rfl (g5) s1 rfl rfl 27 _ rl5 hs.info (hbn.size.trans hs.size.symm) hs.one ?_) | fail)
          replace rp0 := (setRow_other w1 g5 (w.heap.size) s1 (by omega)).trans rp0
          replace rp1 := (setRow_other w1 g5 (w.heap.size + 1) s1 (by omega)).trans rp1
          replace rl5 := setRow_heap w1 g5 _ s1 _ _ rl5
          replace hw := below_setRow hw (show w.heap.size ≤ g5 by omega) s1
          generalize w1.setRow g5 s1 = w2 at *
          have Hrp0 := keepr rp0
          have Hrl5 := keepr rl5
          refine wp_region_tail2 (C := fun w' => ∃ p : Regrown, w' = grow (redrawn w2 p.d) p.os) 14 13 _ _ rfl rfl (.tmp 28) 1 rfl 41 rfl rfl 27 5 40 rfl (by decide) (by decide) rfl rfl (by kernel_rfl) (by kernel_rfl) (by kernel_rfl) (by kernel_rfl) ⟨⟨w2.drawn + 1, #[]⟩, by rw [grow_empty]; rfl⟩ ?_
          dsimp only [List.set, idle]
          refine wpQuiet_load_row rfl 27 _ rfl (g5) rfl 27 s1 (0, 0) _ Hrl5.out Try.underlying27 rfl hs.info ?_
          simp only [Act.put, List.setIfInBounds_toArray, List.set_cons_succ, List.set_cons_zero]
          refine wpQuiet_load_row rfl 27 _ rfl (g5) rfl 27 s1 (0, 0) _ Hrl5.out Try.underlying27 rfl hs.info ?_
          simp only [Act.put, List.setIfInBounds_toArray, List.set_cons_succ, List.set_cons_zero]
          refine wpQuiet_load_row rfl 27 _ rfl (w.heap.size) rfl 27 r (0, 0) _ Hrp0.out Try.underlying27 rfl h.info ?_
          simp only [Act.put, List.setIfInBounds_toArray, List.set_cons_succ, List.set_cons_zero]
          go_big_quiet_step (exact cm.re)
          go_big_quiet_step (fail)
          go_big_quiet_step (fail)
          go_big_quiet_step (fail)
          go_big_quiet_step (fail)
          go_big_quiet_step (fail)
          go_big_quiet_step (fail)
          go_big_quiet_step (exact (csw _).re)
          go_big_quiet_step (fail)
          go_big_quiet_step (fail)
          go_big_quiet_step (fail)
          refine wpQuiet_idle rfl rfl rfl ?_
          rintro _ ⟨p, rfl⟩
          have hb := below_regrown w2 p.d p.os
          generalize grow (redrawn w2 p.d) p.os = w3 at *
          replace rp0 := keep hb rp0
          replace rp1 := keep hb rp1
          replace rl5 := keep hb rl5
          replace hw := Below.after hw hb
          clear hb Hrp0 Hrl5
          simp only [bit_at z (7 - j) hbat.1 hbat.2, bit_iff z (7 - j) hbat.1 hbat.2, decide_eq_true_eq]
          have hs3 : NumOf (bitsP r (bytesP r o bs k) z.toNat (j + 1)) _ := bitsP_spec h hn (z := z.toNat) (by omega) (j + 1) (by omega)
          rw [← hstep]
          generalize hs3e : bitsP r (bytesP r o bs k) z.toNat (j + 1) = s3 at *
          clear hstep
          refine ⟨_, run_store_op 27 _ _ rfl g5 s3 rfl rfl 27 _ rl5 hs3.info (hs.size.trans hs3.size.symm) hs3.one, ?_⟩
          simp only [Exit.inBlock, Exit.then]
          go_wp2
          go_roundw
          case rel => exact ⟨j + 1, by omega, by go_num, (setRow_other w3 g5 (w.heap.size) s3 (by omega)).trans rp0, (setRow_other w3 g5 (w.heap.size + 1) s3 (by omega)).trans rp1, by rw [hs3e]; exact setRow_heap w3 g5 _ s3 _ _ rl5, below_setRow hw (show w.heap.size ≤ g5 by omega) s3⟩
          case measure => simp [intOf]; omega
        · obtain rfl : j = 8 := by omega
          have hdj : decide ((8 : Int) < 8) = false := by decide
          go_wp2
          go_roundw
          case rel => exact ⟨k + 1, by omega, by go_num, rp0, rp1, by rw [show bytesP r o bs (k + 1) = bitsP r (bytesP r o bs k) z.toNat 8 by rw [← hzz]; rfl]; exact rl5, hw⟩
          case measure => simp [intOf]; omega
    · obtain rfl : k = len := by omega
      have hd : decide ((k : Int) < (k : Int)) = false := by simp
      go_wp2_with (first | (refine wpList_load_want rfl 27 _ rfl (g5) rfl 27 (bytesP r o bs k) (0, 0) _ rl5 Try.underlying27 rfl hn.info ?_) | (refine wpList_store_row rfl 27 _ _ rfl (w.heap.size + 1) (bytesP r o bs k) rfl rfl 27 _ rp1 hn.info (num_zero.size.trans hn.size.symm) hn.one ?_) | fail)
      exact bodyPost_ret (v := .agg (bytesP r o bs k)) (results_cell_row Try.results23 _ _ (w.heap.size + 1) _ (bytesP r o bs k) _ _ rfl (setRow_heap _ _ _ _ _ _ rp1) Try.underlying27 rfl hn.info) rfl ⟨rfl, below_setRow hw (by omega) _⟩
theorem a_power {r : Array Value} {x : Int} (h : NumOf r x) (bs : List Int) (hz : ∀ z ∈ bs, 0 ≤ z ∧ z < 256) : ∃ s, NumOf s (x ^ bval bs) ∧ ∀ (w : World) (ev : Value), Bys w ev bs → Calls Try.prog 23 #[.agg r, ev] w fun e w' => e = .returned (.agg s) ∧ Below w.heap.size w w' := by
  obtain ⟨o, g, co⟩ := a_small 1 (by decide) (by decide)
  refine ⟨bytesP r o bs bs.length, ?_, fun w ev hB => power_walk h g co w ev hB⟩
  rw [← topv_all]
  exact bytesP_spec h g hz _ (Nat.le_refl _)

end Go.Proofs.Ytcjdglckbkdheab

