import Derived.Test.YtcjdglckbkdheabProg
import Derived.WalkKit
import Derived.WalkSpells
import Derived.WalkLawsBesides
import Derived.Lib.QuietBelow
import Derived.BigQuiet
import Derived.Test.YtcjdglckbkdheabKit
import Derived.Test.YtcjdglckbkdheabGk
import Derived.Test.YtcjdglckbkdheabGq
import Derived.Test.YtcjdglckbkdheabGr
import Derived.Test.YtcjdglckbkdheabPm
import Derived.Test.YtcjdglckbkdheabKit7
import Derived.Test.YtcjdglckbkdheabAlloc3
import Derived.Test.YtcjdglckbkdheabLh
namespace Go.Proofs.Ytcjdglckbkdheab
open Go.RowKit Go.Sort
attribute [local go_sem] setCell_drewN alloc_drewN


set_option maxRecDepth 100000 in
set_option maxHeartbeats 4000000 in
theorem inverse_FT {kp kq : Array Value} {Np Nq A B : Int} (hkp : KeyOf kp Np) (hkq : KeyOf kq Nq) (heA : Np % 57896044618658097711785492504343953926634992332820282019728792003956564819968 = A) (heB : Nq % 57896044618658097711785492504343953926634992332820282019728792003956564819968 = B) (hA : A % prm ≠ 0) (hB : B % prm = 0) (w : World) :
    Calls Try.prog 6 #[.agg kp, .agg kq] w fun e w' => e = .returned (.bool true) ∧ Below w.heap.size w w' := by
  obtain ⟨xA, hAn, cA⟩ := a_from hkp
  obtain ⟨xB, hBn, cB⟩ := a_from hkq
  rw [heA] at hAn
  rw [heB] at hBn
  have hAB : A * B % prm = 0 := (mul_zero_iff A B).2 (.inr hB)
  have hkz : ∀ W, (Op.equalIn 10000 23 (.agg (kb (A % prm))) (.agg #[.int .u8 0, .int .u8 0, .int .u8 0, .int .u8 0, .int .u8 0, .int .u8 0, .int .u8 0, .int .u8 0, .int .u8 0, .int .u8 0, .int .u8 0, .int .u8 0, .int .u8 0, .int .u8 0, .int .u8 0, .int .u8 0, .int .u8 0, .int .u8 0, .int .u8 0, .int .u8 0, .int .u8 0, .int .u8 0, .int .u8 0, .int .u8 0, .int .u8 0, .int .u8 0, .int .u8 0, .int .u8 0, .int .u8 0, .int .u8 0, .int .u8 0, .int .u8 0])).run Try.prog W = .ok false W := fun W => kb_zero_f hA W
  have c7 := a_lives hkp
  have c9 := a_lives hkq
  obtain ⟨x11, h11, c11⟩ := a_invert hAn
  have c14 := a_isZero_f hAn hA
  have c15 := a_below hkp
  rw [heA] at c15
  obtain ⟨x16, h16, c16⟩ := a_mul hAn hBn
  have c17 := a_isZero_t h16 hAB
  have c18 := a_isZero_t hBn hB
  obtain ⟨x20, h20, c20⟩ := a_mul hAn h11
  obtain ⟨x22, h22, c22⟩ := a_small 1 (by decide) (by decide)
  have c24 := a_same_c h20 h22 (inv_mul hA)
  obtain ⟨x28, h28, c28⟩ := a_invert h11
  have c30 := a_same_c h28 hAn (inv_inv A)
  obtain ⟨x38, h38, c38⟩ := a_power hAn (((fillL 32).set 0 (237 - 2)).set 31 127) (by decide)
  rw [bval_p2] at h38
  have c40 := a_same_c h38 h11 rfl
  obtain ⟨x62, h62, c62⟩ := a_power hAn (((fillL 32).set 0 (237 - 0)).set 31 127) (by decide)
  rw [bval_p0] at h62
  have c64 := a_same_c h62 hAn (pow_P A)
  clear hA hAB hB
  go_enter Try.func6, Try.ntmps6
  go_wp2
  have rp0 : ((w.alloc (.cells kp 23)).alloc (.cells kq 23)).heap[w.heap.size]? = some (.cells kp 23 (0, 0)) := hp2_0 w _ _
  have rp1 : ((w.alloc (.cells kp 23)).alloc (.cells kq 23)).heap[w.heap.size + 1]? = some (.cells kq 23 (0, 0)) := hp2_1 w _ _
  have hw : Below w.heap.size w ((w.alloc (.cells kp 23)).alloc (.cells kq 23)) := (((Below.refl _ _).alloc (Nat.le_refl _) _).alloc (by simp) _)
  generalize ((w.alloc (.cells kp 23)).alloc (.cells kq 23)) = w0 at *
  refine wp_region_alloc_ex 4 6 [5, 6] (fun _ => .cells #[.int .u64 0, .int .u64 0, .int .u64 0, .int .u64 0, .int .u64 0] 27 (0, 0)) (by kernel_rfl) (by decide) (by decide) (by kernel_rfl) (by kernel_rfl) (by kernel_rfl) (by kernel_rfl) (by kernel_rfl) (by kernel_rfl) (by kernel_rfl) (by kernel_rfl) (by decide) (by decide) ?_ ?_
  · intro s l u
    rcases (by omega : s = 4 ∨ s = 5) with rfl | rfl <;> exact ⟨_, _, rfl, rfl, rfl, rfl, fun a w => by kernel_rfl⟩
  apply Exists.intro
  constructor
  · intro v1 hb
    have Hrp0 := keepr (keep hb rp0)
    have Hrp1 := keepr (keep hb rp1)
    skip
    clear hb; dsimp only [List.take]
    refine wpQuiet_load_row rfl 23 _ rfl (w.heap.size) rfl 23 kp (0, 0) _ Hrp0.out Try.underlying23 rfl hkp.info ?_
    simp only [Act.put, List.setIfInBounds_toArray, List.set_cons_succ, List.set_cons_zero]
    go_big_quiet_step (exact cA.re)
    refine wpQuiet_load_row rfl 23 _ rfl (w.heap.size + 1) rfl 23 kq (0, 0) _ Hrp1.out Try.underlying23 rfl hkq.info ?_
    simp only [Act.put, List.setIfInBounds_toArray, List.set_cons_succ, List.set_cons_zero]
    go_big_quiet_step (exact cB.re)
    refine wpQuiet_nil ?_
    rfl
  intro w4 g hb hg hd
  obtain ⟨lg5, rg5⟩ := hg 5 (by simp)
  replace rg5 : w4.heap[g 5]? = some (.cells #[.int .u64 0, .int .u64 0, .int .u64 0, .int .u64 0, .int .u64 0] 27 (0, 0)) := rg5
  obtain ⟨lg6, rg6⟩ := hg 6 (by simp)
  replace rg6 : w4.heap[g 6]? = some (.cells #[.int .u64 0, .int .u64 0, .int .u64 0, .int .u64 0, .int .u64 0] 27 (0, 0)) := rg6
  simp only [List.drop, puts, ptrs, List.map, List.foldl, Act.put, List.setIfInBounds_toArray, List.set_cons_succ, List.set_cons_zero]
  have d6_5 := hd 6 (by simp) 5 (by simp) (by decide)
  clear hg hd
  generalize g 5 = ga at *
  generalize g 6 = gb at *
  have lrp0 := lt_of_row rp0
  have lrp1 := lt_of_row rp1
  have hs := hw.size
  replace rp0 := keep hb rp0
  replace rp1 := keep hb rp1
  replace hw := Below.after hw hb
  clear hb
  refine wpList_store_row rfl 27 _ _ rfl ga xA rfl rfl 27 _ rg5 hAn.info (hAn.fits rfl) hAn.one ?_
  simp only [Act.put]
  replace rp0 := (setRow_other w4 ga (w.heap.size) xA (by omega)).trans rp0
  replace rp1 := (setRow_other w4 ga (w.heap.size + 1) xA (by omega)).trans rp1
  replace rg5 := setRow_heap w4 ga _ xA _ _ rg5
  replace rg6 := (setRow_other w4 ga gb xA (by omega)).trans rg6
  replace hw := below_setRow hw (show w.heap.size ≤ ga by omega) xA
  generalize w4.setRow ga xA = w5 at *
  refine wpList_store_row rfl 27 _ _ rfl gb xB rfl rfl 27 _ rg6 hBn.info (hBn.fits rfl) hBn.one ?_
  simp only [Act.put]
  replace rp0 := (setRow_other w5 gb (w.heap.size) xB (by omega)).trans rp0
  replace rp1 := (setRow_other w5 gb (w.heap.size + 1) xB (by omega)).trans rp1
  replace rg5 := (setRow_other w5 gb ga xB (by omega)).trans rg5
  replace rg6 := setRow_heap w5 gb _ xB _ _ rg6
  replace hw := below_setRow hw (show w.heap.size ≤ gb by omega) xB
  generalize w5.setRow gb xB = w6 at *
  have yga_0 : w.heap.size < ga := by omega
  have yga_1 : w.heap.size + 1 < ga := by omega
  have yga : w.heap.size ≤ ga := by omega
  have ygb_0 : w.heap.size < gb := by omega
  have ygb_1 : w.heap.size + 1 < gb := by omega
  have ygb : w.heap.size ≤ gb := by omega
  clear hs lrp0 lrp1 lg5 lg6
  go_wp2_with (first | (refine wpList_load_want rfl 23 _ rfl (w.heap.size) rfl 23 kp (0, 0) _ rp0 Try.underlying23 rfl hkp.info ?_) | (refine wpList_load_want rfl 23 _ rfl (w.heap.size + 1) rfl 23 kq (0, 0) _ rp1 Try.underlying23 rfl hkq.info ?_) | (refine wpList_load_want rfl 27 _ rfl (ga) rfl 27 xA (0, 0) _ rg5 Try.underlying27 rfl hAn.info ?_) | (refine wpList_load_want rfl 27 _ rfl (gb) rfl 27 xB (0, 0) _ rg6 Try.underlying27 rfl hBn.info ?_) | fail)
  refine (c7.at _).mono ?_
  rintro e w8 ⟨rfl, hb⟩
  replace rp0 := keep hb rp0
  replace rp1 := keep hb rp1
  replace rg5 := keep hb rg5
  replace rg6 := keep hb rg6
  replace hw := Below.after hw hb
  clear hb
  go_wp2_with (first | (refine wpList_load_want rfl 23 _ rfl (w.heap.size) rfl 23 kp (0, 0) _ rp0 Try.underlying23 rfl hkp.info ?_) | (refine wpList_load_want rfl 23 _ rfl (w.heap.size + 1) rfl 23 kq (0, 0) _ rp1 Try.underlying23 rfl hkq.info ?_) | (refine wpList_load_want rfl 27 _ rfl (ga) rfl 27 xA (0, 0) _ rg5 Try.underlying27 rfl hAn.info ?_) | (refine wpList_load_want rfl 27 _ rfl (gb) rfl 27 xB (0, 0) _ rg6 Try.underlying27 rfl hBn.info ?_) | fail)
  refine (c9.at _).mono ?_
  rintro e w10 ⟨rfl, hb⟩
  replace rp0 := keep hb rp0
  replace rp1 := keep hb rp1
  replace rg5 := keep hb rg5
  replace rg6 := keep hb rg6
  replace hw := Below.after hw hb
  clear hb
  go_wp2_with (first | (refine wpList_load_want rfl 23 _ rfl (w.heap.size) rfl 23 kp (0, 0) _ rp0 Try.underlying23 rfl hkp.info ?_) | (refine wpList_load_want rfl 23 _ rfl (w.heap.size + 1) rfl 23 kq (0, 0) _ rp1 Try.underlying23 rfl hkq.info ?_) | (refine wpList_load_want rfl 27 _ rfl (ga) rfl 27 xA (0, 0) _ rg5 Try.underlying27 rfl hAn.info ?_) | (refine wpList_load_want rfl 27 _ rfl (gb) rfl 27 xB (0, 0) _ rg6 Try.underlying27 rfl hBn.info ?_) | fail)
  refine (c11.at _).mono ?_
  rintro e w12 ⟨rfl, hb⟩
  replace rp0 := keep hb rp0
  replace rp1 := keep hb rp1
  replace rg5 := keep hb rg5
  replace rg6 := keep hb rg6
  replace hw := Below.after hw hb
  clear hb
  go_wp2_with (first | (refine wpList_store_row rfl 27 _ _ rfl (w12.heap.size) x11 rfl rfl 27 #[.int .u64 0, .int .u64 0, .int .u64 0, .int .u64 0, .int .u64 0] (hp1_0 w12 _) h11.info (h11.fits rfl) h11.one ?_; rw [setRow_alloc_new _ _ _ _ _ _ (by simp)]) | fail | fail)
  have rl7 : (w12.alloc (.cells x11 27)).heap[w12.heap.size]? = some (.cells x11 27 (0, 0)) := hp1_0 w12 _
  have hb : Below w12.heap.size w12 (w12.alloc (.cells x11 27)) := ((Below.refl _ _).alloc (Nat.le_refl _) _)
  generalize (w12.alloc (.cells x11 27)) = wi at *
  have ygi_0 := lt_of_row rp0
  have ygi_1 := lt_of_row rp1
  have ygi_2 := lt_of_row rg5
  have ygi_3 := lt_of_row rg6
  have ygi := hw.size
  replace rp0 := keep hb rp0
  replace rp1 := keep hb rp1
  replace rg5 := keep hb rg5
  replace rg6 := keep hb rg6
  replace hw := Below.after hw hb
  clear hb
  generalize w12.heap.size = gi at *
  clear w12
  have Hrp0 := keepr rp0
  have Hrp1 := keepr rp1
  have Hrg5 := keepr rg5
  have Hrg6 := keepr rg6
  have Hrl7 := keepr rl7
  refine wp_region_quiet_below (by kernel_rfl) (by kernel_rfl) ?_
  refine wpQuiet_load_row rfl 27 _ rfl (ga) rfl 27 xA (0, 0) _ Hrg5.out Try.underlying27 rfl hAn.info ?_
  simp only [Act.put, List.setIfInBounds_toArray, List.set_cons_succ, List.set_cons_zero]
  go_big_quiet_step (exact c14.re)
  refine wpQuiet_load_row rfl 23 _ rfl (w.heap.size) rfl 23 kp (0, 0) _ Hrp0.out Try.underlying23 rfl hkp.info ?_
  simp only [Act.put, List.setIfInBounds_toArray, List.set_cons_succ, List.set_cons_zero]
  go_big_quiet_step (exact c15.re)
  go_big_quiet_step (fail)
  go_big_quiet_step (fail)
  go_big_quiet_step (fail)
  go_big_quiet_step (fail)
  refine wpQuiet_load_want rfl 27 _ rfl (ga) rfl 27 xA (0, 0) _ Hrg5.out Try.underlying27 rfl hAn.info ?_
  simp only [Act.put, List.setIfInBounds_toArray, List.set_cons_succ, List.set_cons_zero]
  refine wpQuiet_load_want rfl 27 _ rfl (gb) rfl 27 xB (0, 0) _ Hrg6.out Try.underlying27 rfl hBn.info ?_
  simp only [Act.put, List.setIfInBounds_toArray, List.set_cons_succ, List.set_cons_zero]
  go_big_quiet_step (exact c16.re)
  go_big_quiet_step (exact c17.re)
  refine wpQuiet_load_want rfl 27 _ rfl (ga) rfl 27 xA (0, 0) _ Hrg5.out Try.underlying27 rfl hAn.info ?_
  simp only [Act.put, List.setIfInBounds_toArray, List.set_cons_succ, List.set_cons_zero]
  go_big_quiet_step (exact c14.re)
  go_big_quiet_step (fail)
  refine wpQuiet_load_want rfl 27 _ rfl (gb) rfl 27 xB (0, 0) _ Hrg6.out Try.underlying27 rfl hBn.info ?_
  simp only [Act.put, List.setIfInBounds_toArray, List.set_cons_succ, List.set_cons_zero]
  go_big_quiet_step (exact c18.re)
  go_big_quiet_step (fail)
  go_big_quiet_step (fail)
  go_big_quiet_step (fail)
  refine wpQuiet_nil ?_
  rintro _ ⟨p, rfl⟩
  have hb := below_regrown wi p.d p.os
  generalize grow (redrawn wi p.d) p.os = w13 at *
  replace rp0 := keep hb rp0
  replace rp1 := keep hb rp1
  replace rg5 := keep hb rg5
  replace rg6 := keep hb rg6
  replace rl7 := keep hb rl7
  replace hw := Below.after hw hb
  clear hb
  clear Hrp0 Hrp1 Hrg5 Hrg6 Hrl7
  go_wp2_with (first | (refine wpList_load_want rfl 23 _ rfl (w.heap.size) rfl 23 kp (0, 0) _ rp0 Try.underlying23 rfl hkp.info ?_) | (refine wpList_load_want rfl 23 _ rfl (w.heap.size + 1) rfl 23 kq (0, 0) _ rp1 Try.underlying23 rfl hkq.info ?_) | (refine wpList_load_want rfl 27 _ rfl (ga) rfl 27 xA (0, 0) _ rg5 Try.underlying27 rfl hAn.info ?_) | (refine wpList_load_want rfl 27 _ rfl (gb) rfl 27 xB (0, 0) _ rg6 Try.underlying27 rfl hBn.info ?_) | (refine wpList_load_want rfl 27 _ rfl (gi) rfl 27 x11 (0, 0) _ rl7 Try.underlying27 rfl h11.info ?_) | fail)
  refine (c14.at _).mono ?_
  rintro e w19 ⟨rfl, hb⟩
  replace rp0 := keep hb rp0
  replace rp1 := keep hb rp1
  replace rg5 := keep hb rg5
  replace rg6 := keep hb rg6
  replace rl7 := keep hb rl7
  replace hw := Below.after hw hb
  clear hb
  go_wp2_with (first | (refine wpList_load_want rfl 23 _ rfl (w.heap.size) rfl 23 kp (0, 0) _ rp0 Try.underlying23 rfl hkp.info ?_) | (refine wpList_load_want rfl 23 _ rfl (w.heap.size + 1) rfl 23 kq (0, 0) _ rp1 Try.underlying23 rfl hkq.info ?_) | (refine wpList_load_want rfl 27 _ rfl (ga) rfl 27 xA (0, 0) _ rg5 Try.underlying27 rfl hAn.info ?_) | (refine wpList_load_want rfl 27 _ rfl (gb) rfl 27 xB (0, 0) _ rg6 Try.underlying27 rfl hBn.info ?_) | (refine wpList_load_want rfl 27 _ rfl (gi) rfl 27 x11 (0, 0) _ rl7 Try.underlying27 rfl h11.info ?_) | fail)
  refine (c20.at _).mono ?_
  rintro e w21 ⟨rfl, hb⟩
  replace rp0 := keep hb rp0
  replace rp1 := keep hb rp1
  replace rg5 := keep hb rg5
  replace rg6 := keep hb rg6
  replace rl7 := keep hb rl7
  replace hw := Below.after hw hb
  clear hb
  go_wp2_with (first | (refine wpList_load_want rfl 23 _ rfl (w.heap.size) rfl 23 kp (0, 0) _ rp0 Try.underlying23 rfl hkp.info ?_) | (refine wpList_load_want rfl 23 _ rfl (w.heap.size + 1) rfl 23 kq (0, 0) _ rp1 Try.underlying23 rfl hkq.info ?_) | (refine wpList_load_want rfl 27 _ rfl (ga) rfl 27 xA (0, 0) _ rg5 Try.underlying27 rfl hAn.info ?_) | (refine wpList_load_want rfl 27 _ rfl (gb) rfl 27 xB (0, 0) _ rg6 Try.underlying27 rfl hBn.info ?_) | (refine wpList_load_want rfl 27 _ rfl (gi) rfl 27 x11 (0, 0) _ rl7 Try.underlying27 rfl h11.info ?_) | fail)
  refine (c22.at _).mono ?_
  rintro e w23 ⟨rfl, hb⟩
  replace rp0 := keep hb rp0
  replace rp1 := keep hb rp1
  replace rg5 := keep hb rg5
  replace rg6 := keep hb rg6
  replace rl7 := keep hb rl7
  replace hw := Below.after hw hb
  clear hb
  go_wp2_with (first | (refine wpList_load_want rfl 23 _ rfl (w.heap.size) rfl 23 kp (0, 0) _ rp0 Try.underlying23 rfl hkp.info ?_) | (refine wpList_load_want rfl 23 _ rfl (w.heap.size + 1) rfl 23 kq (0, 0) _ rp1 Try.underlying23 rfl hkq.info ?_) | (refine wpList_load_want rfl 27 _ rfl (ga) rfl 27 xA (0, 0) _ rg5 Try.underlying27 rfl hAn.info ?_) | (refine wpList_load_want rfl 27 _ rfl (gb) rfl 27 xB (0, 0) _ rg6 Try.underlying27 rfl hBn.info ?_) | (refine wpList_load_want rfl 27 _ rfl (gi) rfl 27 x11 (0, 0) _ rl7 Try.underlying27 rfl h11.info ?_) | fail)
  refine (c24.at _).mono ?_
  rintro e w25 ⟨rfl, hb⟩
  replace rp0 := keep hb rp0
  replace rp1 := keep hb rp1
  replace rg5 := keep hb rg5
  replace rg6 := keep hb rg6
  replace rl7 := keep hb rl7
  replace hw := Below.after hw hb
  clear hb
  go_wp2
  refine wp_region_any (by kernel_rfl) ?_
  have hb : Below w25.heap.size w25 { w25 with drawn := w25.drawn + 1 } := ⟨rfl, rfl, rfl, Nat.le_refl _, fun _ _ => rfl⟩
  generalize ({ w25 with drawn := w25.drawn + 1 } : World) = w26 at *
  replace rp0 := keep hb rp0
  replace rp1 := keep hb rp1
  replace rg5 := keep hb rg5
  replace rg6 := keep hb rg6
  replace rl7 := keep hb rl7
  replace hw := Below.after hw hb
  clear hb
  apply cut_at 14 #[true, true, true, true, true, false, false, false, false, false, false, false, false, false, false, false, false, false, false] (fun W => W.heap[w.heap.size]? = some (.cells kp 23 (0, 0)) ∧ W.heap[w.heap.size + 1]? = some (.cells kq 23 (0, 0)) ∧ W.heap[ga]? = some (.cells xA 27 (0, 0)) ∧ W.heap[gb]? = some (.cells xB 27 (0, 0)) ∧ W.heap[gi]? = some (.cells x11 27 (0, 0)) ∧ Below w.heap.size w W)
  · intro key
    refine wpAny_ready (rs := [0, 2]) (fuel := 18) (by kernel_rfl) (by simp) (AllReady.cons rfl (fun K' hK => ?_) (AllReady.cons rfl (fun K' hK => ?_) AllReady.nil))
    · skip
      rw [if_pos (by kernel_rfl)]
      simp only [List.getElem_toArray, List.getElem_cons_zero]
      refine wp_load_row 27 _ rfl (gi) rfl 27 x11 (0, 0) _ rl7 Try.underlying27 rfl h11.info (hK _ _ ?_)
      simp only [Act.put, List.setIfInBounds_toArray, List.set_cons_succ, List.set_cons_zero]
      clear hK
      refine wpAny_ready (rs := [1, 2]) (fuel := 17) (by kernel_rfl) (by simp) (AllReady.cons rfl (fun K' hK => ?_) (AllReady.cons rfl (fun K' hK => ?_) AllReady.nil))
      · skip
        rw [if_pos (by kernel_rfl)]
        simp only [List.getElem_toArray, List.getElem_cons_succ, List.getElem_cons_zero]
        refine wp_call_op (f := 18) (args := #[.agg x11]) (by kernel_rfl) (c28.at _) (fun w27 hb => hK _ _ ?_)
        simp only [Act.put, List.setIfInBounds_toArray, List.set_cons_succ, List.set_cons_zero]
        clear hK
        replace rp0 := keep hb rp0
        replace rp1 := keep hb rp1
        replace rg5 := keep hb rg5
        replace rg6 := keep hb rg6
        replace rl7 := keep hb rl7
        replace hw := Below.after hw hb
        clear hb
        refine wpAny_ready (rs := [2]) (fuel := 16) (by kernel_rfl) (by simp) (AllReady.cons rfl (fun K' hK => ?_) AllReady.nil)
        rw [if_pos (by kernel_rfl)]
        simp only [List.getElem_toArray, List.getElem_cons_succ, List.getElem_cons_zero]
        refine wp_load_row 27 _ rfl (ga) rfl 27 xA (0, 0) _ rg5 Try.underlying27 rfl hAn.info (hK _ _ ?_)
        simp only [Act.put, List.setIfInBounds_toArray, List.set_cons_succ, List.set_cons_zero]
        clear hK
        refine wpAny_ready (rs := [3]) (fuel := 15) (by kernel_rfl) (by simp) (AllReady.cons rfl (fun K' hK => ?_) AllReady.nil)
        rw [if_pos (by kernel_rfl)]
        simp only [List.getElem_toArray, List.getElem_cons_succ, List.getElem_cons_zero]
        refine wp_call_op (f := 22) (args := #[.agg x28, .agg xA]) (by kernel_rfl) (c30.at _) (fun w29 hb => hK _ _ ?_)
        simp only [Act.put, List.setIfInBounds_toArray, List.set_cons_succ, List.set_cons_zero]
        clear hK
        replace rp0 := keep hb rp0
        replace rp1 := keep hb rp1
        replace rg5 := keep hb rg5
        replace rg6 := keep hb rg6
        replace rl7 := keep hb rl7
        replace hw := Below.after hw hb
        clear hb
        refine wpAny_ready (rs := [4]) (fuel := 14) (by kernel_rfl) (by simp) (AllReady.cons rfl (fun K' hK => ?_) AllReady.nil)
        rw [if_pos (by kernel_rfl)]
        simp only [List.getElem_toArray, List.getElem_cons_succ, List.getElem_cons_zero]
        refine wp_pure_op (.bool true) (by kernel_rfl) (hK _ _ ?_)
        simp only [Act.put, List.setIfInBounds_toArray, List.set_cons_succ, List.set_cons_zero]
        clear hK
        exact cut_to (key _ ⟨rp0, rp1, rg5, rg6, rl7, hw⟩) (by kernel_rfl)
      · skip
        rw [if_pos (by kernel_rfl)]
        simp only [List.getElem_toArray, List.getElem_cons_succ, List.getElem_cons_zero]
        refine wp_load_row 27 _ rfl (ga) rfl 27 xA (0, 0) _ rg5 Try.underlying27 rfl hAn.info (hK _ _ ?_)
        simp only [Act.put, List.setIfInBounds_toArray, List.set_cons_succ, List.set_cons_zero]
        clear hK
        refine wpAny_ready (rs := [1]) (fuel := 16) (by kernel_rfl) (by simp) (AllReady.cons rfl (fun K' hK => ?_) AllReady.nil)
        rw [if_pos (by kernel_rfl)]
        simp only [List.getElem_toArray, List.getElem_cons_succ, List.getElem_cons_zero]
        refine wp_call_op (f := 18) (args := #[.agg x11]) (by kernel_rfl) (c28.at _) (fun w31 hb => hK _ _ ?_)
        simp only [Act.put, List.setIfInBounds_toArray, List.set_cons_succ, List.set_cons_zero]
        clear hK
        replace rp0 := keep hb rp0
        replace rp1 := keep hb rp1
        replace rg5 := keep hb rg5
        replace rg6 := keep hb rg6
        replace rl7 := keep hb rl7
        replace hw := Below.after hw hb
        clear hb
        refine wpAny_ready (rs := [3]) (fuel := 15) (by kernel_rfl) (by simp) (AllReady.cons rfl (fun K' hK => ?_) AllReady.nil)
        rw [if_pos (by kernel_rfl)]
        simp only [List.getElem_toArray, List.getElem_cons_succ, List.getElem_cons_zero]
        refine wp_call_op (f := 22) (args := #[.agg x28, .agg xA]) (by kernel_rfl) (c30.at _) (fun w32 hb => hK _ _ ?_)
        simp only [Act.put, List.setIfInBounds_toArray, List.set_cons_succ, List.set_cons_zero]
        clear hK
        replace rp0 := keep hb rp0
        replace rp1 := keep hb rp1
        replace rg5 := keep hb rg5
        replace rg6 := keep hb rg6
        replace rl7 := keep hb rl7
        replace hw := Below.after hw hb
        clear hb
        refine wpAny_ready (rs := [4]) (fuel := 14) (by kernel_rfl) (by simp) (AllReady.cons rfl (fun K' hK => ?_) AllReady.nil)
        rw [if_pos (by kernel_rfl)]
        simp only [List.getElem_toArray, List.getElem_cons_succ, List.getElem_cons_zero]
        refine wp_pure_op (.bool true) (by kernel_rfl) (hK _ _ ?_)
        simp only [Act.put, List.setIfInBounds_toArray, List.set_cons_succ, List.set_cons_zero]
        clear hK
        exact cut_to (key _ ⟨rp0, rp1, rg5, rg6, rl7, hw⟩) (by kernel_rfl)
    · skip
      rw [if_pos (by kernel_rfl)]
      simp only [List.getElem_toArray, List.getElem_cons_succ, List.getElem_cons_zero]
      refine wp_load_row 27 _ rfl (ga) rfl 27 xA (0, 0) _ rg5 Try.underlying27 rfl hAn.info (hK _ _ ?_)
      simp only [Act.put, List.setIfInBounds_toArray, List.set_cons_succ, List.set_cons_zero]
      clear hK
      refine wpAny_ready (rs := [0]) (fuel := 17) (by kernel_rfl) (by simp) (AllReady.cons rfl (fun K' hK => ?_) AllReady.nil)
      rw [if_pos (by kernel_rfl)]
      simp only [List.getElem_toArray, List.getElem_cons_zero]
      refine wp_load_row 27 _ rfl (gi) rfl 27 x11 (0, 0) _ rl7 Try.underlying27 rfl h11.info (hK _ _ ?_)
      simp only [Act.put, List.setIfInBounds_toArray, List.set_cons_succ, List.set_cons_zero]
      clear hK
      refine wpAny_ready (rs := [1]) (fuel := 16) (by kernel_rfl) (by simp) (AllReady.cons rfl (fun K' hK => ?_) AllReady.nil)
      rw [if_pos (by kernel_rfl)]
      simp only [List.getElem_toArray, List.getElem_cons_succ, List.getElem_cons_zero]
      refine wp_call_op (f := 18) (args := #[.agg x11]) (by kernel_rfl) (c28.at _) (fun w33 hb => hK _ _ ?_)
      simp only [Act.put, List.setIfInBounds_toArray, List.set_cons_succ, List.set_cons_zero]
      clear hK
      replace rp0 := keep hb rp0
      replace rp1 := keep hb rp1
      replace rg5 := keep hb rg5
      replace rg6 := keep hb rg6
      replace rl7 := keep hb rl7
      replace hw := Below.after hw hb
      clear hb
      refine wpAny_ready (rs := [3]) (fuel := 15) (by kernel_rfl) (by simp) (AllReady.cons rfl (fun K' hK => ?_) AllReady.nil)
      rw [if_pos (by kernel_rfl)]
      simp only [List.getElem_toArray, List.getElem_cons_succ, List.getElem_cons_zero]
      refine wp_call_op (f := 22) (args := #[.agg x28, .agg xA]) (by kernel_rfl) (c30.at _) (fun w34 hb => hK _ _ ?_)
      simp only [Act.put, List.setIfInBounds_toArray, List.set_cons_succ, List.set_cons_zero]
      clear hK
      replace rp0 := keep hb rp0
      replace rp1 := keep hb rp1
      replace rg5 := keep hb rg5
      replace rg6 := keep hb rg6
      replace rl7 := keep hb rl7
      replace hw := Below.after hw hb
      clear hb
      refine wpAny_ready (rs := [4]) (fuel := 14) (by kernel_rfl) (by simp) (AllReady.cons rfl (fun K' hK => ?_) AllReady.nil)
      rw [if_pos (by kernel_rfl)]
      simp only [List.getElem_toArray, List.getElem_cons_succ, List.getElem_cons_zero]
      refine wp_pure_op (.bool true) (by kernel_rfl) (hK _ _ ?_)
      simp only [Act.put, List.setIfInBounds_toArray, List.set_cons_succ, List.set_cons_zero]
      clear hK
      exact cut_to (key _ ⟨rp0, rp1, rg5, rg6, rl7, hw⟩) (by kernel_rfl)
  · clear rp0 rp1 rg5 rg6 rl7 hw
    intro w35 ⟨rp0, rp1, rg5, rg6, rl7, hw⟩
    apply cut_at1 7 #[true, true, true, true, true, true, true, true, true, true, true, true, false, false, false, false, false, false, false] (fun _ W => W.heap[w.heap.size]? = some (.cells kp 23 (0, 0)) ∧ W.heap[w.heap.size + 1]? = some (.cells kq 23 (0, 0)) ∧ W.heap[ga]? = some (.cells xA 27 (0, 0)) ∧ W.heap[gb]? = some (.cells xB 27 (0, 0)) ∧ W.heap[gi]? = some (.cells x11 27 (0, 0)) ∧ Below w.heap.size w W)
    · intro key
      refine wpAny_ready (rs := [5, 6, 8]) (fuel := 13) (by kernel_rfl) (by simp) (AllReady.cons rfl (fun K' hK => ?_) (AllReady.cons rfl (fun K' hK => ?_) (AllReady.cons rfl (fun K' hK => ?_) AllReady.nil)))
      · skip
        rw [if_pos (by kernel_rfl)]
        simp only [List.getElem_toArray, List.getElem_cons_succ, List.getElem_cons_zero]
        refine wp_load_row 27 _ rfl (ga) rfl 27 xA (0, 0) _ rg5 Try.underlying27 rfl hAn.info (hK _ _ ?_)
        simp only [Act.put, List.setIfInBounds_toArray, List.set_cons_succ, List.set_cons_zero]
        clear hK
        refine wpAny_ready (rs := [6, 8]) (fuel := 12) (by kernel_rfl) (by simp) (AllReady.cons rfl (fun K' hK => ?_) (AllReady.cons rfl (fun K' hK => ?_) AllReady.nil))
        · skip
          rw [if_pos (by kernel_rfl)]
          simp only [List.getElem_toArray, List.getElem_cons_succ, List.getElem_cons_zero]
          refine wp_call_ex (f := 24) (args := #[.int .u8 2]) (by kernel_rfl) (prime_walk 2 (by decide) (by decide) w35) (fun v36 w36 ⟨hBv36, hb⟩ => hK _ _ ?_)
          simp only [Act.put, List.setIfInBounds_toArray, List.set_cons_succ, List.set_cons_zero]
          clear hK
          replace rp0 := keep hb rp0
          replace rp1 := keep hb rp1
          replace rg5 := keep hb rg5
          replace rg6 := keep hb rg6
          replace rl7 := keep hb rl7
          replace hw := Below.after hw hb
          clear hb
          refine wpAny_ready (rs := [7, 8]) (fuel := 11) (by kernel_rfl) (by simp) (AllReady.cons rfl (fun K' hK => ?_) (AllReady.cons rfl (fun K' hK => ?_) AllReady.nil))
          · skip
            rw [if_pos (by kernel_rfl)]
            simp only [List.getElem_toArray, List.getElem_cons_succ, List.getElem_cons_zero]
            refine wp_call_op (f := 23) (args := #[.agg xA, v36]) (by kernel_rfl) (c38 _ _ hBv36) (fun w37 hb => hK _ _ ?_)
            simp only [Act.put, List.setIfInBounds_toArray, List.set_cons_succ, List.set_cons_zero]
            clear hK
            replace rp0 := keep hb rp0
            replace rp1 := keep hb rp1
            replace rg5 := keep hb rg5
            replace rg6 := keep hb rg6
            replace rl7 := keep hb rl7
            replace hw := Below.after hw hb
            replace hBv36 := hBv36.keep hb
            clear hb
            refine wpAny_ready (rs := [8]) (fuel := 10) (by kernel_rfl) (by simp) (AllReady.cons rfl (fun K' hK => ?_) AllReady.nil)
            rw [if_pos (by kernel_rfl)]
            simp only [List.getElem_toArray, List.getElem_cons_succ, List.getElem_cons_zero]
            refine wp_load_row 27 _ rfl (gi) rfl 27 x11 (0, 0) _ rl7 Try.underlying27 rfl h11.info (hK _ _ ?_)
            simp only [Act.put, List.setIfInBounds_toArray, List.set_cons_succ, List.set_cons_zero]
            clear hK
            refine wpAny_ready (rs := [9]) (fuel := 9) (by kernel_rfl) (by simp) (AllReady.cons rfl (fun K' hK => ?_) AllReady.nil)
            rw [if_pos (by kernel_rfl)]
            simp only [List.getElem_toArray, List.getElem_cons_succ, List.getElem_cons_zero]
            refine wp_call_op (f := 22) (args := #[.agg x38, .agg x11]) (by kernel_rfl) (c40.at _) (fun w39 hb => hK _ _ ?_)
            simp only [Act.put, List.setIfInBounds_toArray, List.set_cons_succ, List.set_cons_zero]
            clear hK
            replace rp0 := keep hb rp0
            replace rp1 := keep hb rp1
            replace rg5 := keep hb rg5
            replace rg6 := keep hb rg6
            replace rl7 := keep hb rl7
            replace hw := Below.after hw hb
            replace hBv36 := hBv36.keep hb
            clear hb
            refine wpAny_ready (rs := [10]) (fuel := 8) (by kernel_rfl) (by simp) (AllReady.cons rfl (fun K' hK => ?_) AllReady.nil)
            rw [if_pos (by kernel_rfl)]
            simp only [List.getElem_toArray, List.getElem_cons_succ, List.getElem_cons_zero]
            refine wp_pure_op (.bool true) (by kernel_rfl) (hK _ _ ?_)
            simp only [Act.put, List.setIfInBounds_toArray, List.set_cons_succ, List.set_cons_zero]
            clear hK
            refine wpAny_ready (rs := [11]) (fuel := 7) (by kernel_rfl) (by simp) (AllReady.cons rfl (fun K' hK => ?_) AllReady.nil)
            rw [if_pos (by kernel_rfl)]
            simp only [List.getElem_toArray, List.getElem_cons_succ, List.getElem_cons_zero]
            refine wp_pure_op (.bool true) (by kernel_rfl) (hK _ _ ?_)
            simp only [Act.put, List.setIfInBounds_toArray, List.set_cons_succ, List.set_cons_zero]
            clear hK
            exact cut_to (key v36 _ ⟨rp0, rp1, rg5, rg6, rl7, hw⟩) (by kernel_rfl)
          · skip
            rw [if_pos (by kernel_rfl)]
            simp only [List.getElem_toArray, List.getElem_cons_succ, List.getElem_cons_zero]
            refine wp_load_row 27 _ rfl (gi) rfl 27 x11 (0, 0) _ rl7 Try.underlying27 rfl h11.info (hK _ _ ?_)
            simp only [Act.put, List.setIfInBounds_toArray, List.set_cons_succ, List.set_cons_zero]
            clear hK
            refine wpAny_ready (rs := [7]) (fuel := 10) (by kernel_rfl) (by simp) (AllReady.cons rfl (fun K' hK => ?_) AllReady.nil)
            rw [if_pos (by kernel_rfl)]
            simp only [List.getElem_toArray, List.getElem_cons_succ, List.getElem_cons_zero]
            refine wp_call_op (f := 23) (args := #[.agg xA, v36]) (by kernel_rfl) (c38 _ _ hBv36) (fun w41 hb => hK _ _ ?_)
            simp only [Act.put, List.setIfInBounds_toArray, List.set_cons_succ, List.set_cons_zero]
            clear hK
            replace rp0 := keep hb rp0
            replace rp1 := keep hb rp1
            replace rg5 := keep hb rg5
            replace rg6 := keep hb rg6
            replace rl7 := keep hb rl7
            replace hw := Below.after hw hb
            replace hBv36 := hBv36.keep hb
            clear hb
            refine wpAny_ready (rs := [9]) (fuel := 9) (by kernel_rfl) (by simp) (AllReady.cons rfl (fun K' hK => ?_) AllReady.nil)
            rw [if_pos (by kernel_rfl)]
            simp only [List.getElem_toArray, List.getElem_cons_succ, List.getElem_cons_zero]
            refine wp_call_op (f := 22) (args := #[.agg x38, .agg x11]) (by kernel_rfl) (c40.at _) (fun w42 hb => hK _ _ ?_)
            simp only [Act.put, List.setIfInBounds_toArray, List.set_cons_succ, List.set_cons_zero]
            clear hK
            replace rp0 := keep hb rp0
            replace rp1 := keep hb rp1
            replace rg5 := keep hb rg5
            replace rg6 := keep hb rg6
            replace rl7 := keep hb rl7
            replace hw := Below.after hw hb
            replace hBv36 := hBv36.keep hb
            clear hb
            refine wpAny_ready (rs := [10]) (fuel := 8) (by kernel_rfl) (by simp) (AllReady.cons rfl (fun K' hK => ?_) AllReady.nil)
            rw [if_pos (by kernel_rfl)]
            simp only [List.getElem_toArray, List.getElem_cons_succ, List.getElem_cons_zero]
            refine wp_pure_op (.bool true) (by kernel_rfl) (hK _ _ ?_)
            simp only [Act.put, List.setIfInBounds_toArray, List.set_cons_succ, List.set_cons_zero]
            clear hK
            refine wpAny_ready (rs := [11]) (fuel := 7) (by kernel_rfl) (by simp) (AllReady.cons rfl (fun K' hK => ?_) AllReady.nil)
            rw [if_pos (by kernel_rfl)]
            simp only [List.getElem_toArray, List.getElem_cons_succ, List.getElem_cons_zero]
            refine wp_pure_op (.bool true) (by kernel_rfl) (hK _ _ ?_)
            simp only [Act.put, List.setIfInBounds_toArray, List.set_cons_succ, List.set_cons_zero]
            clear hK
            exact cut_to (key v36 _ ⟨rp0, rp1, rg5, rg6, rl7, hw⟩) (by kernel_rfl)
        · skip
          rw [if_pos (by kernel_rfl)]
          simp only [List.getElem_toArray, List.getElem_cons_succ, List.getElem_cons_zero]
          refine wp_load_row 27 _ rfl (gi) rfl 27 x11 (0, 0) _ rl7 Try.underlying27 rfl h11.info (hK _ _ ?_)
          simp only [Act.put, List.setIfInBounds_toArray, List.set_cons_succ, List.set_cons_zero]
          clear hK
          refine wpAny_ready (rs := [6]) (fuel := 11) (by kernel_rfl) (by simp) (AllReady.cons rfl (fun K' hK => ?_) AllReady.nil)
          rw [if_pos (by kernel_rfl)]
          simp only [List.getElem_toArray, List.getElem_cons_succ, List.getElem_cons_zero]
          refine wp_call_ex (f := 24) (args := #[.int .u8 2]) (by kernel_rfl) (prime_walk 2 (by decide) (by decide) w35) (fun v43 w43 ⟨hBv43, hb⟩ => hK _ _ ?_)
          simp only [Act.put, List.setIfInBounds_toArray, List.set_cons_succ, List.set_cons_zero]
          clear hK
          replace rp0 := keep hb rp0
          replace rp1 := keep hb rp1
          replace rg5 := keep hb rg5
          replace rg6 := keep hb rg6
          replace rl7 := keep hb rl7
          replace hw := Below.after hw hb
          clear hb
          refine wpAny_ready (rs := [7]) (fuel := 10) (by kernel_rfl) (by simp) (AllReady.cons rfl (fun K' hK => ?_) AllReady.nil)
          rw [if_pos (by kernel_rfl)]
          simp only [List.getElem_toArray, List.getElem_cons_succ, List.getElem_cons_zero]
          refine wp_call_op (f := 23) (args := #[.agg xA, v43]) (by kernel_rfl) (c38 _ _ hBv43) (fun w44 hb => hK _ _ ?_)
          simp only [Act.put, List.setIfInBounds_toArray, List.set_cons_succ, List.set_cons_zero]
          clear hK
          replace rp0 := keep hb rp0
          replace rp1 := keep hb rp1
          replace rg5 := keep hb rg5
          replace rg6 := keep hb rg6
          replace rl7 := keep hb rl7
          replace hw := Below.after hw hb
          replace hBv43 := hBv43.keep hb
          clear hb
          refine wpAny_ready (rs := [9]) (fuel := 9) (by kernel_rfl) (by simp) (AllReady.cons rfl (fun K' hK => ?_) AllReady.nil)
          rw [if_pos (by kernel_rfl)]
          simp only [List.getElem_toArray, List.getElem_cons_succ, List.getElem_cons_zero]
          refine wp_call_op (f := 22) (args := #[.agg x38, .agg x11]) (by kernel_rfl) (c40.at _) (fun w45 hb => hK _ _ ?_)
          simp only [Act.put, List.setIfInBounds_toArray, List.set_cons_succ, List.set_cons_zero]
          clear hK
          replace rp0 := keep hb rp0
          replace rp1 := keep hb rp1
          replace rg5 := keep hb rg5
          replace rg6 := keep hb rg6
          replace rl7 := keep hb rl7
          replace hw := Below.after hw hb
          replace hBv43 := hBv43.keep hb
          clear hb
          refine wpAny_ready (rs := [10]) (fuel := 8) (by kernel_rfl) (by simp) (AllReady.cons rfl (fun K' hK => ?_) AllReady.nil)
          rw [if_pos (by kernel_rfl)]
          simp only [List.getElem_toArray, List.getElem_cons_succ, List.getElem_cons_zero]
          refine wp_pure_op (.bool true) (by kernel_rfl) (hK _ _ ?_)
          simp only [Act.put, List.setIfInBounds_toArray, List.set_cons_succ, List.set_cons_zero]
          clear hK
          refine wpAny_ready (rs := [11]) (fuel := 7) (by kernel_rfl) (by simp) (AllReady.cons rfl (fun K' hK => ?_) AllReady.nil)
          rw [if_pos (by kernel_rfl)]
          simp only [List.getElem_toArray, List.getElem_cons_succ, List.getElem_cons_zero]
          refine wp_pure_op (.bool true) (by kernel_rfl) (hK _ _ ?_)
          simp only [Act.put, List.setIfInBounds_toArray, List.set_cons_succ, List.set_cons_zero]
          clear hK
          exact cut_to (key v43 _ ⟨rp0, rp1, rg5, rg6, rl7, hw⟩) (by kernel_rfl)
      · skip
        rw [if_pos (by kernel_rfl)]
        simp only [List.getElem_toArray, List.getElem_cons_succ, List.getElem_cons_zero]
        refine wp_call_ex (f := 24) (args := #[.int .u8 2]) (by kernel_rfl) (prime_walk 2 (by decide) (by decide) w35) (fun v46 w46 ⟨hBv46, hb⟩ => hK _ _ ?_)
        simp only [Act.put, List.setIfInBounds_toArray, List.set_cons_succ, List.set_cons_zero]
        clear hK
        replace rp0 := keep hb rp0
        replace rp1 := keep hb rp1
        replace rg5 := keep hb rg5
        replace rg6 := keep hb rg6
        replace rl7 := keep hb rl7
        replace hw := Below.after hw hb
        clear hb
        refine wpAny_ready (rs := [5, 8]) (fuel := 12) (by kernel_rfl) (by simp) (AllReady.cons rfl (fun K' hK => ?_) (AllReady.cons rfl (fun K' hK => ?_) AllReady.nil))
        · skip
          rw [if_pos (by kernel_rfl)]
          simp only [List.getElem_toArray, List.getElem_cons_succ, List.getElem_cons_zero]
          refine wp_load_row 27 _ rfl (ga) rfl 27 xA (0, 0) _ rg5 Try.underlying27 rfl hAn.info (hK _ _ ?_)
          simp only [Act.put, List.setIfInBounds_toArray, List.set_cons_succ, List.set_cons_zero]
          clear hK
          refine wpAny_ready (rs := [7, 8]) (fuel := 11) (by kernel_rfl) (by simp) (AllReady.cons rfl (fun K' hK => ?_) (AllReady.cons rfl (fun K' hK => ?_) AllReady.nil))
          · skip
            rw [if_pos (by kernel_rfl)]
            simp only [List.getElem_toArray, List.getElem_cons_succ, List.getElem_cons_zero]
            refine wp_call_op (f := 23) (args := #[.agg xA, v46]) (by kernel_rfl) (c38 _ _ hBv46) (fun w47 hb => hK _ _ ?_)
            simp only [Act.put, List.setIfInBounds_toArray, List.set_cons_succ, List.set_cons_zero]
            clear hK
            replace rp0 := keep hb rp0
            replace rp1 := keep hb rp1
            replace rg5 := keep hb rg5
            replace rg6 := keep hb rg6
            replace rl7 := keep hb rl7
            replace hw := Below.after hw hb
            replace hBv46 := hBv46.keep hb
            clear hb
            refine wpAny_ready (rs := [8]) (fuel := 10) (by kernel_rfl) (by simp) (AllReady.cons rfl (fun K' hK => ?_) AllReady.nil)
            rw [if_pos (by kernel_rfl)]
            simp only [List.getElem_toArray, List.getElem_cons_succ, List.getElem_cons_zero]
            refine wp_load_row 27 _ rfl (gi) rfl 27 x11 (0, 0) _ rl7 Try.underlying27 rfl h11.info (hK _ _ ?_)
            simp only [Act.put, List.setIfInBounds_toArray, List.set_cons_succ, List.set_cons_zero]
            clear hK
            refine wpAny_ready (rs := [9]) (fuel := 9) (by kernel_rfl) (by simp) (AllReady.cons rfl (fun K' hK => ?_) AllReady.nil)
            rw [if_pos (by kernel_rfl)]
            simp only [List.getElem_toArray, List.getElem_cons_succ, List.getElem_cons_zero]
            refine wp_call_op (f := 22) (args := #[.agg x38, .agg x11]) (by kernel_rfl) (c40.at _) (fun w48 hb => hK _ _ ?_)
            simp only [Act.put, List.setIfInBounds_toArray, List.set_cons_succ, List.set_cons_zero]
            clear hK
            replace rp0 := keep hb rp0
            replace rp1 := keep hb rp1
            replace rg5 := keep hb rg5
            replace rg6 := keep hb rg6
            replace rl7 := keep hb rl7
            replace hw := Below.after hw hb
            replace hBv46 := hBv46.keep hb
            clear hb
            refine wpAny_ready (rs := [10]) (fuel := 8) (by kernel_rfl) (by simp) (AllReady.cons rfl (fun K' hK => ?_) AllReady.nil)
            rw [if_pos (by kernel_rfl)]
            simp only [List.getElem_toArray, List.getElem_cons_succ, List.getElem_cons_zero]
            refine wp_pure_op (.bool true) (by kernel_rfl) (hK _ _ ?_)
            simp only [Act.put, List.setIfInBounds_toArray, List.set_cons_succ, List.set_cons_zero]
            clear hK
            refine wpAny_ready (rs := [11]) (fuel := 7) (by kernel_rfl) (by simp) (AllReady.cons rfl (fun K' hK => ?_) AllReady.nil)
            rw [if_pos (by kernel_rfl)]
            simp only [List.getElem_toArray, List.getElem_cons_succ, List.getElem_cons_zero]
            refine wp_pure_op (.bool true) (by kernel_rfl) (hK _ _ ?_)
            simp only [Act.put, List.setIfInBounds_toArray, List.set_cons_succ, List.set_cons_zero]
            clear hK
            exact cut_to (key v46 _ ⟨rp0, rp1, rg5, rg6, rl7, hw⟩) (by kernel_rfl)
          · skip
            rw [if_pos (by kernel_rfl)]
            simp only [List.getElem_toArray, List.getElem_cons_succ, List.getElem_cons_zero]
            refine wp_load_row 27 _ rfl (gi) rfl 27 x11 (0, 0) _ rl7 Try.underlying27 rfl h11.info (hK _ _ ?_)
            simp only [Act.put, List.setIfInBounds_toArray, List.set_cons_succ, List.set_cons_zero]
            clear hK
            refine wpAny_ready (rs := [7]) (fuel := 10) (by kernel_rfl) (by simp) (AllReady.cons rfl (fun K' hK => ?_) AllReady.nil)
            rw [if_pos (by kernel_rfl)]
            simp only [List.getElem_toArray, List.getElem_cons_succ, List.getElem_cons_zero]
            refine wp_call_op (f := 23) (args := #[.agg xA, v46]) (by kernel_rfl) (c38 _ _ hBv46) (fun w49 hb => hK _ _ ?_)
            simp only [Act.put, List.setIfInBounds_toArray, List.set_cons_succ, List.set_cons_zero]
            clear hK
            replace rp0 := keep hb rp0
            replace rp1 := keep hb rp1
            replace rg5 := keep hb rg5
            replace rg6 := keep hb rg6
            replace rl7 := keep hb rl7
            replace hw := Below.after hw hb
            replace hBv46 := hBv46.keep hb
            clear hb
            refine wpAny_ready (rs := [9]) (fuel := 9) (by kernel_rfl) (by simp) (AllReady.cons rfl (fun K' hK => ?_) AllReady.nil)
            rw [if_pos (by kernel_rfl)]
            simp only [List.getElem_toArray, List.getElem_cons_succ, List.getElem_cons_zero]
            refine wp_call_op (f := 22) (args := #[.agg x38, .agg x11]) (by kernel_rfl) (c40.at _) (fun w50 hb => hK _ _ ?_)
            simp only [Act.put, List.setIfInBounds_toArray, List.set_cons_succ, List.set_cons_zero]
            clear hK
            replace rp0 := keep hb rp0
            replace rp1 := keep hb rp1
            replace rg5 := keep hb rg5
            replace rg6 := keep hb rg6
            replace rl7 := keep hb rl7
            replace hw := Below.after hw hb
            replace hBv46 := hBv46.keep hb
            clear hb
            refine wpAny_ready (rs := [10]) (fuel := 8) (by kernel_rfl) (by simp) (AllReady.cons rfl (fun K' hK => ?_) AllReady.nil)
            rw [if_pos (by kernel_rfl)]
            simp only [List.getElem_toArray, List.getElem_cons_succ, List.getElem_cons_zero]
            refine wp_pure_op (.bool true) (by kernel_rfl) (hK _ _ ?_)
            simp only [Act.put, List.setIfInBounds_toArray, List.set_cons_succ, List.set_cons_zero]
            clear hK
            refine wpAny_ready (rs := [11]) (fuel := 7) (by kernel_rfl) (by simp) (AllReady.cons rfl (fun K' hK => ?_) AllReady.nil)
            rw [if_pos (by kernel_rfl)]
            simp only [List.getElem_toArray, List.getElem_cons_succ, List.getElem_cons_zero]
            refine wp_pure_op (.bool true) (by kernel_rfl) (hK _ _ ?_)
            simp only [Act.put, List.setIfInBounds_toArray, List.set_cons_succ, List.set_cons_zero]
            clear hK
            exact cut_to (key v46 _ ⟨rp0, rp1, rg5, rg6, rl7, hw⟩) (by kernel_rfl)
        · skip
          rw [if_pos (by kernel_rfl)]
          simp only [List.getElem_toArray, List.getElem_cons_succ, List.getElem_cons_zero]
          refine wp_load_row 27 _ rfl (gi) rfl 27 x11 (0, 0) _ rl7 Try.underlying27 rfl h11.info (hK _ _ ?_)
          simp only [Act.put, List.setIfInBounds_toArray, List.set_cons_succ, List.set_cons_zero]
          clear hK
          refine wpAny_ready (rs := [5]) (fuel := 11) (by kernel_rfl) (by simp) (AllReady.cons rfl (fun K' hK => ?_) AllReady.nil)
          rw [if_pos (by kernel_rfl)]
          simp only [List.getElem_toArray, List.getElem_cons_succ, List.getElem_cons_zero]
          refine wp_load_row 27 _ rfl (ga) rfl 27 xA (0, 0) _ rg5 Try.underlying27 rfl hAn.info (hK _ _ ?_)
          simp only [Act.put, List.setIfInBounds_toArray, List.set_cons_succ, List.set_cons_zero]
          clear hK
          refine wpAny_ready (rs := [7]) (fuel := 10) (by kernel_rfl) (by simp) (AllReady.cons rfl (fun K' hK => ?_) AllReady.nil)
          rw [if_pos (by kernel_rfl)]
          simp only [List.getElem_toArray, List.getElem_cons_succ, List.getElem_cons_zero]
          refine wp_call_op (f := 23) (args := #[.agg xA, v46]) (by kernel_rfl) (c38 _ _ hBv46) (fun w51 hb => hK _ _ ?_)
          simp only [Act.put, List.setIfInBounds_toArray, List.set_cons_succ, List.set_cons_zero]
          clear hK
          replace rp0 := keep hb rp0
          replace rp1 := keep hb rp1
          replace rg5 := keep hb rg5
          replace rg6 := keep hb rg6
          replace rl7 := keep hb rl7
          replace hw := Below.after hw hb
          replace hBv46 := hBv46.keep hb
          clear hb
          refine wpAny_ready (rs := [9]) (fuel := 9) (by kernel_rfl) (by simp) (AllReady.cons rfl (fun K' hK => ?_) AllReady.nil)
          rw [if_pos (by kernel_rfl)]
          simp only [List.getElem_toArray, List.getElem_cons_succ, List.getElem_cons_zero]
          refine wp_call_op (f := 22) (args := #[.agg x38, .agg x11]) (by kernel_rfl) (c40.at _) (fun w52 hb => hK _ _ ?_)
          simp only [Act.put, List.setIfInBounds_toArray, List.set_cons_succ, List.set_cons_zero]
          clear hK
          replace rp0 := keep hb rp0
          replace rp1 := keep hb rp1
          replace rg5 := keep hb rg5
          replace rg6 := keep hb rg6
          replace rl7 := keep hb rl7
          replace hw := Below.after hw hb
          replace hBv46 := hBv46.keep hb
          clear hb
          refine wpAny_ready (rs := [10]) (fuel := 8) (by kernel_rfl) (by simp) (AllReady.cons rfl (fun K' hK => ?_) AllReady.nil)
          rw [if_pos (by kernel_rfl)]
          simp only [List.getElem_toArray, List.getElem_cons_succ, List.getElem_cons_zero]
          refine wp_pure_op (.bool true) (by kernel_rfl) (hK _ _ ?_)
          simp only [Act.put, List.setIfInBounds_toArray, List.set_cons_succ, List.set_cons_zero]
          clear hK
          refine wpAny_ready (rs := [11]) (fuel := 7) (by kernel_rfl) (by simp) (AllReady.cons rfl (fun K' hK => ?_) AllReady.nil)
          rw [if_pos (by kernel_rfl)]
          simp only [List.getElem_toArray, List.getElem_cons_succ, List.getElem_cons_zero]
          refine wp_pure_op (.bool true) (by kernel_rfl) (hK _ _ ?_)
          simp only [Act.put, List.setIfInBounds_toArray, List.set_cons_succ, List.set_cons_zero]
          clear hK
          exact cut_to (key v46 _ ⟨rp0, rp1, rg5, rg6, rl7, hw⟩) (by kernel_rfl)
      · skip
        rw [if_pos (by kernel_rfl)]
        simp only [List.getElem_toArray, List.getElem_cons_succ, List.getElem_cons_zero]
        refine wp_load_row 27 _ rfl (gi) rfl 27 x11 (0, 0) _ rl7 Try.underlying27 rfl h11.info (hK _ _ ?_)
        simp only [Act.put, List.setIfInBounds_toArray, List.set_cons_succ, List.set_cons_zero]
        clear hK
        refine wpAny_ready (rs := [5, 6]) (fuel := 12) (by kernel_rfl) (by simp) (AllReady.cons rfl (fun K' hK => ?_) (AllReady.cons rfl (fun K' hK => ?_) AllReady.nil))
        · skip
          rw [if_pos (by kernel_rfl)]
          simp only [List.getElem_toArray, List.getElem_cons_succ, List.getElem_cons_zero]
          refine wp_load_row 27 _ rfl (ga) rfl 27 xA (0, 0) _ rg5 Try.underlying27 rfl hAn.info (hK _ _ ?_)
          simp only [Act.put, List.setIfInBounds_toArray, List.set_cons_succ, List.set_cons_zero]
          clear hK
          refine wpAny_ready (rs := [6]) (fuel := 11) (by kernel_rfl) (by simp) (AllReady.cons rfl (fun K' hK => ?_) AllReady.nil)
          rw [if_pos (by kernel_rfl)]
          simp only [List.getElem_toArray, List.getElem_cons_succ, List.getElem_cons_zero]
          refine wp_call_ex (f := 24) (args := #[.int .u8 2]) (by kernel_rfl) (prime_walk 2 (by decide) (by decide) w35) (fun v53 w53 ⟨hBv53, hb⟩ => hK _ _ ?_)
          simp only [Act.put, List.setIfInBounds_toArray, List.set_cons_succ, List.set_cons_zero]
          clear hK
          replace rp0 := keep hb rp0
          replace rp1 := keep hb rp1
          replace rg5 := keep hb rg5
          replace rg6 := keep hb rg6
          replace rl7 := keep hb rl7
          replace hw := Below.after hw hb
          clear hb
          refine wpAny_ready (rs := [7]) (fuel := 10) (by kernel_rfl) (by simp) (AllReady.cons rfl (fun K' hK => ?_) AllReady.nil)
          rw [if_pos (by kernel_rfl)]
          simp only [List.getElem_toArray, List.getElem_cons_succ, List.getElem_cons_zero]
          refine wp_call_op (f := 23) (args := #[.agg xA, v53]) (by kernel_rfl) (c38 _ _ hBv53) (fun w54 hb => hK _ _ ?_)
          simp only [Act.put, List.setIfInBounds_toArray, List.set_cons_succ, List.set_cons_zero]
          clear hK
          replace rp0 := keep hb rp0
          replace rp1 := keep hb rp1
          replace rg5 := keep hb rg5
          replace rg6 := keep hb rg6
          replace rl7 := keep hb rl7
          replace hw := Below.after hw hb
          replace hBv53 := hBv53.keep hb
          clear hb
          refine wpAny_ready (rs := [9]) (fuel := 9) (by kernel_rfl) (by simp) (AllReady.cons rfl (fun K' hK => ?_) AllReady.nil)
          rw [if_pos (by kernel_rfl)]
          simp only [List.getElem_toArray, List.getElem_cons_succ, List.getElem_cons_zero]
          refine wp_call_op (f := 22) (args := #[.agg x38, .agg x11]) (by kernel_rfl) (c40.at _) (fun w55 hb => hK _ _ ?_)
          simp only [Act.put, List.setIfInBounds_toArray, List.set_cons_succ, List.set_cons_zero]
          clear hK
          replace rp0 := keep hb rp0
          replace rp1 := keep hb rp1
          replace rg5 := keep hb rg5
          replace rg6 := keep hb rg6
          replace rl7 := keep hb rl7
          replace hw := Below.after hw hb
          replace hBv53 := hBv53.keep hb
          clear hb
          refine wpAny_ready (rs := [10]) (fuel := 8) (by kernel_rfl) (by simp) (AllReady.cons rfl (fun K' hK => ?_) AllReady.nil)
          rw [if_pos (by kernel_rfl)]
          simp only [List.getElem_toArray, List.getElem_cons_succ, List.getElem_cons_zero]
          refine wp_pure_op (.bool true) (by kernel_rfl) (hK _ _ ?_)
          simp only [Act.put, List.setIfInBounds_toArray, List.set_cons_succ, List.set_cons_zero]
          clear hK
          refine wpAny_ready (rs := [11]) (fuel := 7) (by kernel_rfl) (by simp) (AllReady.cons rfl (fun K' hK => ?_) AllReady.nil)
          rw [if_pos (by kernel_rfl)]
          simp only [List.getElem_toArray, List.getElem_cons_succ, List.getElem_cons_zero]
          refine wp_pure_op (.bool true) (by kernel_rfl) (hK _ _ ?_)
          simp only [Act.put, List.setIfInBounds_toArray, List.set_cons_succ, List.set_cons_zero]
          clear hK
          exact cut_to (key v53 _ ⟨rp0, rp1, rg5, rg6, rl7, hw⟩) (by kernel_rfl)
        · skip
          rw [if_pos (by kernel_rfl)]
          simp only [List.getElem_toArray, List.getElem_cons_succ, List.getElem_cons_zero]
          refine wp_call_ex (f := 24) (args := #[.int .u8 2]) (by kernel_rfl) (prime_walk 2 (by decide) (by decide) w35) (fun v56 w56 ⟨hBv56, hb⟩ => hK _ _ ?_)
          simp only [Act.put, List.setIfInBounds_toArray, List.set_cons_succ, List.set_cons_zero]
          clear hK
          replace rp0 := keep hb rp0
          replace rp1 := keep hb rp1
          replace rg5 := keep hb rg5
          replace rg6 := keep hb rg6
          replace rl7 := keep hb rl7
          replace hw := Below.after hw hb
          clear hb
          refine wpAny_ready (rs := [5]) (fuel := 11) (by kernel_rfl) (by simp) (AllReady.cons rfl (fun K' hK => ?_) AllReady.nil)
          rw [if_pos (by kernel_rfl)]
          simp only [List.getElem_toArray, List.getElem_cons_succ, List.getElem_cons_zero]
          refine wp_load_row 27 _ rfl (ga) rfl 27 xA (0, 0) _ rg5 Try.underlying27 rfl hAn.info (hK _ _ ?_)
          simp only [Act.put, List.setIfInBounds_toArray, List.set_cons_succ, List.set_cons_zero]
          clear hK
          refine wpAny_ready (rs := [7]) (fuel := 10) (by kernel_rfl) (by simp) (AllReady.cons rfl (fun K' hK => ?_) AllReady.nil)
          rw [if_pos (by kernel_rfl)]
          simp only [List.getElem_toArray, List.getElem_cons_succ, List.getElem_cons_zero]
          refine wp_call_op (f := 23) (args := #[.agg xA, v56]) (by kernel_rfl) (c38 _ _ hBv56) (fun w57 hb => hK _ _ ?_)
          simp only [Act.put, List.setIfInBounds_toArray, List.set_cons_succ, List.set_cons_zero]
          clear hK
          replace rp0 := keep hb rp0
          replace rp1 := keep hb rp1
          replace rg5 := keep hb rg5
          replace rg6 := keep hb rg6
          replace rl7 := keep hb rl7
          replace hw := Below.after hw hb
          replace hBv56 := hBv56.keep hb
          clear hb
          refine wpAny_ready (rs := [9]) (fuel := 9) (by kernel_rfl) (by simp) (AllReady.cons rfl (fun K' hK => ?_) AllReady.nil)
          rw [if_pos (by kernel_rfl)]
          simp only [List.getElem_toArray, List.getElem_cons_succ, List.getElem_cons_zero]
          refine wp_call_op (f := 22) (args := #[.agg x38, .agg x11]) (by kernel_rfl) (c40.at _) (fun w58 hb => hK _ _ ?_)
          simp only [Act.put, List.setIfInBounds_toArray, List.set_cons_succ, List.set_cons_zero]
          clear hK
          replace rp0 := keep hb rp0
          replace rp1 := keep hb rp1
          replace rg5 := keep hb rg5
          replace rg6 := keep hb rg6
          replace rl7 := keep hb rl7
          replace hw := Below.after hw hb
          replace hBv56 := hBv56.keep hb
          clear hb
          refine wpAny_ready (rs := [10]) (fuel := 8) (by kernel_rfl) (by simp) (AllReady.cons rfl (fun K' hK => ?_) AllReady.nil)
          rw [if_pos (by kernel_rfl)]
          simp only [List.getElem_toArray, List.getElem_cons_succ, List.getElem_cons_zero]
          refine wp_pure_op (.bool true) (by kernel_rfl) (hK _ _ ?_)
          simp only [Act.put, List.setIfInBounds_toArray, List.set_cons_succ, List.set_cons_zero]
          clear hK
          refine wpAny_ready (rs := [11]) (fuel := 7) (by kernel_rfl) (by simp) (AllReady.cons rfl (fun K' hK => ?_) AllReady.nil)
          rw [if_pos (by kernel_rfl)]
          simp only [List.getElem_toArray, List.getElem_cons_succ, List.getElem_cons_zero]
          refine wp_pure_op (.bool true) (by kernel_rfl) (hK _ _ ?_)
          simp only [Act.put, List.setIfInBounds_toArray, List.set_cons_succ, List.set_cons_zero]
          clear hK
          exact cut_to (key v56 _ ⟨rp0, rp1, rg5, rg6, rl7, hw⟩) (by kernel_rfl)
    · clear rp0 rp1 rg5 rg6 rl7 hw
      intro v59 w59 ⟨rp0, rp1, rg5, rg6, rl7, hw⟩
      refine wpAny_ready (rs := [12, 13, 15]) (fuel := 6) (by kernel_rfl) (by simp) (AllReady.cons rfl (fun K' hK => ?_) (AllReady.cons rfl (fun K' hK => ?_) (AllReady.cons rfl (fun K' hK => ?_) AllReady.nil)))
      · skip
        rw [if_pos (by kernel_rfl)]
        simp only [List.getElem_toArray, List.getElem_cons_succ, List.getElem_cons_zero]
        refine wp_load_row 27 _ rfl (ga) rfl 27 xA (0, 0) _ rg5 Try.underlying27 rfl hAn.info (hK _ _ ?_)
        simp only [Act.put, List.setIfInBounds_toArray, List.set_cons_succ, List.set_cons_zero]
        clear hK
        refine wpAny_ready (rs := [13, 15]) (fuel := 5) (by kernel_rfl) (by simp) (AllReady.cons rfl (fun K' hK => ?_) (AllReady.cons rfl (fun K' hK => ?_) AllReady.nil))
        · skip
          rw [if_pos (by kernel_rfl)]
          simp only [List.getElem_toArray, List.getElem_cons_succ, List.getElem_cons_zero]
          refine wp_call_ex (f := 24) (args := #[.int .u8 0]) (by kernel_rfl) (prime_walk 0 (by decide) (by decide) w59) (fun v60 w60 ⟨hBv60, hb⟩ => hK _ _ ?_)
          simp only [Act.put, List.setIfInBounds_toArray, List.set_cons_succ, List.set_cons_zero]
          clear hK
          replace rp0 := keep hb rp0
          replace rp1 := keep hb rp1
          replace rg5 := keep hb rg5
          replace rg6 := keep hb rg6
          replace rl7 := keep hb rl7
          replace hw := Below.after hw hb
          clear hb
          refine wpAny_ready (rs := [14, 15]) (fuel := 4) (by kernel_rfl) (by simp) (AllReady.cons rfl (fun K' hK => ?_) (AllReady.cons rfl (fun K' hK => ?_) AllReady.nil))
          · skip
            rw [if_pos (by kernel_rfl)]
            simp only [List.getElem_toArray, List.getElem_cons_succ, List.getElem_cons_zero]
            refine wp_call_op (f := 23) (args := #[.agg xA, v60]) (by kernel_rfl) (c62 _ _ hBv60) (fun w61 hb => hK _ _ ?_)
            simp only [Act.put, List.setIfInBounds_toArray, List.set_cons_succ, List.set_cons_zero]
            clear hK
            replace rp0 := keep hb rp0
            replace rp1 := keep hb rp1
            replace rg5 := keep hb rg5
            replace rg6 := keep hb rg6
            replace rl7 := keep hb rl7
            replace hw := Below.after hw hb
            replace hBv60 := hBv60.keep hb
            clear hb
            refine wpAny_ready (rs := [15]) (fuel := 3) (by kernel_rfl) (by simp) (AllReady.cons rfl (fun K' hK => ?_) AllReady.nil)
            rw [if_pos (by kernel_rfl)]
            simp only [List.getElem_toArray, List.getElem_cons_succ, List.getElem_cons_zero]
            refine wp_load_row 27 _ rfl (ga) rfl 27 xA (0, 0) _ rg5 Try.underlying27 rfl hAn.info (hK _ _ ?_)
            simp only [Act.put, List.setIfInBounds_toArray, List.set_cons_succ, List.set_cons_zero]
            clear hK
            refine wpAny_ready (rs := [16]) (fuel := 2) (by kernel_rfl) (by simp) (AllReady.cons rfl (fun K' hK => ?_) AllReady.nil)
            rw [if_pos (by kernel_rfl)]
            simp only [List.getElem_toArray, List.getElem_cons_succ, List.getElem_cons_zero]
            refine wp_call_op (f := 22) (args := #[.agg x62, .agg xA]) (by kernel_rfl) (c64.at _) (fun w63 hb => hK _ _ ?_)
            simp only [Act.put, List.setIfInBounds_toArray, List.set_cons_succ, List.set_cons_zero]
            clear hK
            replace rp0 := keep hb rp0
            replace rp1 := keep hb rp1
            replace rg5 := keep hb rg5
            replace rg6 := keep hb rg6
            replace rl7 := keep hb rl7
            replace hw := Below.after hw hb
            replace hBv60 := hBv60.keep hb
            clear hb
            refine wpAny_ready (rs := [17]) (fuel := 1) (by kernel_rfl) (by simp) (AllReady.cons rfl (fun K' hK => ?_) AllReady.nil)
            rw [if_pos (by kernel_rfl)]
            simp only [List.getElem_toArray, List.getElem_cons_succ, List.getElem_cons_zero]
            refine wp_pure_op (.bool true) (by kernel_rfl) (hK _ _ ?_)
            simp only [Act.put, List.setIfInBounds_toArray, List.set_cons_succ, List.set_cons_zero]
            clear hK
            refine wpAny_ready (rs := [18]) (fuel := 0) (by kernel_rfl) (by simp) (AllReady.cons rfl (fun K' hK => ?_) AllReady.nil)
            rw [if_pos (by kernel_rfl)]
            simp only [List.getElem_toArray, List.getElem_cons_succ, List.getElem_cons_zero]
            refine wp_pure_op (.bool true) (by kernel_rfl) (hK _ _ ?_)
            simp only [Act.put, List.setIfInBounds_toArray, List.set_cons_succ, List.set_cons_zero]
            clear hK
            refine wpAny_done (by kernel_rfl) ?_ _
            go_wp2
            go_ret
            exact ⟨rfl, hw⟩
          · skip
            rw [if_pos (by kernel_rfl)]
            simp only [List.getElem_toArray, List.getElem_cons_succ, List.getElem_cons_zero]
            refine wp_load_row 27 _ rfl (ga) rfl 27 xA (0, 0) _ rg5 Try.underlying27 rfl hAn.info (hK _ _ ?_)
            simp only [Act.put, List.setIfInBounds_toArray, List.set_cons_succ, List.set_cons_zero]
            clear hK
            refine wpAny_ready (rs := [14]) (fuel := 3) (by kernel_rfl) (by simp) (AllReady.cons rfl (fun K' hK => ?_) AllReady.nil)
            rw [if_pos (by kernel_rfl)]
            simp only [List.getElem_toArray, List.getElem_cons_succ, List.getElem_cons_zero]
            refine wp_call_op (f := 23) (args := #[.agg xA, v60]) (by kernel_rfl) (c62 _ _ hBv60) (fun w65 hb => hK _ _ ?_)
            simp only [Act.put, List.setIfInBounds_toArray, List.set_cons_succ, List.set_cons_zero]
            clear hK
            replace rp0 := keep hb rp0
            replace rp1 := keep hb rp1
            replace rg5 := keep hb rg5
            replace rg6 := keep hb rg6
            replace rl7 := keep hb rl7
            replace hw := Below.after hw hb
            replace hBv60 := hBv60.keep hb
            clear hb
            refine wpAny_ready (rs := [16]) (fuel := 2) (by kernel_rfl) (by simp) (AllReady.cons rfl (fun K' hK => ?_) AllReady.nil)
            rw [if_pos (by kernel_rfl)]
            simp only [List.getElem_toArray, List.getElem_cons_succ, List.getElem_cons_zero]
            refine wp_call_op (f := 22) (args := #[.agg x62, .agg xA]) (by kernel_rfl) (c64.at _) (fun w66 hb => hK _ _ ?_)
            simp only [Act.put, List.setIfInBounds_toArray, List.set_cons_succ, List.set_cons_zero]
            clear hK
            replace rp0 := keep hb rp0
            replace rp1 := keep hb rp1
            replace rg5 := keep hb rg5
            replace rg6 := keep hb rg6
            replace rl7 := keep hb rl7
            replace hw := Below.after hw hb
            replace hBv60 := hBv60.keep hb
            clear hb
            refine wpAny_ready (rs := [17]) (fuel := 1) (by kernel_rfl) (by simp) (AllReady.cons rfl (fun K' hK => ?_) AllReady.nil)
            rw [if_pos (by kernel_rfl)]
            simp only [List.getElem_toArray, List.getElem_cons_succ, List.getElem_cons_zero]
            refine wp_pure_op (.bool true) (by kernel_rfl) (hK _ _ ?_)
            simp only [Act.put, List.setIfInBounds_toArray, List.set_cons_succ, List.set_cons_zero]
            clear hK
            refine wpAny_ready (rs := [18]) (fuel := 0) (by kernel_rfl) (by simp) (AllReady.cons rfl (fun K' hK => ?_) AllReady.nil)
            rw [if_pos (by kernel_rfl)]
            simp only [List.getElem_toArray, List.getElem_cons_succ, List.getElem_cons_zero]
            refine wp_pure_op (.bool true) (by kernel_rfl) (hK _ _ ?_)
            simp only [Act.put, List.setIfInBounds_toArray, List.set_cons_succ, List.set_cons_zero]
            clear hK
            refine wpAny_done (by kernel_rfl) ?_ _
            go_wp2
            go_ret
            exact ⟨rfl, hw⟩
        · skip
          rw [if_pos (by kernel_rfl)]
          simp only [List.getElem_toArray, List.getElem_cons_succ, List.getElem_cons_zero]
          refine wp_load_row 27 _ rfl (ga) rfl 27 xA (0, 0) _ rg5 Try.underlying27 rfl hAn.info (hK _ _ ?_)
          simp only [Act.put, List.setIfInBounds_toArray, List.set_cons_succ, List.set_cons_zero]
          clear hK
          refine wpAny_ready (rs := [13]) (fuel := 4) (by kernel_rfl) (by simp) (AllReady.cons rfl (fun K' hK => ?_) AllReady.nil)
          rw [if_pos (by kernel_rfl)]
          simp only [List.getElem_toArray, List.getElem_cons_succ, List.getElem_cons_zero]
          refine wp_call_ex (f := 24) (args := #[.int .u8 0]) (by kernel_rfl) (prime_walk 0 (by decide) (by decide) w59) (fun v67 w67 ⟨hBv67, hb⟩ => hK _ _ ?_)
          simp only [Act.put, List.setIfInBounds_toArray, List.set_cons_succ, List.set_cons_zero]
          clear hK
          replace rp0 := keep hb rp0
          replace rp1 := keep hb rp1
          replace rg5 := keep hb rg5
          replace rg6 := keep hb rg6
          replace rl7 := keep hb rl7
          replace hw := Below.after hw hb
          clear hb
          refine wpAny_ready (rs := [14]) (fuel := 3) (by kernel_rfl) (by simp) (AllReady.cons rfl (fun K' hK => ?_) AllReady.nil)
          rw [if_pos (by kernel_rfl)]
          simp only [List.getElem_toArray, List.getElem_cons_succ, List.getElem_cons_zero]
          refine wp_call_op (f := 23) (args := #[.agg xA, v67]) (by kernel_rfl) (c62 _ _ hBv67) (fun w68 hb => hK _ _ ?_)
          simp only [Act.put, List.setIfInBounds_toArray, List.set_cons_succ, List.set_cons_zero]
          clear hK
          replace rp0 := keep hb rp0
          replace rp1 := keep hb rp1
          replace rg5 := keep hb rg5
          replace rg6 := keep hb rg6
          replace rl7 := keep hb rl7
          replace hw := Below.after hw hb
          replace hBv67 := hBv67.keep hb
          clear hb
          refine wpAny_ready (rs := [16]) (fuel := 2) (by kernel_rfl) (by simp) (AllReady.cons rfl (fun K' hK => ?_) AllReady.nil)
          rw [if_pos (by kernel_rfl)]
          simp only [List.getElem_toArray, List.getElem_cons_succ, List.getElem_cons_zero]
          refine wp_call_op (f := 22) (args := #[.agg x62, .agg xA]) (by kernel_rfl) (c64.at _) (fun w69 hb => hK _ _ ?_)
          simp only [Act.put, List.setIfInBounds_toArray, List.set_cons_succ, List.set_cons_zero]
          clear hK
          replace rp0 := keep hb rp0
          replace rp1 := keep hb rp1
          replace rg5 := keep hb rg5
          replace rg6 := keep hb rg6
          replace rl7 := keep hb rl7
          replace hw := Below.after hw hb
          replace hBv67 := hBv67.keep hb
          clear hb
          refine wpAny_ready (rs := [17]) (fuel := 1) (by kernel_rfl) (by simp) (AllReady.cons rfl (fun K' hK => ?_) AllReady.nil)
          rw [if_pos (by kernel_rfl)]
          simp only [List.getElem_toArray, List.getElem_cons_succ, List.getElem_cons_zero]
          refine wp_pure_op (.bool true) (by kernel_rfl) (hK _ _ ?_)
          simp only [Act.put, List.setIfInBounds_toArray, List.set_cons_succ, List.set_cons_zero]
          clear hK
          refine wpAny_ready (rs := [18]) (fuel := 0) (by kernel_rfl) (by simp) (AllReady.cons rfl (fun K' hK => ?_) AllReady.nil)
          rw [if_pos (by kernel_rfl)]
          simp only [List.getElem_toArray, List.getElem_cons_succ, List.getElem_cons_zero]
          refine wp_pure_op (.bool true) (by kernel_rfl) (hK _ _ ?_)
          simp only [Act.put, List.setIfInBounds_toArray, List.set_cons_succ, List.set_cons_zero]
          clear hK
          refine wpAny_done (by kernel_rfl) ?_ _
          go_wp2
          go_ret
          exact ⟨rfl, hw⟩
      · skip
        rw [if_pos (by kernel_rfl)]
        simp only [List.getElem_toArray, List.getElem_cons_succ, List.getElem_cons_zero]
        refine wp_call_ex (f := 24) (args := #[.int .u8 0]) (by kernel_rfl) (prime_walk 0 (by decide) (by decide) w59) (fun v70 w70 ⟨hBv70, hb⟩ => hK _ _ ?_)
        simp only [Act.put, List.setIfInBounds_toArray, List.set_cons_succ, List.set_cons_zero]
        clear hK
        replace rp0 := keep hb rp0
        replace rp1 := keep hb rp1
        replace rg5 := keep hb rg5
        replace rg6 := keep hb rg6
        replace rl7 := keep hb rl7
        replace hw := Below.after hw hb
        clear hb
        refine wpAny_ready (rs := [12, 15]) (fuel := 5) (by kernel_rfl) (by simp) (AllReady.cons rfl (fun K' hK => ?_) (AllReady.cons rfl (fun K' hK => ?_) AllReady.nil))
        · skip
          rw [if_pos (by kernel_rfl)]
          simp only [List.getElem_toArray, List.getElem_cons_succ, List.getElem_cons_zero]
          refine wp_load_row 27 _ rfl (ga) rfl 27 xA (0, 0) _ rg5 Try.underlying27 rfl hAn.info (hK _ _ ?_)
          simp only [Act.put, List.setIfInBounds_toArray, List.set_cons_succ, List.set_cons_zero]
          clear hK
          refine wpAny_ready (rs := [14, 15]) (fuel := 4) (by kernel_rfl) (by simp) (AllReady.cons rfl (fun K' hK => ?_) (AllReady.cons rfl (fun K' hK => ?_) AllReady.nil))
          · skip
            rw [if_pos (by kernel_rfl)]
            simp only [List.getElem_toArray, List.getElem_cons_succ, List.getElem_cons_zero]
            refine wp_call_op (f := 23) (args := #[.agg xA, v70]) (by kernel_rfl) (c62 _ _ hBv70) (fun w71 hb => hK _ _ ?_)
            simp only [Act.put, List.setIfInBounds_toArray, List.set_cons_succ, List.set_cons_zero]
            clear hK
            replace rp0 := keep hb rp0
            replace rp1 := keep hb rp1
            replace rg5 := keep hb rg5
            replace rg6 := keep hb rg6
            replace rl7 := keep hb rl7
            replace hw := Below.after hw hb
            replace hBv70 := hBv70.keep hb
            clear hb
            refine wpAny_ready (rs := [15]) (fuel := 3) (by kernel_rfl) (by simp) (AllReady.cons rfl (fun K' hK => ?_) AllReady.nil)
            rw [if_pos (by kernel_rfl)]
            simp only [List.getElem_toArray, List.getElem_cons_succ, List.getElem_cons_zero]
            refine wp_load_row 27 _ rfl (ga) rfl 27 xA (0, 0) _ rg5 Try.underlying27 rfl hAn.info (hK _ _ ?_)
            simp only [Act.put, List.setIfInBounds_toArray, List.set_cons_succ, List.set_cons_zero]
            clear hK
            refine wpAny_ready (rs := [16]) (fuel := 2) (by kernel_rfl) (by simp) (AllReady.cons rfl (fun K' hK => ?_) AllReady.nil)
            rw [if_pos (by kernel_rfl)]
            simp only [List.getElem_toArray, List.getElem_cons_succ, List.getElem_cons_zero]
            refine wp_call_op (f := 22) (args := #[.agg x62, .agg xA]) (by kernel_rfl) (c64.at _) (fun w72 hb => hK _ _ ?_)
            simp only [Act.put, List.setIfInBounds_toArray, List.set_cons_succ, List.set_cons_zero]
            clear hK
            replace rp0 := keep hb rp0
            replace rp1 := keep hb rp1
            replace rg5 := keep hb rg5
            replace rg6 := keep hb rg6
            replace rl7 := keep hb rl7
            replace hw := Below.after hw hb
            replace hBv70 := hBv70.keep hb
            clear hb
            refine wpAny_ready (rs := [17]) (fuel := 1) (by kernel_rfl) (by simp) (AllReady.cons rfl (fun K' hK => ?_) AllReady.nil)
            rw [if_pos (by kernel_rfl)]
            simp only [List.getElem_toArray, List.getElem_cons_succ, List.getElem_cons_zero]
            refine wp_pure_op (.bool true) (by kernel_rfl) (hK _ _ ?_)
            simp only [Act.put, List.setIfInBounds_toArray, List.set_cons_succ, List.set_cons_zero]
            clear hK
            refine wpAny_ready (rs := [18]) (fuel := 0) (by kernel_rfl) (by simp) (AllReady.cons rfl (fun K' hK => ?_) AllReady.nil)
            rw [if_pos (by kernel_rfl)]
            simp only [List.getElem_toArray, List.getElem_cons_succ, List.getElem_cons_zero]
            refine wp_pure_op (.bool true) (by kernel_rfl) (hK _ _ ?_)
            simp only [Act.put, List.setIfInBounds_toArray, List.set_cons_succ, List.set_cons_zero]
            clear hK
            refine wpAny_done (by kernel_rfl) ?_ _
            go_wp2
            go_ret
            exact ⟨rfl, hw⟩
          · skip
            rw [if_pos (by kernel_rfl)]
            simp only [List.getElem_toArray, List.getElem_cons_succ, List.getElem_cons_zero]
            refine wp_load_row 27 _ rfl (ga) rfl 27 xA (0, 0) _ rg5 Try.underlying27 rfl hAn.info (hK _ _ ?_)
            simp only [Act.put, List.setIfInBounds_toArray, List.set_cons_succ, List.set_cons_zero]
            clear hK
            refine wpAny_ready (rs := [14]) (fuel := 3) (by kernel_rfl) (by simp) (AllReady.cons rfl (fun K' hK => ?_) AllReady.nil)
            rw [if_pos (by kernel_rfl)]
            simp only [List.getElem_toArray, List.getElem_cons_succ, List.getElem_cons_zero]
            refine wp_call_op (f := 23) (args := #[.agg xA, v70]) (by kernel_rfl) (c62 _ _ hBv70) (fun w73 hb => hK _ _ ?_)
            simp only [Act.put, List.setIfInBounds_toArray, List.set_cons_succ, List.set_cons_zero]
            clear hK
            replace rp0 := keep hb rp0
            replace rp1 := keep hb rp1
            replace rg5 := keep hb rg5
            replace rg6 := keep hb rg6
            replace rl7 := keep hb rl7
            replace hw := Below.after hw hb
            replace hBv70 := hBv70.keep hb
            clear hb
            refine wpAny_ready (rs := [16]) (fuel := 2) (by kernel_rfl) (by simp) (AllReady.cons rfl (fun K' hK => ?_) AllReady.nil)
            rw [if_pos (by kernel_rfl)]
            simp only [List.getElem_toArray, List.getElem_cons_succ, List.getElem_cons_zero]
            refine wp_call_op (f := 22) (args := #[.agg x62, .agg xA]) (by kernel_rfl) (c64.at _) (fun w74 hb => hK _ _ ?_)
            simp only [Act.put, List.setIfInBounds_toArray, List.set_cons_succ, List.set_cons_zero]
            clear hK
            replace rp0 := keep hb rp0
            replace rp1 := keep hb rp1
            replace rg5 := keep hb rg5
            replace rg6 := keep hb rg6
            replace rl7 := keep hb rl7
            replace hw := Below.after hw hb
            replace hBv70 := hBv70.keep hb
            clear hb
            refine wpAny_ready (rs := [17]) (fuel := 1) (by kernel_rfl) (by simp) (AllReady.cons rfl (fun K' hK => ?_) AllReady.nil)
            rw [if_pos (by kernel_rfl)]
            simp only [List.getElem_toArray, List.getElem_cons_succ, List.getElem_cons_zero]
            refine wp_pure_op (.bool true) (by kernel_rfl) (hK _ _ ?_)
            simp only [Act.put, List.setIfInBounds_toArray, List.set_cons_succ, List.set_cons_zero]
            clear hK
            refine wpAny_ready (rs := [18]) (fuel := 0) (by kernel_rfl) (by simp) (AllReady.cons rfl (fun K' hK => ?_) AllReady.nil)
            rw [if_pos (by kernel_rfl)]
            simp only [List.getElem_toArray, List.getElem_cons_succ, List.getElem_cons_zero]
            refine wp_pure_op (.bool true) (by kernel_rfl) (hK _ _ ?_)
            simp only [Act.put, List.setIfInBounds_toArray, List.set_cons_succ, List.set_cons_zero]
            clear hK
            refine wpAny_done (by kernel_rfl) ?_ _
            go_wp2
            go_ret
            exact ⟨rfl, hw⟩
        · skip
          rw [if_pos (by kernel_rfl)]
          simp only [List.getElem_toArray, List.getElem_cons_succ, List.getElem_cons_zero]
          refine wp_load_row 27 _ rfl (ga) rfl 27 xA (0, 0) _ rg5 Try.underlying27 rfl hAn.info (hK _ _ ?_)
          simp only [Act.put, List.setIfInBounds_toArray, List.set_cons_succ, List.set_cons_zero]
          clear hK
          refine wpAny_ready (rs := [12]) (fuel := 4) (by kernel_rfl) (by simp) (AllReady.cons rfl (fun K' hK => ?_) AllReady.nil)
          rw [if_pos (by kernel_rfl)]
          simp only [List.getElem_toArray, List.getElem_cons_succ, List.getElem_cons_zero]
          refine wp_load_row 27 _ rfl (ga) rfl 27 xA (0, 0) _ rg5 Try.underlying27 rfl hAn.info (hK _ _ ?_)
          simp only [Act.put, List.setIfInBounds_toArray, List.set_cons_succ, List.set_cons_zero]
          clear hK
          refine wpAny_ready (rs := [14]) (fuel := 3) (by kernel_rfl) (by simp) (AllReady.cons rfl (fun K' hK => ?_) AllReady.nil)
          rw [if_pos (by kernel_rfl)]
          simp only [List.getElem_toArray, List.getElem_cons_succ, List.getElem_cons_zero]
          refine wp_call_op (f := 23) (args := #[.agg xA, v70]) (by kernel_rfl) (c62 _ _ hBv70) (fun w75 hb => hK _ _ ?_)
          simp only [Act.put, List.setIfInBounds_toArray, List.set_cons_succ, List.set_cons_zero]
          clear hK
          replace rp0 := keep hb rp0
          replace rp1 := keep hb rp1
          replace rg5 := keep hb rg5
          replace rg6 := keep hb rg6
          replace rl7 := keep hb rl7
          replace hw := Below.after hw hb
          replace hBv70 := hBv70.keep hb
          clear hb
          refine wpAny_ready (rs := [16]) (fuel := 2) (by kernel_rfl) (by simp) (AllReady.cons rfl (fun K' hK => ?_) AllReady.nil)
          rw [if_pos (by kernel_rfl)]
          simp only [List.getElem_toArray, List.getElem_cons_succ, List.getElem_cons_zero]
          refine wp_call_op (f := 22) (args := #[.agg x62, .agg xA]) (by kernel_rfl) (c64.at _) (fun w76 hb => hK _ _ ?_)
          simp only [Act.put, List.setIfInBounds_toArray, List.set_cons_succ, List.set_cons_zero]
          clear hK
          replace rp0 := keep hb rp0
          replace rp1 := keep hb rp1
          replace rg5 := keep hb rg5
          replace rg6 := keep hb rg6
          replace rl7 := keep hb rl7
          replace hw := Below.after hw hb
          replace hBv70 := hBv70.keep hb
          clear hb
          refine wpAny_ready (rs := [17]) (fuel := 1) (by kernel_rfl) (by simp) (AllReady.cons rfl (fun K' hK => ?_) AllReady.nil)
          rw [if_pos (by kernel_rfl)]
          simp only [List.getElem_toArray, List.getElem_cons_succ, List.getElem_cons_zero]
          refine wp_pure_op (.bool true) (by kernel_rfl) (hK _ _ ?_)
          simp only [Act.put, List.setIfInBounds_toArray, List.set_cons_succ, List.set_cons_zero]
          clear hK
          refine wpAny_ready (rs := [18]) (fuel := 0) (by kernel_rfl) (by simp) (AllReady.cons rfl (fun K' hK => ?_) AllReady.nil)
          rw [if_pos (by kernel_rfl)]
          simp only [List.getElem_toArray, List.getElem_cons_succ, List.getElem_cons_zero]
          refine wp_pure_op (.bool true) (by kernel_rfl) (hK _ _ ?_)
          simp only [Act.put, List.setIfInBounds_toArray, List.set_cons_succ, List.set_cons_zero]
          clear hK
          refine wpAny_done (by kernel_rfl) ?_ _
          go_wp2
          go_ret
          exact ⟨rfl, hw⟩
      · skip
        rw [if_pos (by kernel_rfl)]
        simp only [List.getElem_toArray, List.getElem_cons_succ, List.getElem_cons_zero]
        refine wp_load_row 27 _ rfl (ga) rfl 27 xA (0, 0) _ rg5 Try.underlying27 rfl hAn.info (hK _ _ ?_)
        simp only [Act.put, List.setIfInBounds_toArray, List.set_cons_succ, List.set_cons_zero]
        clear hK
        refine wpAny_ready (rs := [12, 13]) (fuel := 5) (by kernel_rfl) (by simp) (AllReady.cons rfl (fun K' hK => ?_) (AllReady.cons rfl (fun K' hK => ?_) AllReady.nil))
        · skip
          rw [if_pos (by kernel_rfl)]
          simp only [List.getElem_toArray, List.getElem_cons_succ, List.getElem_cons_zero]
          refine wp_load_row 27 _ rfl (ga) rfl 27 xA (0, 0) _ rg5 Try.underlying27 rfl hAn.info (hK _ _ ?_)
          simp only [Act.put, List.setIfInBounds_toArray, List.set_cons_succ, List.set_cons_zero]
          clear hK
          refine wpAny_ready (rs := [13]) (fuel := 4) (by kernel_rfl) (by simp) (AllReady.cons rfl (fun K' hK => ?_) AllReady.nil)
          rw [if_pos (by kernel_rfl)]
          simp only [List.getElem_toArray, List.getElem_cons_succ, List.getElem_cons_zero]
          refine wp_call_ex (f := 24) (args := #[.int .u8 0]) (by kernel_rfl) (prime_walk 0 (by decide) (by decide) w59) (fun v77 w77 ⟨hBv77, hb⟩ => hK _ _ ?_)
          simp only [Act.put, List.setIfInBounds_toArray, List.set_cons_succ, List.set_cons_zero]
          clear hK
          replace rp0 := keep hb rp0
          replace rp1 := keep hb rp1
          replace rg5 := keep hb rg5
          replace rg6 := keep hb rg6
          replace rl7 := keep hb rl7
          replace hw := Below.after hw hb
          clear hb
          refine wpAny_ready (rs := [14]) (fuel := 3) (by kernel_rfl) (by simp) (AllReady.cons rfl (fun K' hK => ?_) AllReady.nil)
          rw [if_pos (by kernel_rfl)]
          simp only [List.getElem_toArray, List.getElem_cons_succ, List.getElem_cons_zero]
          refine wp_call_op (f := 23) (args := #[.agg xA, v77]) (by kernel_rfl) (c62 _ _ hBv77) (fun w78 hb => hK _ _ ?_)
          simp only [Act.put, List.setIfInBounds_toArray, List.set_cons_succ, List.set_cons_zero]
          clear hK
          replace rp0 := keep hb rp0
          replace rp1 := keep hb rp1
          replace rg5 := keep hb rg5
          replace rg6 := keep hb rg6
          replace rl7 := keep hb rl7
          replace hw := Below.after hw hb
          replace hBv77 := hBv77.keep hb
          clear hb
          refine wpAny_ready (rs := [16]) (fuel := 2) (by kernel_rfl) (by simp) (AllReady.cons rfl (fun K' hK => ?_) AllReady.nil)
          rw [if_pos (by kernel_rfl)]
          simp only [List.getElem_toArray, List.getElem_cons_succ, List.getElem_cons_zero]
          refine wp_call_op (f := 22) (args := #[.agg x62, .agg xA]) (by kernel_rfl) (c64.at _) (fun w79 hb => hK _ _ ?_)
          simp only [Act.put, List.setIfInBounds_toArray, List.set_cons_succ, List.set_cons_zero]
          clear hK
          replace rp0 := keep hb rp0
          replace rp1 := keep hb rp1
          replace rg5 := keep hb rg5
          replace rg6 := keep hb rg6
          replace rl7 := keep hb rl7
          replace hw := Below.after hw hb
          replace hBv77 := hBv77.keep hb
          clear hb
          refine wpAny_ready (rs := [17]) (fuel := 1) (by kernel_rfl) (by simp) (AllReady.cons rfl (fun K' hK => ?_) AllReady.nil)
          rw [if_pos (by kernel_rfl)]
          simp only [List.getElem_toArray, List.getElem_cons_succ, List.getElem_cons_zero]
          refine wp_pure_op (.bool true) (by kernel_rfl) (hK _ _ ?_)
          simp only [Act.put, List.setIfInBounds_toArray, List.set_cons_succ, List.set_cons_zero]
          clear hK
          refine wpAny_ready (rs := [18]) (fuel := 0) (by kernel_rfl) (by simp) (AllReady.cons rfl (fun K' hK => ?_) AllReady.nil)
          rw [if_pos (by kernel_rfl)]
          simp only [List.getElem_toArray, List.getElem_cons_succ, List.getElem_cons_zero]
          refine wp_pure_op (.bool true) (by kernel_rfl) (hK _ _ ?_)
          simp only [Act.put, List.setIfInBounds_toArray, List.set_cons_succ, List.set_cons_zero]
          clear hK
          refine wpAny_done (by kernel_rfl) ?_ _
          go_wp2
          go_ret
          exact ⟨rfl, hw⟩
        · skip
          rw [if_pos (by kernel_rfl)]
          simp only [List.getElem_toArray, List.getElem_cons_succ, List.getElem_cons_zero]
          refine wp_call_ex (f := 24) (args := #[.int .u8 0]) (by kernel_rfl) (prime_walk 0 (by decide) (by decide) w59) (fun v80 w80 ⟨hBv80, hb⟩ => hK _ _ ?_)
          simp only [Act.put, List.setIfInBounds_toArray, List.set_cons_succ, List.set_cons_zero]
          clear hK
          replace rp0 := keep hb rp0
          replace rp1 := keep hb rp1
          replace rg5 := keep hb rg5
          replace rg6 := keep hb rg6
          replace rl7 := keep hb rl7
          replace hw := Below.after hw hb
          clear hb
          refine wpAny_ready (rs := [12]) (fuel := 4) (by kernel_rfl) (by simp) (AllReady.cons rfl (fun K' hK => ?_) AllReady.nil)
          rw [if_pos (by kernel_rfl)]
          simp only [List.getElem_toArray, List.getElem_cons_succ, List.getElem_cons_zero]
          refine wp_load_row 27 _ rfl (ga) rfl 27 xA (0, 0) _ rg5 Try.underlying27 rfl hAn.info (hK _ _ ?_)
          simp only [Act.put, List.setIfInBounds_toArray, List.set_cons_succ, List.set_cons_zero]
          clear hK
          refine wpAny_ready (rs := [14]) (fuel := 3) (by kernel_rfl) (by simp) (AllReady.cons rfl (fun K' hK => ?_) AllReady.nil)
          rw [if_pos (by kernel_rfl)]
          simp only [List.getElem_toArray, List.getElem_cons_succ, List.getElem_cons_zero]
          refine wp_call_op (f := 23) (args := #[.agg xA, v80]) (by kernel_rfl) (c62 _ _ hBv80) (fun w81 hb => hK _ _ ?_)
          simp only [Act.put, List.setIfInBounds_toArray, List.set_cons_succ, List.set_cons_zero]
          clear hK
          replace rp0 := keep hb rp0
          replace rp1 := keep hb rp1
          replace rg5 := keep hb rg5
          replace rg6 := keep hb rg6
          replace rl7 := keep hb rl7
          replace hw := Below.after hw hb
          replace hBv80 := hBv80.keep hb
          clear hb
          refine wpAny_ready (rs := [16]) (fuel := 2) (by kernel_rfl) (by simp) (AllReady.cons rfl (fun K' hK => ?_) AllReady.nil)
          rw [if_pos (by kernel_rfl)]
          simp only [List.getElem_toArray, List.getElem_cons_succ, List.getElem_cons_zero]
          refine wp_call_op (f := 22) (args := #[.agg x62, .agg xA]) (by kernel_rfl) (c64.at _) (fun w82 hb => hK _ _ ?_)
          simp only [Act.put, List.setIfInBounds_toArray, List.set_cons_succ, List.set_cons_zero]
          clear hK
          replace rp0 := keep hb rp0
          replace rp1 := keep hb rp1
          replace rg5 := keep hb rg5
          replace rg6 := keep hb rg6
          replace rl7 := keep hb rl7
          replace hw := Below.after hw hb
          replace hBv80 := hBv80.keep hb
          clear hb
          refine wpAny_ready (rs := [17]) (fuel := 1) (by kernel_rfl) (by simp) (AllReady.cons rfl (fun K' hK => ?_) AllReady.nil)
          rw [if_pos (by kernel_rfl)]
          simp only [List.getElem_toArray, List.getElem_cons_succ, List.getElem_cons_zero]
          refine wp_pure_op (.bool true) (by kernel_rfl) (hK _ _ ?_)
          simp only [Act.put, List.setIfInBounds_toArray, List.set_cons_succ, List.set_cons_zero]
          clear hK
          refine wpAny_ready (rs := [18]) (fuel := 0) (by kernel_rfl) (by simp) (AllReady.cons rfl (fun K' hK => ?_) AllReady.nil)
          rw [if_pos (by kernel_rfl)]
          simp only [List.getElem_toArray, List.getElem_cons_succ, List.getElem_cons_zero]
          refine wp_pure_op (.bool true) (by kernel_rfl) (hK _ _ ?_)
          simp only [Act.put, List.setIfInBounds_toArray, List.set_cons_succ, List.set_cons_zero]
          clear hK
          refine wpAny_done (by kernel_rfl) ?_ _
          go_wp2
          go_ret
          exact ⟨rfl, hw⟩

end Go.Proofs.Ytcjdglckbkdheab

