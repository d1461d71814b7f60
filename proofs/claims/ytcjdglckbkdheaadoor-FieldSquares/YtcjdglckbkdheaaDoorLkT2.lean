import Derived.Test.YtcjdglckbkdheaaDoorProg
import Derived.WalkKit
import Derived.WalkSpells
import Derived.WalkLawsBesides
import Derived.Lib.QuietBelow
import Derived.BigQuiet
import Derived.Test.YtcjdglckbkdheaaDoorKa
import Derived.Test.YtcjdglckbkdheaaDoorGu
import Derived.Test.YtcjdglckbkdheaaDoorGq
import Derived.Test.YtcjdglckbkdheaaDoorGt
import Derived.Test.YtcjdglckbkdheaaDoorLj
namespace Go.Proofs.YtcjdglckbkdheaaDoor
open Go.RowKit Go.Sort
attribute [local go_sem] setCell_drewN alloc_drewN


set_option maxRecDepth 100000 in
set_option maxHeartbeats 4000000 in
theorem squares_T2 {kp kq : Array Value} {Np Nq A B : Int} (hkp : KeyOf kp Np) (hkq : KeyOf kq Nq) (heA : Np % 57896044618658097711785492504343953926634992332820282019728792003956564819968 = A) (heB : Nq % 57896044618658097711785492504343953926634992332820282019728792003956564819968 = B) (hA : A % prm ≠ 0) (hh : rok A = true) (hs : rval (A * A) % prm = A % prm) (w : World) (hF : Both w) :
    Calls Tryd.prog 7 #[.agg kp, .agg kq] w fun e w' => e = .returned (.bool true) ∧ Below w.heap.size w w' := by
  obtain ⟨xA, hAn, cA⟩ := a_from hkp
  obtain ⟨xB, hBn, cB⟩ := a_from hkq
  rw [heA] at hAn
  rw [heB] at hBn
  have c7 := a_lives hkp
  have c9 := a_lives hkq
  obtain ⟨x11, h11, c11⟩ := a_square hAn
  obtain ⟨x13, h13, c13⟩ := a_root h11
  rw [rok_sq A] at c13
  have c16 := a_odd_ev h13
  rw [decide_eq_false (by rw [rval_even]; decide)] at c16
  obtain ⟨x17, h17, c17⟩ := a_square h13
  have c18 := a_same_c h17 h11 (rval_sq (rok_sq A))
  have c19 := a_same_c h13 hAn hs
  obtain ⟨x20, h20, c20⟩ := a_root hAn
  rw [hh] at c20
  obtain ⟨x22, h22, c22⟩ := a_root hBn
  obtain ⟨x24, h24, c24⟩ := a_small 2 (by decide) (by decide)
  obtain ⟨x26, h26, c26⟩ := a_root h24
  rw [rok_two] at c26
  obtain ⟨x28, h28, c28⟩ := a_mul hAn hBn
  obtain ⟨x30, h30, c30⟩ := a_root h28
  obtain ⟨x33, h33, c33⟩ := a_square h20
  have c34 := a_same_c h33 hAn (rval_sq hh)
  have c37 := a_isZero_f hAn hA
  obtain ⟨x40, h40, c40⟩ := a_power hAn (((fillL 32).set 0 (246)).set 31 63) (by decide)
  rw [bval_half] at h40
  obtain ⟨x42, h42, c42⟩ := a_small 1 (by decide) (by decide)
  have c44 := a_same_c h40 h42 (((rok_half A).1 hh).resolve_left hA)
  clear hA hh hs
  go_enter Tryd.func7, Tryd.ntmps7
  go_wp2
  have rp0 : ((w.alloc (.cells kp 34)).alloc (.cells kq 34)).heap[w.heap.size]? = some (.cells kp 34 (0, 0)) := hp2_0 w _ _
  have rp1 : ((w.alloc (.cells kp 34)).alloc (.cells kq 34)).heap[w.heap.size + 1]? = some (.cells kq 34 (0, 0)) := hp2_1 w _ _
  have hw : Below w.heap.size w ((w.alloc (.cells kp 34)).alloc (.cells kq 34)) := (((Below.refl _ _).alloc (Nat.le_refl _) _).alloc (by simp) _)
  have hz0 := hF.sz
  have f4 : Both ((w.alloc (.cells kp 34)).alloc (.cells kq 34)) := ((hF.alloc _).alloc _)
  generalize ((w.alloc (.cells kp 34)).alloc (.cells kq 34)) = w0 at *
  refine wp_region_alloc_ex 4 6 [5, 6] (fun _ => .cells #[.int .u64 0, .int .u64 0, .int .u64 0, .int .u64 0, .int .u64 0] 26 (0, 0)) (by kernel_rfl) (by decide) (by decide) (by kernel_rfl) (by kernel_rfl) (by kernel_rfl) (by kernel_rfl) (by kernel_rfl) (by kernel_rfl) (by kernel_rfl) (by kernel_rfl) (by decide) (by decide) ?_ ?_
  · intro s l u
    rcases (by omega : s = 4 ∨ s = 5) with rfl | rfl <;> exact ⟨_, _, rfl, rfl, rfl, rfl, fun a w => by kernel_rfl⟩
  apply Exists.intro
  constructor
  · intro v1 hb
    have Hrp0 := keepr (keep hb rp0)
    have Hrp1 := keepr (keep hb rp1)
    have F4 := f4.below hb
    clear hb; dsimp only [List.take]
    refine wpQuiet_load_row rfl 34 _ rfl (w.heap.size) rfl 34 kp (0, 0) _ Hrp0.out Tryd.underlying34 rfl hkp.info ?_
    simp only [Act.put, List.setIfInBounds_toArray, List.set_cons_succ, List.set_cons_zero]
    go_big_quiet_step (exact cA.re)
    refine wpQuiet_load_row rfl 34 _ rfl (w.heap.size + 1) rfl 34 kq (0, 0) _ Hrp1.out Tryd.underlying34 rfl hkq.info ?_
    simp only [Act.put, List.setIfInBounds_toArray, List.set_cons_succ, List.set_cons_zero]
    go_big_quiet_step (exact cB.re)
    refine wpQuiet_nil ?_
    rfl
  intro w4 g hb hg hd
  obtain ⟨lg5, rg5⟩ := hg 5 (by simp)
  replace rg5 : w4.heap[g 5]? = some (.cells #[.int .u64 0, .int .u64 0, .int .u64 0, .int .u64 0, .int .u64 0] 26 (0, 0)) := rg5
  obtain ⟨lg6, rg6⟩ := hg 6 (by simp)
  replace rg6 : w4.heap[g 6]? = some (.cells #[.int .u64 0, .int .u64 0, .int .u64 0, .int .u64 0, .int .u64 0] 26 (0, 0)) := rg6
  simp only [List.drop, puts, ptrs, List.map, List.foldl, Act.put, List.setIfInBounds_toArray, List.set_cons_succ, List.set_cons_zero]
  have d6_5 := hd 6 (by simp) 5 (by simp) (by decide)
  clear hg hd
  generalize g 5 = ga at *
  generalize g 6 = gb at *
  have lrp0 := lt_of_row rp0
  have lrp1 := lt_of_row rp1
  have hs := hw.size
  have hz := f4.sz
  replace rp0 := keep hb rp0
  replace rp1 := keep hb rp1
  replace hw := Below.after hw hb
  replace f4 := f4.below hb
  clear hb
  refine wpList_store_row rfl 26 _ _ rfl ga xA rfl rfl 26 _ rg5 hAn.info (hAn.fits rfl) hAn.one ?_
  simp only [Act.put]
  replace rp0 := (setRow_other w4 ga (w.heap.size) xA (by omega)).trans rp0
  replace rp1 := (setRow_other w4 ga (w.heap.size + 1) xA (by omega)).trans rp1
  replace rg5 := setRow_heap w4 ga _ xA _ _ rg5
  replace rg6 := (setRow_other w4 ga gb xA (by omega)).trans rg6
  replace hw := below_setRow hw (show w.heap.size ≤ ga by omega) xA
  replace f4 := f4.setRow (show 1 < ga by omega) xA
  generalize w4.setRow ga xA = w5 at *
  refine wpList_store_row rfl 26 _ _ rfl gb xB rfl rfl 26 _ rg6 hBn.info (hBn.fits rfl) hBn.one ?_
  simp only [Act.put]
  replace rp0 := (setRow_other w5 gb (w.heap.size) xB (by omega)).trans rp0
  replace rp1 := (setRow_other w5 gb (w.heap.size + 1) xB (by omega)).trans rp1
  replace rg5 := (setRow_other w5 gb ga xB (by omega)).trans rg5
  replace rg6 := setRow_heap w5 gb _ xB _ _ rg6
  replace hw := below_setRow hw (show w.heap.size ≤ gb by omega) xB
  replace f4 := f4.setRow (show 1 < gb by omega) xB
  generalize w5.setRow gb xB = w6 at *
  have yga_0 : w.heap.size < ga := by omega
  have yga_1 : w.heap.size + 1 < ga := by omega
  have yga : w.heap.size ≤ ga := by omega
  have zga : 1 < ga := by omega
  have ygb_0 : w.heap.size < gb := by omega
  have ygb_1 : w.heap.size + 1 < gb := by omega
  have ygb : w.heap.size ≤ gb := by omega
  have zgb : 1 < gb := by omega
  clear hs hz lrp0 lrp1 lg5 lg6
  go_wp2_with (first | (refine wpList_load_want rfl 34 _ rfl (w.heap.size) rfl 34 kp (0, 0) _ rp0 Tryd.underlying34 rfl hkp.info ?_) | (refine wpList_load_want rfl 34 _ rfl (w.heap.size + 1) rfl 34 kq (0, 0) _ rp1 Tryd.underlying34 rfl hkq.info ?_) | (refine wpList_load_want rfl 26 _ rfl (ga) rfl 26 xA (0, 0) _ rg5 Tryd.underlying26 rfl hAn.info ?_) | (refine wpList_load_want rfl 26 _ rfl (gb) rfl 26 xB (0, 0) _ rg6 Tryd.underlying26 rfl hBn.info ?_) | fail)
  refine (c7.at _).mono ?_
  rintro e w8 ⟨rfl, hb⟩
  replace rp0 := keep hb rp0
  replace rp1 := keep hb rp1
  replace rg5 := keep hb rg5
  replace rg6 := keep hb rg6
  replace hw := Below.after hw hb
  replace f4 := f4.below hb
  clear hb
  go_wp2_with (first | (refine wpList_load_want rfl 34 _ rfl (w.heap.size) rfl 34 kp (0, 0) _ rp0 Tryd.underlying34 rfl hkp.info ?_) | (refine wpList_load_want rfl 34 _ rfl (w.heap.size + 1) rfl 34 kq (0, 0) _ rp1 Tryd.underlying34 rfl hkq.info ?_) | (refine wpList_load_want rfl 26 _ rfl (ga) rfl 26 xA (0, 0) _ rg5 Tryd.underlying26 rfl hAn.info ?_) | (refine wpList_load_want rfl 26 _ rfl (gb) rfl 26 xB (0, 0) _ rg6 Tryd.underlying26 rfl hBn.info ?_) | fail)
  refine (c9.at _).mono ?_
  rintro e w10 ⟨rfl, hb⟩
  replace rp0 := keep hb rp0
  replace rp1 := keep hb rp1
  replace rg5 := keep hb rg5
  replace rg6 := keep hb rg6
  replace hw := Below.after hw hb
  replace f4 := f4.below hb
  clear hb
  go_wp2_with (first | (refine wpList_load_want rfl 34 _ rfl (w.heap.size) rfl 34 kp (0, 0) _ rp0 Tryd.underlying34 rfl hkp.info ?_) | (refine wpList_load_want rfl 34 _ rfl (w.heap.size + 1) rfl 34 kq (0, 0) _ rp1 Tryd.underlying34 rfl hkq.info ?_) | (refine wpList_load_want rfl 26 _ rfl (ga) rfl 26 xA (0, 0) _ rg5 Tryd.underlying26 rfl hAn.info ?_) | (refine wpList_load_want rfl 26 _ rfl (gb) rfl 26 xB (0, 0) _ rg6 Tryd.underlying26 rfl hBn.info ?_) | fail)
  refine (c11.at _).mono ?_
  rintro e w12 ⟨rfl, hb⟩
  replace rp0 := keep hb rp0
  replace rp1 := keep hb rp1
  replace rg5 := keep hb rg5
  replace rg6 := keep hb rg6
  replace hw := Below.after hw hb
  replace f4 := f4.below hb
  clear hb
  go_wp2_with (first | (refine wpList_store_row rfl 26 _ _ rfl (w12.heap.size) x11 rfl rfl 26 #[.int .u64 0, .int .u64 0, .int .u64 0, .int .u64 0, .int .u64 0] (hp1_0 w12 _) h11.info (h11.fits rfl) h11.one ?_; rw [setRow_alloc_new _ _ _ _ _ _ (by simp)]) | (refine wpList_load_want rfl 26 _ rfl (w12.heap.size) rfl 26 x11 (0, 0) _ (hp1_0 w12 _) Tryd.underlying26 rfl h11.info ?_) | (refine wpList_load_want rfl 34 _ rfl (w.heap.size) rfl 34 kp (0, 0) _ (keep ((Below.refl _ _).alloc (Nat.le_refl _) _) rp0) Tryd.underlying34 rfl hkp.info ?_) | (refine wpList_load_want rfl 34 _ rfl (w.heap.size + 1) rfl 34 kq (0, 0) _ (keep ((Below.refl _ _).alloc (Nat.le_refl _) _) rp1) Tryd.underlying34 rfl hkq.info ?_) | (refine wpList_load_want rfl 26 _ rfl (ga) rfl 26 xA (0, 0) _ (keep ((Below.refl _ _).alloc (Nat.le_refl _) _) rg5) Tryd.underlying26 rfl hAn.info ?_) | (refine wpList_load_want rfl 26 _ rfl (gb) rfl 26 xB (0, 0) _ (keep ((Below.refl _ _).alloc (Nat.le_refl _) _) rg6) Tryd.underlying26 rfl hBn.info ?_) | fail)
  have rl7 : (w12.alloc (.cells x11 26)).heap[w12.heap.size]? = some (.cells x11 26 (0, 0)) := hp1_0 w12 _
  have hb : Below w12.heap.size w12 (w12.alloc (.cells x11 26)) := ((Below.refl _ _).alloc (Nat.le_refl _) _)
  generalize (w12.alloc (.cells x11 26)) = ws at *
  have ygs_0 := lt_of_row rp0
  have ygs_1 := lt_of_row rp1
  have ygs_2 := lt_of_row rg5
  have ygs_3 := lt_of_row rg6
  have ygs := hw.size
  have zgs := f4.sz
  replace rp0 := keep hb rp0
  replace rp1 := keep hb rp1
  replace rg5 := keep hb rg5
  replace rg6 := keep hb rg6
  replace hw := Below.after hw hb
  replace f4 := f4.below hb
  clear hb
  generalize w12.heap.size = gs at *
  clear w12
  refine (c13.at f4).mono ?_
  rintro e w14 ⟨rfl, hb⟩
  replace rp0 := keep hb rp0
  replace rp1 := keep hb rp1
  replace rg5 := keep hb rg5
  replace rg6 := keep hb rg6
  replace rl7 := keep hb rl7
  replace hw := Below.after hw hb
  replace f4 := f4.below hb
  clear hb
  go_wp2_with (first | (refine wpList_store_row rfl 26 _ _ rfl (w14.heap.size) x13 rfl rfl 26 #[.int .u64 0, .int .u64 0, .int .u64 0, .int .u64 0, .int .u64 0] (hp1_0 w14 _) h13.info (h13.fits rfl) h13.one ?_; rw [setRow_alloc_new _ _ _ _ _ _ (by simp)]) | fail | fail)
  have rl8 : (w14.alloc (.cells x13 26)).heap[w14.heap.size]? = some (.cells x13 26 (0, 0)) := hp1_0 w14 _
  have hb : Below w14.heap.size w14 (w14.alloc (.cells x13 26)) := ((Below.refl _ _).alloc (Nat.le_refl _) _)
  generalize (w14.alloc (.cells x13 26)) = wr at *
  have ygr_0 := lt_of_row rp0
  have ygr_1 := lt_of_row rp1
  have ygr_2 := lt_of_row rg5
  have ygr_3 := lt_of_row rg6
  have ygr_4 := lt_of_row rl7
  have ygr := hw.size
  have zgr := f4.sz
  replace rp0 := keep hb rp0
  replace rp1 := keep hb rp1
  replace rg5 := keep hb rg5
  replace rg6 := keep hb rg6
  replace rl7 := keep hb rl7
  replace hw := Below.after hw hb
  replace f4 := f4.below hb
  clear hb
  generalize w14.heap.size = gr at *
  clear w14
  have Hrp0 := keepr rp0
  have Hrp1 := keepr rp1
  have Hrg5 := keepr rg5
  have Hrg6 := keepr rg6
  have Hrl7 := keepr rl7
  have Hrl8 := keepr rl8
  refine wp_region_quiet_below (by kernel_rfl) (by kernel_rfl) ?_
  go_big_quiet_step (fail)
  go_big_quiet_step (fail)
  go_big_quiet_step (fail)
  refine wpQuiet_load_want rfl 26 _ rfl (gr) rfl 26 x13 (0, 0) _ Hrl8.out Tryd.underlying26 rfl h13.info ?_
  simp only [Act.put, List.setIfInBounds_toArray, List.set_cons_succ, List.set_cons_zero]
  go_big_quiet_step (exact c16.re)
  go_big_quiet_step (fail)
  go_big_quiet_step (fail)
  refine wpQuiet_load_want rfl 26 _ rfl (gr) rfl 26 x13 (0, 0) _ Hrl8.out Tryd.underlying26 rfl h13.info ?_
  simp only [Act.put, List.setIfInBounds_toArray, List.set_cons_succ, List.set_cons_zero]
  go_big_quiet_step (exact c17.re)
  refine wpQuiet_load_want rfl 26 _ rfl (gs) rfl 26 x11 (0, 0) _ Hrl7.out Tryd.underlying26 rfl h11.info ?_
  simp only [Act.put, List.setIfInBounds_toArray, List.set_cons_succ, List.set_cons_zero]
  go_big_quiet_step (exact c18.re)
  go_big_quiet_step (fail)
  go_big_quiet_step (fail)
  go_big_quiet_step (fail)
  refine wpQuiet_load_want rfl 26 _ rfl (gr) rfl 26 x13 (0, 0) _ Hrl8.out Tryd.underlying26 rfl h13.info ?_
  simp only [Act.put, List.setIfInBounds_toArray, List.set_cons_succ, List.set_cons_zero]
  refine wpQuiet_load_want rfl 26 _ rfl (ga) rfl 26 xA (0, 0) _ Hrg5.out Tryd.underlying26 rfl hAn.info ?_
  simp only [Act.put, List.setIfInBounds_toArray, List.set_cons_succ, List.set_cons_zero]
  go_big_quiet_step (exact c19.re)
  go_big_quiet_step (fail)
  go_big_quiet_step (fail)
  go_big_quiet_step (fail)
  go_big_quiet_step (fail)
  go_big_quiet_step (fail)
  go_big_quiet_step (fail)
  go_big_quiet_step (fail)
  go_big_quiet_step (fail)
  go_big_quiet_step (fail)
  refine wpQuiet_nil ?_
  rintro _ ⟨p, rfl⟩
  have hb := below_regrown wr p.d p.os
  generalize grow (redrawn wr p.d) p.os = w15 at *
  replace rp0 := keep hb rp0
  replace rp1 := keep hb rp1
  replace rg5 := keep hb rg5
  replace rg6 := keep hb rg6
  replace rl7 := keep hb rl7
  replace rl8 := keep hb rl8
  replace hw := Below.after hw hb
  replace f4 := f4.below hb
  clear hb
  clear Hrp0 Hrp1 Hrg5 Hrg6 Hrl7 Hrl8
  go_wp2_with (first | (refine wpList_load_want rfl 34 _ rfl (w.heap.size) rfl 34 kp (0, 0) _ rp0 Tryd.underlying34 rfl hkp.info ?_) | (refine wpList_load_want rfl 34 _ rfl (w.heap.size + 1) rfl 34 kq (0, 0) _ rp1 Tryd.underlying34 rfl hkq.info ?_) | (refine wpList_load_want rfl 26 _ rfl (ga) rfl 26 xA (0, 0) _ rg5 Tryd.underlying26 rfl hAn.info ?_) | (refine wpList_load_want rfl 26 _ rfl (gb) rfl 26 xB (0, 0) _ rg6 Tryd.underlying26 rfl hBn.info ?_) | (refine wpList_load_want rfl 26 _ rfl (gs) rfl 26 x11 (0, 0) _ rl7 Tryd.underlying26 rfl h11.info ?_) | (refine wpList_load_want rfl 26 _ rfl (gr) rfl 26 x13 (0, 0) _ rl8 Tryd.underlying26 rfl h13.info ?_) | fail)
  refine (c20.at f4).mono ?_
  rintro e w21 ⟨rfl, hb⟩
  replace rp0 := keep hb rp0
  replace rp1 := keep hb rp1
  replace rg5 := keep hb rg5
  replace rg6 := keep hb rg6
  replace rl7 := keep hb rl7
  replace rl8 := keep hb rl8
  replace hw := Below.after hw hb
  replace f4 := f4.below hb
  clear hb
  go_wp2_with (first | (refine wpList_store_row rfl 26 _ _ rfl (w21.heap.size) x20 rfl rfl 26 #[.int .u64 0, .int .u64 0, .int .u64 0, .int .u64 0, .int .u64 0] (hp1_0 w21 _) h20.info (h20.fits rfl) h20.one ?_; rw [setRow_alloc_new _ _ _ _ _ _ (by simp)]) | (refine wpList_load_want rfl 26 _ rfl (w21.heap.size) rfl 26 x20 (0, 0) _ (hp1_0 w21 _) Tryd.underlying26 rfl h20.info ?_) | (refine wpList_load_want rfl 34 _ rfl (w.heap.size) rfl 34 kp (0, 0) _ (keep ((Below.refl _ _).alloc (Nat.le_refl _) _) rp0) Tryd.underlying34 rfl hkp.info ?_) | (refine wpList_load_want rfl 34 _ rfl (w.heap.size + 1) rfl 34 kq (0, 0) _ (keep ((Below.refl _ _).alloc (Nat.le_refl _) _) rp1) Tryd.underlying34 rfl hkq.info ?_) | (refine wpList_load_want rfl 26 _ rfl (ga) rfl 26 xA (0, 0) _ (keep ((Below.refl _ _).alloc (Nat.le_refl _) _) rg5) Tryd.underlying26 rfl hAn.info ?_) | (refine wpList_load_want rfl 26 _ rfl (gb) rfl 26 xB (0, 0) _ (keep ((Below.refl _ _).alloc (Nat.le_refl _) _) rg6) Tryd.underlying26 rfl hBn.info ?_) | (refine wpList_load_want rfl 26 _ rfl (gs) rfl 26 x11 (0, 0) _ (keep ((Below.refl _ _).alloc (Nat.le_refl _) _) rl7) Tryd.underlying26 rfl h11.info ?_) | (refine wpList_load_want rfl 26 _ rfl (gr) rfl 26 x13 (0, 0) _ (keep ((Below.refl _ _).alloc (Nat.le_refl _) _) rl8) Tryd.underlying26 rfl h13.info ?_) | fail)
  have rl10 : (w21.alloc (.cells x20 26)).heap[w21.heap.size]? = some (.cells x20 26 (0, 0)) := hp1_0 w21 _
  have hb : Below w21.heap.size w21 (w21.alloc (.cells x20 26)) := ((Below.refl _ _).alloc (Nat.le_refl _) _)
  generalize (w21.alloc (.cells x20 26)) = wgx at *
  have ygx_0 := lt_of_row rp0
  have ygx_1 := lt_of_row rp1
  have ygx_2 := lt_of_row rg5
  have ygx_3 := lt_of_row rg6
  have ygx_4 := lt_of_row rl7
  have ygx_5 := lt_of_row rl8
  have ygx := hw.size
  have zgx := f4.sz
  replace rp0 := keep hb rp0
  replace rp1 := keep hb rp1
  replace rg5 := keep hb rg5
  replace rg6 := keep hb rg6
  replace rl7 := keep hb rl7
  replace rl8 := keep hb rl8
  replace hw := Below.after hw hb
  replace f4 := f4.below hb
  clear hb
  generalize w21.heap.size = gx at *
  clear w21
  refine (c22.at f4).mono ?_
  rintro e w23 ⟨rfl, hb⟩
  replace rp0 := keep hb rp0
  replace rp1 := keep hb rp1
  replace rg5 := keep hb rg5
  replace rg6 := keep hb rg6
  replace rl7 := keep hb rl7
  replace rl8 := keep hb rl8
  replace rl10 := keep hb rl10
  replace hw := Below.after hw hb
  replace f4 := f4.below hb
  clear hb
  go_wp2_with (first | (refine wpList_store_row rfl 26 _ _ rfl (w23.heap.size) x22 rfl rfl 26 #[.int .u64 0, .int .u64 0, .int .u64 0, .int .u64 0, .int .u64 0] (hp1_0 w23 _) h22.info (h22.fits rfl) h22.one ?_; rw [setRow_alloc_new _ _ _ _ _ _ (by simp)]) | (refine wpList_load_want rfl 26 _ rfl (w23.heap.size) rfl 26 x22 (0, 0) _ (hp1_0 w23 _) Tryd.underlying26 rfl h22.info ?_) | (refine wpList_load_want rfl 34 _ rfl (w.heap.size) rfl 34 kp (0, 0) _ (keep ((Below.refl _ _).alloc (Nat.le_refl _) _) rp0) Tryd.underlying34 rfl hkp.info ?_) | (refine wpList_load_want rfl 34 _ rfl (w.heap.size + 1) rfl 34 kq (0, 0) _ (keep ((Below.refl _ _).alloc (Nat.le_refl _) _) rp1) Tryd.underlying34 rfl hkq.info ?_) | (refine wpList_load_want rfl 26 _ rfl (ga) rfl 26 xA (0, 0) _ (keep ((Below.refl _ _).alloc (Nat.le_refl _) _) rg5) Tryd.underlying26 rfl hAn.info ?_) | (refine wpList_load_want rfl 26 _ rfl (gb) rfl 26 xB (0, 0) _ (keep ((Below.refl _ _).alloc (Nat.le_refl _) _) rg6) Tryd.underlying26 rfl hBn.info ?_) | (refine wpList_load_want rfl 26 _ rfl (gs) rfl 26 x11 (0, 0) _ (keep ((Below.refl _ _).alloc (Nat.le_refl _) _) rl7) Tryd.underlying26 rfl h11.info ?_) | (refine wpList_load_want rfl 26 _ rfl (gr) rfl 26 x13 (0, 0) _ (keep ((Below.refl _ _).alloc (Nat.le_refl _) _) rl8) Tryd.underlying26 rfl h13.info ?_) | (refine wpList_load_want rfl 26 _ rfl (gx) rfl 26 x20 (0, 0) _ (keep ((Below.refl _ _).alloc (Nat.le_refl _) _) rl10) Tryd.underlying26 rfl h20.info ?_) | fail)
  have rl12 : (w23.alloc (.cells x22 26)).heap[w23.heap.size]? = some (.cells x22 26 (0, 0)) := hp1_0 w23 _
  have hb : Below w23.heap.size w23 (w23.alloc (.cells x22 26)) := ((Below.refl _ _).alloc (Nat.le_refl _) _)
  generalize (w23.alloc (.cells x22 26)) = wgy at *
  have ygy_0 := lt_of_row rp0
  have ygy_1 := lt_of_row rp1
  have ygy_2 := lt_of_row rg5
  have ygy_3 := lt_of_row rg6
  have ygy_4 := lt_of_row rl7
  have ygy_5 := lt_of_row rl8
  have ygy_6 := lt_of_row rl10
  have ygy := hw.size
  have zgy := f4.sz
  replace rp0 := keep hb rp0
  replace rp1 := keep hb rp1
  replace rg5 := keep hb rg5
  replace rg6 := keep hb rg6
  replace rl7 := keep hb rl7
  replace rl8 := keep hb rl8
  replace rl10 := keep hb rl10
  replace hw := Below.after hw hb
  replace f4 := f4.below hb
  clear hb
  generalize w23.heap.size = gy at *
  clear w23
  refine (c24.at _).mono ?_
  rintro e w25 ⟨rfl, hb⟩
  replace rp0 := keep hb rp0
  replace rp1 := keep hb rp1
  replace rg5 := keep hb rg5
  replace rg6 := keep hb rg6
  replace rl7 := keep hb rl7
  replace rl8 := keep hb rl8
  replace rl10 := keep hb rl10
  replace rl12 := keep hb rl12
  replace hw := Below.after hw hb
  replace f4 := f4.below hb
  clear hb
  go_wp2_with (first | (refine wpList_load_want rfl 34 _ rfl (w.heap.size) rfl 34 kp (0, 0) _ rp0 Tryd.underlying34 rfl hkp.info ?_) | (refine wpList_load_want rfl 34 _ rfl (w.heap.size + 1) rfl 34 kq (0, 0) _ rp1 Tryd.underlying34 rfl hkq.info ?_) | (refine wpList_load_want rfl 26 _ rfl (ga) rfl 26 xA (0, 0) _ rg5 Tryd.underlying26 rfl hAn.info ?_) | (refine wpList_load_want rfl 26 _ rfl (gb) rfl 26 xB (0, 0) _ rg6 Tryd.underlying26 rfl hBn.info ?_) | (refine wpList_load_want rfl 26 _ rfl (gs) rfl 26 x11 (0, 0) _ rl7 Tryd.underlying26 rfl h11.info ?_) | (refine wpList_load_want rfl 26 _ rfl (gr) rfl 26 x13 (0, 0) _ rl8 Tryd.underlying26 rfl h13.info ?_) | (refine wpList_load_want rfl 26 _ rfl (gx) rfl 26 x20 (0, 0) _ rl10 Tryd.underlying26 rfl h20.info ?_) | (refine wpList_load_want rfl 26 _ rfl (gy) rfl 26 x22 (0, 0) _ rl12 Tryd.underlying26 rfl h22.info ?_) | fail)
  refine (c26.at f4).mono ?_
  rintro e w27 ⟨rfl, hb⟩
  replace rp0 := keep hb rp0
  replace rp1 := keep hb rp1
  replace rg5 := keep hb rg5
  replace rg6 := keep hb rg6
  replace rl7 := keep hb rl7
  replace rl8 := keep hb rl8
  replace rl10 := keep hb rl10
  replace rl12 := keep hb rl12
  replace hw := Below.after hw hb
  replace f4 := f4.below hb
  clear hb
  go_wp2_with (first | (refine wpList_store_row rfl 26 _ _ rfl (w27.heap.size) x26 rfl rfl 26 #[.int .u64 0, .int .u64 0, .int .u64 0, .int .u64 0, .int .u64 0] (hp1_0 w27 _) h26.info (h26.fits rfl) h26.one ?_; rw [setRow_alloc_new _ _ _ _ _ _ (by simp)]) | (refine wpList_load_want rfl 26 _ rfl (w27.heap.size) rfl 26 x26 (0, 0) _ (hp1_0 w27 _) Tryd.underlying26 rfl h26.info ?_) | (refine wpList_load_want rfl 34 _ rfl (w.heap.size) rfl 34 kp (0, 0) _ (keep ((Below.refl _ _).alloc (Nat.le_refl _) _) rp0) Tryd.underlying34 rfl hkp.info ?_) | (refine wpList_load_want rfl 34 _ rfl (w.heap.size + 1) rfl 34 kq (0, 0) _ (keep ((Below.refl _ _).alloc (Nat.le_refl _) _) rp1) Tryd.underlying34 rfl hkq.info ?_) | (refine wpList_load_want rfl 26 _ rfl (ga) rfl 26 xA (0, 0) _ (keep ((Below.refl _ _).alloc (Nat.le_refl _) _) rg5) Tryd.underlying26 rfl hAn.info ?_) | (refine wpList_load_want rfl 26 _ rfl (gb) rfl 26 xB (0, 0) _ (keep ((Below.refl _ _).alloc (Nat.le_refl _) _) rg6) Tryd.underlying26 rfl hBn.info ?_) | (refine wpList_load_want rfl 26 _ rfl (gs) rfl 26 x11 (0, 0) _ (keep ((Below.refl _ _).alloc (Nat.le_refl _) _) rl7) Tryd.underlying26 rfl h11.info ?_) | (refine wpList_load_want rfl 26 _ rfl (gr) rfl 26 x13 (0, 0) _ (keep ((Below.refl _ _).alloc (Nat.le_refl _) _) rl8) Tryd.underlying26 rfl h13.info ?_) | (refine wpList_load_want rfl 26 _ rfl (gx) rfl 26 x20 (0, 0) _ (keep ((Below.refl _ _).alloc (Nat.le_refl _) _) rl10) Tryd.underlying26 rfl h20.info ?_) | (refine wpList_load_want rfl 26 _ rfl (gy) rfl 26 x22 (0, 0) _ (keep ((Below.refl _ _).alloc (Nat.le_refl _) _) rl12) Tryd.underlying26 rfl h22.info ?_) | fail)
  have rl14 : (w27.alloc (.cells x26 26)).heap[w27.heap.size]? = some (.cells x26 26 (0, 0)) := hp1_0 w27 _
  have hb : Below w27.heap.size w27 (w27.alloc (.cells x26 26)) := ((Below.refl _ _).alloc (Nat.le_refl _) _)
  generalize (w27.alloc (.cells x26 26)) = wgz at *
  have ygz_0 := lt_of_row rp0
  have ygz_1 := lt_of_row rp1
  have ygz_2 := lt_of_row rg5
  have ygz_3 := lt_of_row rg6
  have ygz_4 := lt_of_row rl7
  have ygz_5 := lt_of_row rl8
  have ygz_6 := lt_of_row rl10
  have ygz_7 := lt_of_row rl12
  have ygz := hw.size
  have zgz := f4.sz
  replace rp0 := keep hb rp0
  replace rp1 := keep hb rp1
  replace rg5 := keep hb rg5
  replace rg6 := keep hb rg6
  replace rl7 := keep hb rl7
  replace rl8 := keep hb rl8
  replace rl10 := keep hb rl10
  replace rl12 := keep hb rl12
  replace hw := Below.after hw hb
  replace f4 := f4.below hb
  clear hb
  generalize w27.heap.size = gz at *
  clear w27
  refine (c28.at _).mono ?_
  rintro e w29 ⟨rfl, hb⟩
  replace rp0 := keep hb rp0
  replace rp1 := keep hb rp1
  replace rg5 := keep hb rg5
  replace rg6 := keep hb rg6
  replace rl7 := keep hb rl7
  replace rl8 := keep hb rl8
  replace rl10 := keep hb rl10
  replace rl12 := keep hb rl12
  replace rl14 := keep hb rl14
  replace hw := Below.after hw hb
  replace f4 := f4.below hb
  clear hb
  go_wp2_with (first | (refine wpList_load_want rfl 34 _ rfl (w.heap.size) rfl 34 kp (0, 0) _ rp0 Tryd.underlying34 rfl hkp.info ?_) | (refine wpList_load_want rfl 34 _ rfl (w.heap.size + 1) rfl 34 kq (0, 0) _ rp1 Tryd.underlying34 rfl hkq.info ?_) | (refine wpList_load_want rfl 26 _ rfl (ga) rfl 26 xA (0, 0) _ rg5 Tryd.underlying26 rfl hAn.info ?_) | (refine wpList_load_want rfl 26 _ rfl (gb) rfl 26 xB (0, 0) _ rg6 Tryd.underlying26 rfl hBn.info ?_) | (refine wpList_load_want rfl 26 _ rfl (gs) rfl 26 x11 (0, 0) _ rl7 Tryd.underlying26 rfl h11.info ?_) | (refine wpList_load_want rfl 26 _ rfl (gr) rfl 26 x13 (0, 0) _ rl8 Tryd.underlying26 rfl h13.info ?_) | (refine wpList_load_want rfl 26 _ rfl (gx) rfl 26 x20 (0, 0) _ rl10 Tryd.underlying26 rfl h20.info ?_) | (refine wpList_load_want rfl 26 _ rfl (gy) rfl 26 x22 (0, 0) _ rl12 Tryd.underlying26 rfl h22.info ?_) | (refine wpList_load_want rfl 26 _ rfl (gz) rfl 26 x26 (0, 0) _ rl14 Tryd.underlying26 rfl h26.info ?_) | fail)
  refine (c30.at f4).mono ?_
  rintro e w31 ⟨rfl, hb⟩
  replace rp0 := keep hb rp0
  replace rp1 := keep hb rp1
  replace rg5 := keep hb rg5
  replace rg6 := keep hb rg6
  replace rl7 := keep hb rl7
  replace rl8 := keep hb rl8
  replace rl10 := keep hb rl10
  replace rl12 := keep hb rl12
  replace rl14 := keep hb rl14
  replace hw := Below.after hw hb
  replace f4 := f4.below hb
  clear hb
  go_wp2_with (first | (refine wpList_store_row rfl 26 _ _ rfl (w31.heap.size) x30 rfl rfl 26 #[.int .u64 0, .int .u64 0, .int .u64 0, .int .u64 0, .int .u64 0] (hp1_0 w31 _) h30.info (h30.fits rfl) h30.one ?_; rw [setRow_alloc_new _ _ _ _ _ _ (by simp)]) | fail | fail)
  have rl16 : (w31.alloc (.cells x30 26)).heap[w31.heap.size]? = some (.cells x30 26 (0, 0)) := hp1_0 w31 _
  have hb : Below w31.heap.size w31 (w31.alloc (.cells x30 26)) := ((Below.refl _ _).alloc (Nat.le_refl _) _)
  generalize (w31.alloc (.cells x30 26)) = wm at *
  have ygm_0 := lt_of_row rp0
  have ygm_1 := lt_of_row rp1
  have ygm_2 := lt_of_row rg5
  have ygm_3 := lt_of_row rg6
  have ygm_4 := lt_of_row rl7
  have ygm_5 := lt_of_row rl8
  have ygm_6 := lt_of_row rl10
  have ygm_7 := lt_of_row rl12
  have ygm_8 := lt_of_row rl14
  have ygm := hw.size
  have zgm := f4.sz
  replace rp0 := keep hb rp0
  replace rp1 := keep hb rp1
  replace rg5 := keep hb rg5
  replace rg6 := keep hb rg6
  replace rl7 := keep hb rl7
  replace rl8 := keep hb rl8
  replace rl10 := keep hb rl10
  replace rl12 := keep hb rl12
  replace rl14 := keep hb rl14
  replace hw := Below.after hw hb
  replace f4 := f4.below hb
  clear hb
  generalize w31.heap.size = gm at *
  clear w31
  have Hrp0 := keepr rp0
  have Hrp1 := keepr rp1
  have Hrg5 := keepr rg5
  have Hrg6 := keepr rg6
  have Hrl7 := keepr rl7
  have Hrl8 := keepr rl8
  have Hrl10 := keepr rl10
  have Hrl12 := keepr rl12
  have Hrl14 := keepr rl14
  have Hrl16 := keepr rl16
  refine wp_region_quiet_below (by kernel_rfl) (by kernel_rfl) ?_
  go_big_quiet_step (fail)
  go_big_quiet_step (fail)
  go_big_quiet_step (fail)
  go_big_quiet_step (fail)
  refine wpQuiet_load_want rfl 26 _ rfl (gx) rfl 26 x20 (0, 0) _ Hrl10.out Tryd.underlying26 rfl h20.info ?_
  simp only [Act.put, List.setIfInBounds_toArray, List.set_cons_succ, List.set_cons_zero]
  go_big_quiet_step (exact c33.re)
  refine wpQuiet_load_want rfl 26 _ rfl (ga) rfl 26 xA (0, 0) _ Hrg5.out Tryd.underlying26 rfl hAn.info ?_
  simp only [Act.put, List.setIfInBounds_toArray, List.set_cons_succ, List.set_cons_zero]
  go_big_quiet_step (exact c34.re)
  go_big_quiet_step (fail)
  go_big_quiet_step (fail)
  go_big_quiet_step (fail)
  go_big_quiet_step (fail)
  go_big_quiet_step (fail)
  go_big_quiet_step (fail)
  go_big_quiet_step (fail)
  go_big_quiet_step (fail)
  go_big_quiet_step (fail)
  go_big_quiet_step (fail)
  go_big_quiet_step (fail)
  go_big_quiet_step (fail)
  refine wpQuiet_nil ?_
  rintro _ ⟨p, rfl⟩
  have hb := below_regrown wm p.d p.os
  generalize grow (redrawn wm p.d) p.os = w32 at *
  replace rp0 := keep hb rp0
  replace rp1 := keep hb rp1
  replace rg5 := keep hb rg5
  replace rg6 := keep hb rg6
  replace rl7 := keep hb rl7
  replace rl8 := keep hb rl8
  replace rl10 := keep hb rl10
  replace rl12 := keep hb rl12
  replace rl14 := keep hb rl14
  replace rl16 := keep hb rl16
  replace hw := Below.after hw hb
  replace f4 := f4.below hb
  clear hb
  clear Hrp0 Hrp1 Hrg5 Hrg6 Hrl7 Hrl8 Hrl10 Hrl12 Hrl14 Hrl16
  go_wp2
  refine wp_region_any (by kernel_rfl) ?_
  have hb : Below w32.heap.size w32 { w32 with drawn := w32.drawn + 1 } := ⟨rfl, rfl, rfl, Nat.le_refl _, fun _ _ => rfl⟩
  generalize ({ w32 with drawn := w32.drawn + 1 } : World) = w35 at *
  replace rp0 := keep hb rp0
  replace rp1 := keep hb rp1
  replace rg5 := keep hb rg5
  replace rg6 := keep hb rg6
  replace rl7 := keep hb rl7
  replace rl8 := keep hb rl8
  replace rl10 := keep hb rl10
  replace rl12 := keep hb rl12
  replace rl14 := keep hb rl14
  replace rl16 := keep hb rl16
  replace hw := Below.after hw hb
  replace f4 := f4.below hb
  clear hb
  apply cut_at1 0 #[true, true, true, true, true, true, true, true, true, true, true] (fun _ W => W.heap[w.heap.size]? = some (.cells kp 34 (0, 0)) ∧ W.heap[w.heap.size + 1]? = some (.cells kq 34 (0, 0)) ∧ W.heap[ga]? = some (.cells xA 26 (0, 0)) ∧ W.heap[gb]? = some (.cells xB 26 (0, 0)) ∧ W.heap[gs]? = some (.cells x11 26 (0, 0)) ∧ W.heap[gr]? = some (.cells x13 26 (0, 0)) ∧ W.heap[gx]? = some (.cells x20 26 (0, 0)) ∧ W.heap[gy]? = some (.cells x22 26 (0, 0)) ∧ W.heap[gz]? = some (.cells x26 26 (0, 0)) ∧ W.heap[gm]? = some (.cells x30 26 (0, 0)) ∧ Below w.heap.size w W ∧ Both W)
  · intro key
    refine wpAny_ready (rs := [0, 1]) (fuel := 10) (by kernel_rfl) (by simp) (AllReady.cons rfl (fun K' hK => ?_) (AllReady.cons rfl (fun K' hK => ?_) AllReady.nil))
    · skip
      rw [if_pos (by kernel_rfl)]
      simp only [List.getElem_toArray, List.getElem_cons_zero]
      refine wp_pure_op (.bool true) (by kernel_rfl) (hK _ _ ?_)
      simp only [Act.put, List.setIfInBounds_toArray, List.set_cons_succ, List.set_cons_zero]
      clear hK
      refine wpAny_ready (rs := [1]) (fuel := 9) (by kernel_rfl) (by simp) (AllReady.cons rfl (fun K' hK => ?_) AllReady.nil)
      rw [if_pos (by kernel_rfl)]
      simp only [List.getElem_toArray, List.getElem_cons_succ, List.getElem_cons_zero]
      refine wp_load_row 26 _ rfl (ga) rfl 26 xA (0, 0) _ rg5 Tryd.underlying26 rfl hAn.info (hK _ _ ?_)
      simp only [Act.put, List.setIfInBounds_toArray, List.set_cons_succ, List.set_cons_zero]
      clear hK
      refine wpAny_ready (rs := [2]) (fuel := 8) (by kernel_rfl) (by simp) (AllReady.cons rfl (fun K' hK => ?_) AllReady.nil)
      rw [if_pos (by kernel_rfl)]
      simp only [List.getElem_toArray, List.getElem_cons_succ, List.getElem_cons_zero]
      refine wp_call_op (f := 37) (args := #[.agg xA]) (by kernel_rfl) (c37.at _) (fun w36 hb => hK _ _ ?_)
      simp only [Act.put, List.setIfInBounds_toArray, List.set_cons_succ, List.set_cons_zero]
      clear hK
      replace rp0 := keep hb rp0
      replace rp1 := keep hb rp1
      replace rg5 := keep hb rg5
      replace rg6 := keep hb rg6
      replace rl7 := keep hb rl7
      replace rl8 := keep hb rl8
      replace rl10 := keep hb rl10
      replace rl12 := keep hb rl12
      replace rl14 := keep hb rl14
      replace rl16 := keep hb rl16
      replace hw := Below.after hw hb
      replace f4 := f4.below hb
      clear hb
      refine wpAny_ready (rs := [3]) (fuel := 7) (by kernel_rfl) (by simp) (AllReady.cons rfl (fun K' hK => ?_) AllReady.nil)
      rw [if_pos (by kernel_rfl)]
      simp only [List.getElem_toArray, List.getElem_cons_succ, List.getElem_cons_zero]
      refine wp_pure_op (.bool false) (by kernel_rfl) (hK _ _ ?_)
      simp only [Act.put, List.setIfInBounds_toArray, List.set_cons_succ, List.set_cons_zero]
      clear hK
      refine wpAny_ready (rs := [4, 5]) (fuel := 6) (by kernel_rfl) (by simp) (AllReady.cons rfl (fun K' hK => ?_) (AllReady.cons rfl (fun K' hK => ?_) AllReady.nil))
      · skip
        rw [if_pos (by kernel_rfl)]
        simp only [List.getElem_toArray, List.getElem_cons_succ, List.getElem_cons_zero]
        refine wp_load_row 26 _ rfl (ga) rfl 26 xA (0, 0) _ rg5 Tryd.underlying26 rfl hAn.info (hK _ _ ?_)
        simp only [Act.put, List.setIfInBounds_toArray, List.set_cons_succ, List.set_cons_zero]
        clear hK
        refine wpAny_ready (rs := [5]) (fuel := 5) (by kernel_rfl) (by simp) (AllReady.cons rfl (fun K' hK => ?_) AllReady.nil)
        rw [if_pos (by kernel_rfl)]
        simp only [List.getElem_toArray, List.getElem_cons_succ, List.getElem_cons_zero]
        refine wp_call_ex (f := 41) (args := #[]) (by kernel_rfl) (half_walk w36) (fun v38 w38 ⟨hBv38, hb⟩ => hK _ _ ?_)
        simp only [Act.put, List.setIfInBounds_toArray, List.set_cons_succ, List.set_cons_zero]
        clear hK
        replace rp0 := keep hb rp0
        replace rp1 := keep hb rp1
        replace rg5 := keep hb rg5
        replace rg6 := keep hb rg6
        replace rl7 := keep hb rl7
        replace rl8 := keep hb rl8
        replace rl10 := keep hb rl10
        replace rl12 := keep hb rl12
        replace rl14 := keep hb rl14
        replace rl16 := keep hb rl16
        replace hw := Below.after hw hb
        replace f4 := f4.below hb
        clear hb
        refine wpAny_ready (rs := [6]) (fuel := 4) (by kernel_rfl) (by simp) (AllReady.cons rfl (fun K' hK => ?_) AllReady.nil)
        rw [if_pos (by kernel_rfl)]
        simp only [List.getElem_toArray, List.getElem_cons_succ, List.getElem_cons_zero]
        refine wp_call_op (f := 40) (args := #[.agg xA, v38]) (by kernel_rfl) (c40 _ _ hBv38) (fun w39 hb => hK _ _ ?_)
        simp only [Act.put, List.setIfInBounds_toArray, List.set_cons_succ, List.set_cons_zero]
        clear hK
        replace rp0 := keep hb rp0
        replace rp1 := keep hb rp1
        replace rg5 := keep hb rg5
        replace rg6 := keep hb rg6
        replace rl7 := keep hb rl7
        replace rl8 := keep hb rl8
        replace rl10 := keep hb rl10
        replace rl12 := keep hb rl12
        replace rl14 := keep hb rl14
        replace rl16 := keep hb rl16
        replace hw := Below.after hw hb
        replace f4 := f4.below hb
        replace hBv38 := hBv38.keep hb
        clear hb
        refine wpAny_ready (rs := [7]) (fuel := 3) (by kernel_rfl) (by simp) (AllReady.cons rfl (fun K' hK => ?_) AllReady.nil)
        rw [if_pos (by kernel_rfl)]
        simp only [List.getElem_toArray, List.getElem_cons_succ, List.getElem_cons_zero]
        refine wp_call_op (f := 17) (args := #[.int .u64 1]) (by kernel_rfl) (c42.at _) (fun w41 hb => hK _ _ ?_)
        simp only [Act.put, List.setIfInBounds_toArray, List.set_cons_succ, List.set_cons_zero]
        clear hK
        replace rp0 := keep hb rp0
        replace rp1 := keep hb rp1
        replace rg5 := keep hb rg5
        replace rg6 := keep hb rg6
        replace rl7 := keep hb rl7
        replace rl8 := keep hb rl8
        replace rl10 := keep hb rl10
        replace rl12 := keep hb rl12
        replace rl14 := keep hb rl14
        replace rl16 := keep hb rl16
        replace hw := Below.after hw hb
        replace f4 := f4.below hb
        replace hBv38 := hBv38.keep hb
        clear hb
        refine wpAny_ready (rs := [8]) (fuel := 2) (by kernel_rfl) (by simp) (AllReady.cons rfl (fun K' hK => ?_) AllReady.nil)
        rw [if_pos (by kernel_rfl)]
        simp only [List.getElem_toArray, List.getElem_cons_succ, List.getElem_cons_zero]
        refine wp_call_op (f := 36) (args := #[.agg x40, .agg x42]) (by kernel_rfl) (c44.at _) (fun w43 hb => hK _ _ ?_)
        simp only [Act.put, List.setIfInBounds_toArray, List.set_cons_succ, List.set_cons_zero]
        clear hK
        replace rp0 := keep hb rp0
        replace rp1 := keep hb rp1
        replace rg5 := keep hb rg5
        replace rg6 := keep hb rg6
        replace rl7 := keep hb rl7
        replace rl8 := keep hb rl8
        replace rl10 := keep hb rl10
        replace rl12 := keep hb rl12
        replace rl14 := keep hb rl14
        replace rl16 := keep hb rl16
        replace hw := Below.after hw hb
        replace f4 := f4.below hb
        replace hBv38 := hBv38.keep hb
        clear hb
        refine wpAny_ready (rs := [9]) (fuel := 1) (by kernel_rfl) (by simp) (AllReady.cons rfl (fun K' hK => ?_) AllReady.nil)
        rw [if_pos (by kernel_rfl)]
        simp only [List.getElem_toArray, List.getElem_cons_succ, List.getElem_cons_zero]
        refine wp_pure_op (.bool true) (by kernel_rfl) (hK _ _ ?_)
        simp only [Act.put, List.setIfInBounds_toArray, List.set_cons_succ, List.set_cons_zero]
        clear hK
        refine wpAny_ready (rs := [10]) (fuel := 0) (by kernel_rfl) (by simp) (AllReady.cons rfl (fun K' hK => ?_) AllReady.nil)
        rw [if_pos (by kernel_rfl)]
        simp only [List.getElem_toArray, List.getElem_cons_succ, List.getElem_cons_zero]
        refine wp_pure_op (.bool false) (by kernel_rfl) (hK _ _ ?_)
        simp only [Act.put, List.setIfInBounds_toArray, List.set_cons_succ, List.set_cons_zero]
        clear hK
        exact cut_to (key v38 _ ⟨rp0, rp1, rg5, rg6, rl7, rl8, rl10, rl12, rl14, rl16, hw, f4⟩) (by kernel_rfl)
      · skip
        rw [if_pos (by kernel_rfl)]
        simp only [List.getElem_toArray, List.getElem_cons_succ, List.getElem_cons_zero]
        refine wp_call_ex (f := 41) (args := #[]) (by kernel_rfl) (half_walk w36) (fun v45 w45 ⟨hBv45, hb⟩ => hK _ _ ?_)
        simp only [Act.put, List.setIfInBounds_toArray, List.set_cons_succ, List.set_cons_zero]
        clear hK
        replace rp0 := keep hb rp0
        replace rp1 := keep hb rp1
        replace rg5 := keep hb rg5
        replace rg6 := keep hb rg6
        replace rl7 := keep hb rl7
        replace rl8 := keep hb rl8
        replace rl10 := keep hb rl10
        replace rl12 := keep hb rl12
        replace rl14 := keep hb rl14
        replace rl16 := keep hb rl16
        replace hw := Below.after hw hb
        replace f4 := f4.below hb
        clear hb
        refine wpAny_ready (rs := [4]) (fuel := 5) (by kernel_rfl) (by simp) (AllReady.cons rfl (fun K' hK => ?_) AllReady.nil)
        rw [if_pos (by kernel_rfl)]
        simp only [List.getElem_toArray, List.getElem_cons_succ, List.getElem_cons_zero]
        refine wp_load_row 26 _ rfl (ga) rfl 26 xA (0, 0) _ rg5 Tryd.underlying26 rfl hAn.info (hK _ _ ?_)
        simp only [Act.put, List.setIfInBounds_toArray, List.set_cons_succ, List.set_cons_zero]
        clear hK
        refine wpAny_ready (rs := [6]) (fuel := 4) (by kernel_rfl) (by simp) (AllReady.cons rfl (fun K' hK => ?_) AllReady.nil)
        rw [if_pos (by kernel_rfl)]
        simp only [List.getElem_toArray, List.getElem_cons_succ, List.getElem_cons_zero]
        refine wp_call_op (f := 40) (args := #[.agg xA, v45]) (by kernel_rfl) (c40 _ _ hBv45) (fun w46 hb => hK _ _ ?_)
        simp only [Act.put, List.setIfInBounds_toArray, List.set_cons_succ, List.set_cons_zero]
        clear hK
        replace rp0 := keep hb rp0
        replace rp1 := keep hb rp1
        replace rg5 := keep hb rg5
        replace rg6 := keep hb rg6
        replace rl7 := keep hb rl7
        replace rl8 := keep hb rl8
        replace rl10 := keep hb rl10
        replace rl12 := keep hb rl12
        replace rl14 := keep hb rl14
        replace rl16 := keep hb rl16
        replace hw := Below.after hw hb
        replace f4 := f4.below hb
        replace hBv45 := hBv45.keep hb
        clear hb
        refine wpAny_ready (rs := [7]) (fuel := 3) (by kernel_rfl) (by simp) (AllReady.cons rfl (fun K' hK => ?_) AllReady.nil)
        rw [if_pos (by kernel_rfl)]
        simp only [List.getElem_toArray, List.getElem_cons_succ, List.getElem_cons_zero]
        refine wp_call_op (f := 17) (args := #[.int .u64 1]) (by kernel_rfl) (c42.at _) (fun w47 hb => hK _ _ ?_)
        simp only [Act.put, List.setIfInBounds_toArray, List.set_cons_succ, List.set_cons_zero]
        clear hK
        replace rp0 := keep hb rp0
        replace rp1 := keep hb rp1
        replace rg5 := keep hb rg5
        replace rg6 := keep hb rg6
        replace rl7 := keep hb rl7
        replace rl8 := keep hb rl8
        replace rl10 := keep hb rl10
        replace rl12 := keep hb rl12
        replace rl14 := keep hb rl14
        replace rl16 := keep hb rl16
        replace hw := Below.after hw hb
        replace f4 := f4.below hb
        replace hBv45 := hBv45.keep hb
        clear hb
        refine wpAny_ready (rs := [8]) (fuel := 2) (by kernel_rfl) (by simp) (AllReady.cons rfl (fun K' hK => ?_) AllReady.nil)
        rw [if_pos (by kernel_rfl)]
        simp only [List.getElem_toArray, List.getElem_cons_succ, List.getElem_cons_zero]
        refine wp_call_op (f := 36) (args := #[.agg x40, .agg x42]) (by kernel_rfl) (c44.at _) (fun w48 hb => hK _ _ ?_)
        simp only [Act.put, List.setIfInBounds_toArray, List.set_cons_succ, List.set_cons_zero]
        clear hK
        replace rp0 := keep hb rp0
        replace rp1 := keep hb rp1
        replace rg5 := keep hb rg5
        replace rg6 := keep hb rg6
        replace rl7 := keep hb rl7
        replace rl8 := keep hb rl8
        replace rl10 := keep hb rl10
        replace rl12 := keep hb rl12
        replace rl14 := keep hb rl14
        replace rl16 := keep hb rl16
        replace hw := Below.after hw hb
        replace f4 := f4.below hb
        replace hBv45 := hBv45.keep hb
        clear hb
        refine wpAny_ready (rs := [9]) (fuel := 1) (by kernel_rfl) (by simp) (AllReady.cons rfl (fun K' hK => ?_) AllReady.nil)
        rw [if_pos (by kernel_rfl)]
        simp only [List.getElem_toArray, List.getElem_cons_succ, List.getElem_cons_zero]
        refine wp_pure_op (.bool true) (by kernel_rfl) (hK _ _ ?_)
        simp only [Act.put, List.setIfInBounds_toArray, List.set_cons_succ, List.set_cons_zero]
        clear hK
        refine wpAny_ready (rs := [10]) (fuel := 0) (by kernel_rfl) (by simp) (AllReady.cons rfl (fun K' hK => ?_) AllReady.nil)
        rw [if_pos (by kernel_rfl)]
        simp only [List.getElem_toArray, List.getElem_cons_succ, List.getElem_cons_zero]
        refine wp_pure_op (.bool false) (by kernel_rfl) (hK _ _ ?_)
        simp only [Act.put, List.setIfInBounds_toArray, List.set_cons_succ, List.set_cons_zero]
        clear hK
        exact cut_to (key v45 _ ⟨rp0, rp1, rg5, rg6, rl7, rl8, rl10, rl12, rl14, rl16, hw, f4⟩) (by kernel_rfl)
    · skip
      rw [if_pos (by kernel_rfl)]
      simp only [List.getElem_toArray, List.getElem_cons_succ, List.getElem_cons_zero]
      refine wp_load_row 26 _ rfl (ga) rfl 26 xA (0, 0) _ rg5 Tryd.underlying26 rfl hAn.info (hK _ _ ?_)
      simp only [Act.put, List.setIfInBounds_toArray, List.set_cons_succ, List.set_cons_zero]
      clear hK
      refine wpAny_ready (rs := [0, 2]) (fuel := 9) (by kernel_rfl) (by simp) (AllReady.cons rfl (fun K' hK => ?_) (AllReady.cons rfl (fun K' hK => ?_) AllReady.nil))
      · skip
        rw [if_pos (by kernel_rfl)]
        simp only [List.getElem_toArray, List.getElem_cons_zero]
        refine wp_pure_op (.bool true) (by kernel_rfl) (hK _ _ ?_)
        simp only [Act.put, List.setIfInBounds_toArray, List.set_cons_succ, List.set_cons_zero]
        clear hK
        refine wpAny_ready (rs := [2]) (fuel := 8) (by kernel_rfl) (by simp) (AllReady.cons rfl (fun K' hK => ?_) AllReady.nil)
        rw [if_pos (by kernel_rfl)]
        simp only [List.getElem_toArray, List.getElem_cons_succ, List.getElem_cons_zero]
        refine wp_call_op (f := 37) (args := #[.agg xA]) (by kernel_rfl) (c37.at _) (fun w49 hb => hK _ _ ?_)
        simp only [Act.put, List.setIfInBounds_toArray, List.set_cons_succ, List.set_cons_zero]
        clear hK
        replace rp0 := keep hb rp0
        replace rp1 := keep hb rp1
        replace rg5 := keep hb rg5
        replace rg6 := keep hb rg6
        replace rl7 := keep hb rl7
        replace rl8 := keep hb rl8
        replace rl10 := keep hb rl10
        replace rl12 := keep hb rl12
        replace rl14 := keep hb rl14
        replace rl16 := keep hb rl16
        replace hw := Below.after hw hb
        replace f4 := f4.below hb
        clear hb
        refine wpAny_ready (rs := [3]) (fuel := 7) (by kernel_rfl) (by simp) (AllReady.cons rfl (fun K' hK => ?_) AllReady.nil)
        rw [if_pos (by kernel_rfl)]
        simp only [List.getElem_toArray, List.getElem_cons_succ, List.getElem_cons_zero]
        refine wp_pure_op (.bool false) (by kernel_rfl) (hK _ _ ?_)
        simp only [Act.put, List.setIfInBounds_toArray, List.set_cons_succ, List.set_cons_zero]
        clear hK
        refine wpAny_ready (rs := [4, 5]) (fuel := 6) (by kernel_rfl) (by simp) (AllReady.cons rfl (fun K' hK => ?_) (AllReady.cons rfl (fun K' hK => ?_) AllReady.nil))
        · skip
          rw [if_pos (by kernel_rfl)]
          simp only [List.getElem_toArray, List.getElem_cons_succ, List.getElem_cons_zero]
          refine wp_load_row 26 _ rfl (ga) rfl 26 xA (0, 0) _ rg5 Tryd.underlying26 rfl hAn.info (hK _ _ ?_)
          simp only [Act.put, List.setIfInBounds_toArray, List.set_cons_succ, List.set_cons_zero]
          clear hK
          refine wpAny_ready (rs := [5]) (fuel := 5) (by kernel_rfl) (by simp) (AllReady.cons rfl (fun K' hK => ?_) AllReady.nil)
          rw [if_pos (by kernel_rfl)]
          simp only [List.getElem_toArray, List.getElem_cons_succ, List.getElem_cons_zero]
          refine wp_call_ex (f := 41) (args := #[]) (by kernel_rfl) (half_walk w49) (fun v50 w50 ⟨hBv50, hb⟩ => hK _ _ ?_)
          simp only [Act.put, List.setIfInBounds_toArray, List.set_cons_succ, List.set_cons_zero]
          clear hK
          replace rp0 := keep hb rp0
          replace rp1 := keep hb rp1
          replace rg5 := keep hb rg5
          replace rg6 := keep hb rg6
          replace rl7 := keep hb rl7
          replace rl8 := keep hb rl8
          replace rl10 := keep hb rl10
          replace rl12 := keep hb rl12
          replace rl14 := keep hb rl14
          replace rl16 := keep hb rl16
          replace hw := Below.after hw hb
          replace f4 := f4.below hb
          clear hb
          refine wpAny_ready (rs := [6]) (fuel := 4) (by kernel_rfl) (by simp) (AllReady.cons rfl (fun K' hK => ?_) AllReady.nil)
          rw [if_pos (by kernel_rfl)]
          simp only [List.getElem_toArray, List.getElem_cons_succ, List.getElem_cons_zero]
          refine wp_call_op (f := 40) (args := #[.agg xA, v50]) (by kernel_rfl) (c40 _ _ hBv50) (fun w51 hb => hK _ _ ?_)
          simp only [Act.put, List.setIfInBounds_toArray, List.set_cons_succ, List.set_cons_zero]
          clear hK
          replace rp0 := keep hb rp0
          replace rp1 := keep hb rp1
          replace rg5 := keep hb rg5
          replace rg6 := keep hb rg6
          replace rl7 := keep hb rl7
          replace rl8 := keep hb rl8
          replace rl10 := keep hb rl10
          replace rl12 := keep hb rl12
          replace rl14 := keep hb rl14
          replace rl16 := keep hb rl16
          replace hw := Below.after hw hb
          replace f4 := f4.below hb
          replace hBv50 := hBv50.keep hb
          clear hb
          refine wpAny_ready (rs := [7]) (fuel := 3) (by kernel_rfl) (by simp) (AllReady.cons rfl (fun K' hK => ?_) AllReady.nil)
          rw [if_pos (by kernel_rfl)]
          simp only [List.getElem_toArray, List.getElem_cons_succ, List.getElem_cons_zero]
          refine wp_call_op (f := 17) (args := #[.int .u64 1]) (by kernel_rfl) (c42.at _) (fun w52 hb => hK _ _ ?_)
          simp only [Act.put, List.setIfInBounds_toArray, List.set_cons_succ, List.set_cons_zero]
          clear hK
          replace rp0 := keep hb rp0
          replace rp1 := keep hb rp1
          replace rg5 := keep hb rg5
          replace rg6 := keep hb rg6
          replace rl7 := keep hb rl7
          replace rl8 := keep hb rl8
          replace rl10 := keep hb rl10
          replace rl12 := keep hb rl12
          replace rl14 := keep hb rl14
          replace rl16 := keep hb rl16
          replace hw := Below.after hw hb
          replace f4 := f4.below hb
          replace hBv50 := hBv50.keep hb
          clear hb
          refine wpAny_ready (rs := [8]) (fuel := 2) (by kernel_rfl) (by simp) (AllReady.cons rfl (fun K' hK => ?_) AllReady.nil)
          rw [if_pos (by kernel_rfl)]
          simp only [List.getElem_toArray, List.getElem_cons_succ, List.getElem_cons_zero]
          refine wp_call_op (f := 36) (args := #[.agg x40, .agg x42]) (by kernel_rfl) (c44.at _) (fun w53 hb => hK _ _ ?_)
          simp only [Act.put, List.setIfInBounds_toArray, List.set_cons_succ, List.set_cons_zero]
          clear hK
          replace rp0 := keep hb rp0
          replace rp1 := keep hb rp1
          replace rg5 := keep hb rg5
          replace rg6 := keep hb rg6
          replace rl7 := keep hb rl7
          replace rl8 := keep hb rl8
          replace rl10 := keep hb rl10
          replace rl12 := keep hb rl12
          replace rl14 := keep hb rl14
          replace rl16 := keep hb rl16
          replace hw := Below.after hw hb
          replace f4 := f4.below hb
          replace hBv50 := hBv50.keep hb
          clear hb
          refine wpAny_ready (rs := [9]) (fuel := 1) (by kernel_rfl) (by simp) (AllReady.cons rfl (fun K' hK => ?_) AllReady.nil)
          rw [if_pos (by kernel_rfl)]
          simp only [List.getElem_toArray, List.getElem_cons_succ, List.getElem_cons_zero]
          refine wp_pure_op (.bool true) (by kernel_rfl) (hK _ _ ?_)
          simp only [Act.put, List.setIfInBounds_toArray, List.set_cons_succ, List.set_cons_zero]
          clear hK
          refine wpAny_ready (rs := [10]) (fuel := 0) (by kernel_rfl) (by simp) (AllReady.cons rfl (fun K' hK => ?_) AllReady.nil)
          rw [if_pos (by kernel_rfl)]
          simp only [List.getElem_toArray, List.getElem_cons_succ, List.getElem_cons_zero]
          refine wp_pure_op (.bool false) (by kernel_rfl) (hK _ _ ?_)
          simp only [Act.put, List.setIfInBounds_toArray, List.set_cons_succ, List.set_cons_zero]
          clear hK
          exact cut_to (key v50 _ ⟨rp0, rp1, rg5, rg6, rl7, rl8, rl10, rl12, rl14, rl16, hw, f4⟩) (by kernel_rfl)
        · skip
          rw [if_pos (by kernel_rfl)]
          simp only [List.getElem_toArray, List.getElem_cons_succ, List.getElem_cons_zero]
          refine wp_call_ex (f := 41) (args := #[]) (by kernel_rfl) (half_walk w49) (fun v54 w54 ⟨hBv54, hb⟩ => hK _ _ ?_)
          simp only [Act.put, List.setIfInBounds_toArray, List.set_cons_succ, List.set_cons_zero]
          clear hK
          replace rp0 := keep hb rp0
          replace rp1 := keep hb rp1
          replace rg5 := keep hb rg5
          replace rg6 := keep hb rg6
          replace rl7 := keep hb rl7
          replace rl8 := keep hb rl8
          replace rl10 := keep hb rl10
          replace rl12 := keep hb rl12
          replace rl14 := keep hb rl14
          replace rl16 := keep hb rl16
          replace hw := Below.after hw hb
          replace f4 := f4.below hb
          clear hb
          refine wpAny_ready (rs := [4]) (fuel := 5) (by kernel_rfl) (by simp) (AllReady.cons rfl (fun K' hK => ?_) AllReady.nil)
          rw [if_pos (by kernel_rfl)]
          simp only [List.getElem_toArray, List.getElem_cons_succ, List.getElem_cons_zero]
          refine wp_load_row 26 _ rfl (ga) rfl 26 xA (0, 0) _ rg5 Tryd.underlying26 rfl hAn.info (hK _ _ ?_)
          simp only [Act.put, List.setIfInBounds_toArray, List.set_cons_succ, List.set_cons_zero]
          clear hK
          refine wpAny_ready (rs := [6]) (fuel := 4) (by kernel_rfl) (by simp) (AllReady.cons rfl (fun K' hK => ?_) AllReady.nil)
          rw [if_pos (by kernel_rfl)]
          simp only [List.getElem_toArray, List.getElem_cons_succ, List.getElem_cons_zero]
          refine wp_call_op (f := 40) (args := #[.agg xA, v54]) (by kernel_rfl) (c40 _ _ hBv54) (fun w55 hb => hK _ _ ?_)
          simp only [Act.put, List.setIfInBounds_toArray, List.set_cons_succ, List.set_cons_zero]
          clear hK
          replace rp0 := keep hb rp0
          replace rp1 := keep hb rp1
          replace rg5 := keep hb rg5
          replace rg6 := keep hb rg6
          replace rl7 := keep hb rl7
          replace rl8 := keep hb rl8
          replace rl10 := keep hb rl10
          replace rl12 := keep hb rl12
          replace rl14 := keep hb rl14
          replace rl16 := keep hb rl16
          replace hw := Below.after hw hb
          replace f4 := f4.below hb
          replace hBv54 := hBv54.keep hb
          clear hb
          refine wpAny_ready (rs := [7]) (fuel := 3) (by kernel_rfl) (by simp) (AllReady.cons rfl (fun K' hK => ?_) AllReady.nil)
          rw [if_pos (by kernel_rfl)]
          simp only [List.getElem_toArray, List.getElem_cons_succ, List.getElem_cons_zero]
          refine wp_call_op (f := 17) (args := #[.int .u64 1]) (by kernel_rfl) (c42.at _) (fun w56 hb => hK _ _ ?_)
          simp only [Act.put, List.setIfInBounds_toArray, List.set_cons_succ, List.set_cons_zero]
          clear hK
          replace rp0 := keep hb rp0
          replace rp1 := keep hb rp1
          replace rg5 := keep hb rg5
          replace rg6 := keep hb rg6
          replace rl7 := keep hb rl7
          replace rl8 := keep hb rl8
          replace rl10 := keep hb rl10
          replace rl12 := keep hb rl12
          replace rl14 := keep hb rl14
          replace rl16 := keep hb rl16
          replace hw := Below.after hw hb
          replace f4 := f4.below hb
          replace hBv54 := hBv54.keep hb
          clear hb
          refine wpAny_ready (rs := [8]) (fuel := 2) (by kernel_rfl) (by simp) (AllReady.cons rfl (fun K' hK => ?_) AllReady.nil)
          rw [if_pos (by kernel_rfl)]
          simp only [List.getElem_toArray, List.getElem_cons_succ, List.getElem_cons_zero]
          refine wp_call_op (f := 36) (args := #[.agg x40, .agg x42]) (by kernel_rfl) (c44.at _) (fun w57 hb => hK _ _ ?_)
          simp only [Act.put, List.setIfInBounds_toArray, List.set_cons_succ, List.set_cons_zero]
          clear hK
          replace rp0 := keep hb rp0
          replace rp1 := keep hb rp1
          replace rg5 := keep hb rg5
          replace rg6 := keep hb rg6
          replace rl7 := keep hb rl7
          replace rl8 := keep hb rl8
          replace rl10 := keep hb rl10
          replace rl12 := keep hb rl12
          replace rl14 := keep hb rl14
          replace rl16 := keep hb rl16
          replace hw := Below.after hw hb
          replace f4 := f4.below hb
          replace hBv54 := hBv54.keep hb
          clear hb
          refine wpAny_ready (rs := [9]) (fuel := 1) (by kernel_rfl) (by simp) (AllReady.cons rfl (fun K' hK => ?_) AllReady.nil)
          rw [if_pos (by kernel_rfl)]
          simp only [List.getElem_toArray, List.getElem_cons_succ, List.getElem_cons_zero]
          refine wp_pure_op (.bool true) (by kernel_rfl) (hK _ _ ?_)
          simp only [Act.put, List.setIfInBounds_toArray, List.set_cons_succ, List.set_cons_zero]
          clear hK
          refine wpAny_ready (rs := [10]) (fuel := 0) (by kernel_rfl) (by simp) (AllReady.cons rfl (fun K' hK => ?_) AllReady.nil)
          rw [if_pos (by kernel_rfl)]
          simp only [List.getElem_toArray, List.getElem_cons_succ, List.getElem_cons_zero]
          refine wp_pure_op (.bool false) (by kernel_rfl) (hK _ _ ?_)
          simp only [Act.put, List.setIfInBounds_toArray, List.set_cons_succ, List.set_cons_zero]
          clear hK
          exact cut_to (key v54 _ ⟨rp0, rp1, rg5, rg6, rl7, rl8, rl10, rl12, rl14, rl16, hw, f4⟩) (by kernel_rfl)
      · skip
        rw [if_pos (by kernel_rfl)]
        simp only [List.getElem_toArray, List.getElem_cons_succ, List.getElem_cons_zero]
        refine wp_call_op (f := 37) (args := #[.agg xA]) (by kernel_rfl) (c37.at _) (fun w58 hb => hK _ _ ?_)
        simp only [Act.put, List.setIfInBounds_toArray, List.set_cons_succ, List.set_cons_zero]
        clear hK
        replace rp0 := keep hb rp0
        replace rp1 := keep hb rp1
        replace rg5 := keep hb rg5
        replace rg6 := keep hb rg6
        replace rl7 := keep hb rl7
        replace rl8 := keep hb rl8
        replace rl10 := keep hb rl10
        replace rl12 := keep hb rl12
        replace rl14 := keep hb rl14
        replace rl16 := keep hb rl16
        replace hw := Below.after hw hb
        replace f4 := f4.below hb
        clear hb
        refine wpAny_ready (rs := [0, 3]) (fuel := 8) (by kernel_rfl) (by simp) (AllReady.cons rfl (fun K' hK => ?_) (AllReady.cons rfl (fun K' hK => ?_) AllReady.nil))
        · skip
          rw [if_pos (by kernel_rfl)]
          simp only [List.getElem_toArray, List.getElem_cons_zero]
          refine wp_pure_op (.bool true) (by kernel_rfl) (hK _ _ ?_)
          simp only [Act.put, List.setIfInBounds_toArray, List.set_cons_succ, List.set_cons_zero]
          clear hK
          refine wpAny_ready (rs := [3]) (fuel := 7) (by kernel_rfl) (by simp) (AllReady.cons rfl (fun K' hK => ?_) AllReady.nil)
          rw [if_pos (by kernel_rfl)]
          simp only [List.getElem_toArray, List.getElem_cons_succ, List.getElem_cons_zero]
          refine wp_pure_op (.bool false) (by kernel_rfl) (hK _ _ ?_)
          simp only [Act.put, List.setIfInBounds_toArray, List.set_cons_succ, List.set_cons_zero]
          clear hK
          refine wpAny_ready (rs := [4, 5]) (fuel := 6) (by kernel_rfl) (by simp) (AllReady.cons rfl (fun K' hK => ?_) (AllReady.cons rfl (fun K' hK => ?_) AllReady.nil))
          · skip
            rw [if_pos (by kernel_rfl)]
            simp only [List.getElem_toArray, List.getElem_cons_succ, List.getElem_cons_zero]
            refine wp_load_row 26 _ rfl (ga) rfl 26 xA (0, 0) _ rg5 Tryd.underlying26 rfl hAn.info (hK _ _ ?_)
            simp only [Act.put, List.setIfInBounds_toArray, List.set_cons_succ, List.set_cons_zero]
            clear hK
            refine wpAny_ready (rs := [5]) (fuel := 5) (by kernel_rfl) (by simp) (AllReady.cons rfl (fun K' hK => ?_) AllReady.nil)
            rw [if_pos (by kernel_rfl)]
            simp only [List.getElem_toArray, List.getElem_cons_succ, List.getElem_cons_zero]
            refine wp_call_ex (f := 41) (args := #[]) (by kernel_rfl) (half_walk w58) (fun v59 w59 ⟨hBv59, hb⟩ => hK _ _ ?_)
            simp only [Act.put, List.setIfInBounds_toArray, List.set_cons_succ, List.set_cons_zero]
            clear hK
            replace rp0 := keep hb rp0
            replace rp1 := keep hb rp1
            replace rg5 := keep hb rg5
            replace rg6 := keep hb rg6
            replace rl7 := keep hb rl7
            replace rl8 := keep hb rl8
            replace rl10 := keep hb rl10
            replace rl12 := keep hb rl12
            replace rl14 := keep hb rl14
            replace rl16 := keep hb rl16
            replace hw := Below.after hw hb
            replace f4 := f4.below hb
            clear hb
            refine wpAny_ready (rs := [6]) (fuel := 4) (by kernel_rfl) (by simp) (AllReady.cons rfl (fun K' hK => ?_) AllReady.nil)
            rw [if_pos (by kernel_rfl)]
            simp only [List.getElem_toArray, List.getElem_cons_succ, List.getElem_cons_zero]
            refine wp_call_op (f := 40) (args := #[.agg xA, v59]) (by kernel_rfl) (c40 _ _ hBv59) (fun w60 hb => hK _ _ ?_)
            simp only [Act.put, List.setIfInBounds_toArray, List.set_cons_succ, List.set_cons_zero]
            clear hK
            replace rp0 := keep hb rp0
            replace rp1 := keep hb rp1
            replace rg5 := keep hb rg5
            replace rg6 := keep hb rg6
            replace rl7 := keep hb rl7
            replace rl8 := keep hb rl8
            replace rl10 := keep hb rl10
            replace rl12 := keep hb rl12
            replace rl14 := keep hb rl14
            replace rl16 := keep hb rl16
            replace hw := Below.after hw hb
            replace f4 := f4.below hb
            replace hBv59 := hBv59.keep hb
            clear hb
            refine wpAny_ready (rs := [7]) (fuel := 3) (by kernel_rfl) (by simp) (AllReady.cons rfl (fun K' hK => ?_) AllReady.nil)
            rw [if_pos (by kernel_rfl)]
            simp only [List.getElem_toArray, List.getElem_cons_succ, List.getElem_cons_zero]
            refine wp_call_op (f := 17) (args := #[.int .u64 1]) (by kernel_rfl) (c42.at _) (fun w61 hb => hK _ _ ?_)
            simp only [Act.put, List.setIfInBounds_toArray, List.set_cons_succ, List.set_cons_zero]
            clear hK
            replace rp0 := keep hb rp0
            replace rp1 := keep hb rp1
            replace rg5 := keep hb rg5
            replace rg6 := keep hb rg6
            replace rl7 := keep hb rl7
            replace rl8 := keep hb rl8
            replace rl10 := keep hb rl10
            replace rl12 := keep hb rl12
            replace rl14 := keep hb rl14
            replace rl16 := keep hb rl16
            replace hw := Below.after hw hb
            replace f4 := f4.below hb
            replace hBv59 := hBv59.keep hb
            clear hb
            refine wpAny_ready (rs := [8]) (fuel := 2) (by kernel_rfl) (by simp) (AllReady.cons rfl (fun K' hK => ?_) AllReady.nil)
            rw [if_pos (by kernel_rfl)]
            simp only [List.getElem_toArray, List.getElem_cons_succ, List.getElem_cons_zero]
            refine wp_call_op (f := 36) (args := #[.agg x40, .agg x42]) (by kernel_rfl) (c44.at _) (fun w62 hb => hK _ _ ?_)
            simp only [Act.put, List.setIfInBounds_toArray, List.set_cons_succ, List.set_cons_zero]
            clear hK
            replace rp0 := keep hb rp0
            replace rp1 := keep hb rp1
            replace rg5 := keep hb rg5
            replace rg6 := keep hb rg6
            replace rl7 := keep hb rl7
            replace rl8 := keep hb rl8
            replace rl10 := keep hb rl10
            replace rl12 := keep hb rl12
            replace rl14 := keep hb rl14
            replace rl16 := keep hb rl16
            replace hw := Below.after hw hb
            replace f4 := f4.below hb
            replace hBv59 := hBv59.keep hb
            clear hb
            refine wpAny_ready (rs := [9]) (fuel := 1) (by kernel_rfl) (by simp) (AllReady.cons rfl (fun K' hK => ?_) AllReady.nil)
            rw [if_pos (by kernel_rfl)]
            simp only [List.getElem_toArray, List.getElem_cons_succ, List.getElem_cons_zero]
            refine wp_pure_op (.bool true) (by kernel_rfl) (hK _ _ ?_)
            simp only [Act.put, List.setIfInBounds_toArray, List.set_cons_succ, List.set_cons_zero]
            clear hK
            refine wpAny_ready (rs := [10]) (fuel := 0) (by kernel_rfl) (by simp) (AllReady.cons rfl (fun K' hK => ?_) AllReady.nil)
            rw [if_pos (by kernel_rfl)]
            simp only [List.getElem_toArray, List.getElem_cons_succ, List.getElem_cons_zero]
            refine wp_pure_op (.bool false) (by kernel_rfl) (hK _ _ ?_)
            simp only [Act.put, List.setIfInBounds_toArray, List.set_cons_succ, List.set_cons_zero]
            clear hK
            exact cut_to (key v59 _ ⟨rp0, rp1, rg5, rg6, rl7, rl8, rl10, rl12, rl14, rl16, hw, f4⟩) (by kernel_rfl)
          · skip
            rw [if_pos (by kernel_rfl)]
            simp only [List.getElem_toArray, List.getElem_cons_succ, List.getElem_cons_zero]
            refine wp_call_ex (f := 41) (args := #[]) (by kernel_rfl) (half_walk w58) (fun v63 w63 ⟨hBv63, hb⟩ => hK _ _ ?_)
            simp only [Act.put, List.setIfInBounds_toArray, List.set_cons_succ, List.set_cons_zero]
            clear hK
            replace rp0 := keep hb rp0
            replace rp1 := keep hb rp1
            replace rg5 := keep hb rg5
            replace rg6 := keep hb rg6
            replace rl7 := keep hb rl7
            replace rl8 := keep hb rl8
            replace rl10 := keep hb rl10
            replace rl12 := keep hb rl12
            replace rl14 := keep hb rl14
            replace rl16 := keep hb rl16
            replace hw := Below.after hw hb
            replace f4 := f4.below hb
            clear hb
            refine wpAny_ready (rs := [4]) (fuel := 5) (by kernel_rfl) (by simp) (AllReady.cons rfl (fun K' hK => ?_) AllReady.nil)
            rw [if_pos (by kernel_rfl)]
            simp only [List.getElem_toArray, List.getElem_cons_succ, List.getElem_cons_zero]
            refine wp_load_row 26 _ rfl (ga) rfl 26 xA (0, 0) _ rg5 Tryd.underlying26 rfl hAn.info (hK _ _ ?_)
            simp only [Act.put, List.setIfInBounds_toArray, List.set_cons_succ, List.set_cons_zero]
            clear hK
            refine wpAny_ready (rs := [6]) (fuel := 4) (by kernel_rfl) (by simp) (AllReady.cons rfl (fun K' hK => ?_) AllReady.nil)
            rw [if_pos (by kernel_rfl)]
            simp only [List.getElem_toArray, List.getElem_cons_succ, List.getElem_cons_zero]
            refine wp_call_op (f := 40) (args := #[.agg xA, v63]) (by kernel_rfl) (c40 _ _ hBv63) (fun w64 hb => hK _ _ ?_)
            simp only [Act.put, List.setIfInBounds_toArray, List.set_cons_succ, List.set_cons_zero]
            clear hK
            replace rp0 := keep hb rp0
            replace rp1 := keep hb rp1
            replace rg5 := keep hb rg5
            replace rg6 := keep hb rg6
            replace rl7 := keep hb rl7
            replace rl8 := keep hb rl8
            replace rl10 := keep hb rl10
            replace rl12 := keep hb rl12
            replace rl14 := keep hb rl14
            replace rl16 := keep hb rl16
            replace hw := Below.after hw hb
            replace f4 := f4.below hb
            replace hBv63 := hBv63.keep hb
            clear hb
            refine wpAny_ready (rs := [7]) (fuel := 3) (by kernel_rfl) (by simp) (AllReady.cons rfl (fun K' hK => ?_) AllReady.nil)
            rw [if_pos (by kernel_rfl)]
            simp only [List.getElem_toArray, List.getElem_cons_succ, List.getElem_cons_zero]
            refine wp_call_op (f := 17) (args := #[.int .u64 1]) (by kernel_rfl) (c42.at _) (fun w65 hb => hK _ _ ?_)
            simp only [Act.put, List.setIfInBounds_toArray, List.set_cons_succ, List.set_cons_zero]
            clear hK
            replace rp0 := keep hb rp0
            replace rp1 := keep hb rp1
            replace rg5 := keep hb rg5
            replace rg6 := keep hb rg6
            replace rl7 := keep hb rl7
            replace rl8 := keep hb rl8
            replace rl10 := keep hb rl10
            replace rl12 := keep hb rl12
            replace rl14 := keep hb rl14
            replace rl16 := keep hb rl16
            replace hw := Below.after hw hb
            replace f4 := f4.below hb
            replace hBv63 := hBv63.keep hb
            clear hb
            refine wpAny_ready (rs := [8]) (fuel := 2) (by kernel_rfl) (by simp) (AllReady.cons rfl (fun K' hK => ?_) AllReady.nil)
            rw [if_pos (by kernel_rfl)]
            simp only [List.getElem_toArray, List.getElem_cons_succ, List.getElem_cons_zero]
            refine wp_call_op (f := 36) (args := #[.agg x40, .agg x42]) (by kernel_rfl) (c44.at _) (fun w66 hb => hK _ _ ?_)
            simp only [Act.put, List.setIfInBounds_toArray, List.set_cons_succ, List.set_cons_zero]
            clear hK
            replace rp0 := keep hb rp0
            replace rp1 := keep hb rp1
            replace rg5 := keep hb rg5
            replace rg6 := keep hb rg6
            replace rl7 := keep hb rl7
            replace rl8 := keep hb rl8
            replace rl10 := keep hb rl10
            replace rl12 := keep hb rl12
            replace rl14 := keep hb rl14
            replace rl16 := keep hb rl16
            replace hw := Below.after hw hb
            replace f4 := f4.below hb
            replace hBv63 := hBv63.keep hb
            clear hb
            refine wpAny_ready (rs := [9]) (fuel := 1) (by kernel_rfl) (by simp) (AllReady.cons rfl (fun K' hK => ?_) AllReady.nil)
            rw [if_pos (by kernel_rfl)]
            simp only [List.getElem_toArray, List.getElem_cons_succ, List.getElem_cons_zero]
            refine wp_pure_op (.bool true) (by kernel_rfl) (hK _ _ ?_)
            simp only [Act.put, List.setIfInBounds_toArray, List.set_cons_succ, List.set_cons_zero]
            clear hK
            refine wpAny_ready (rs := [10]) (fuel := 0) (by kernel_rfl) (by simp) (AllReady.cons rfl (fun K' hK => ?_) AllReady.nil)
            rw [if_pos (by kernel_rfl)]
            simp only [List.getElem_toArray, List.getElem_cons_succ, List.getElem_cons_zero]
            refine wp_pure_op (.bool false) (by kernel_rfl) (hK _ _ ?_)
            simp only [Act.put, List.setIfInBounds_toArray, List.set_cons_succ, List.set_cons_zero]
            clear hK
            exact cut_to (key v63 _ ⟨rp0, rp1, rg5, rg6, rl7, rl8, rl10, rl12, rl14, rl16, hw, f4⟩) (by kernel_rfl)
        · skip
          rw [if_pos (by kernel_rfl)]
          simp only [List.getElem_toArray, List.getElem_cons_succ, List.getElem_cons_zero]
          refine wp_pure_op (.bool false) (by kernel_rfl) (hK _ _ ?_)
          simp only [Act.put, List.setIfInBounds_toArray, List.set_cons_succ, List.set_cons_zero]
          clear hK
          refine wpAny_ready (rs := [0, 4, 5]) (fuel := 7) (by kernel_rfl) (by simp) (AllReady.cons rfl (fun K' hK => ?_) (AllReady.cons rfl (fun K' hK => ?_) (AllReady.cons rfl (fun K' hK => ?_) AllReady.nil)))
          · skip
            rw [if_pos (by kernel_rfl)]
            simp only [List.getElem_toArray, List.getElem_cons_zero]
            refine wp_pure_op (.bool true) (by kernel_rfl) (hK _ _ ?_)
            simp only [Act.put, List.setIfInBounds_toArray, List.set_cons_succ, List.set_cons_zero]
            clear hK
            refine wpAny_ready (rs := [4, 5]) (fuel := 6) (by kernel_rfl) (by simp) (AllReady.cons rfl (fun K' hK => ?_) (AllReady.cons rfl (fun K' hK => ?_) AllReady.nil))
            · skip
              rw [if_pos (by kernel_rfl)]
              simp only [List.getElem_toArray, List.getElem_cons_succ, List.getElem_cons_zero]
              refine wp_load_row 26 _ rfl (ga) rfl 26 xA (0, 0) _ rg5 Tryd.underlying26 rfl hAn.info (hK _ _ ?_)
              simp only [Act.put, List.setIfInBounds_toArray, List.set_cons_succ, List.set_cons_zero]
              clear hK
              refine wpAny_ready (rs := [5]) (fuel := 5) (by kernel_rfl) (by simp) (AllReady.cons rfl (fun K' hK => ?_) AllReady.nil)
              rw [if_pos (by kernel_rfl)]
              simp only [List.getElem_toArray, List.getElem_cons_succ, List.getElem_cons_zero]
              refine wp_call_ex (f := 41) (args := #[]) (by kernel_rfl) (half_walk w58) (fun v67 w67 ⟨hBv67, hb⟩ => hK _ _ ?_)
              simp only [Act.put, List.setIfInBounds_toArray, List.set_cons_succ, List.set_cons_zero]
              clear hK
              replace rp0 := keep hb rp0
              replace rp1 := keep hb rp1
              replace rg5 := keep hb rg5
              replace rg6 := keep hb rg6
              replace rl7 := keep hb rl7
              replace rl8 := keep hb rl8
              replace rl10 := keep hb rl10
              replace rl12 := keep hb rl12
              replace rl14 := keep hb rl14
              replace rl16 := keep hb rl16
              replace hw := Below.after hw hb
              replace f4 := f4.below hb
              clear hb
              refine wpAny_ready (rs := [6]) (fuel := 4) (by kernel_rfl) (by simp) (AllReady.cons rfl (fun K' hK => ?_) AllReady.nil)
              rw [if_pos (by kernel_rfl)]
              simp only [List.getElem_toArray, List.getElem_cons_succ, List.getElem_cons_zero]
              refine wp_call_op (f := 40) (args := #[.agg xA, v67]) (by kernel_rfl) (c40 _ _ hBv67) (fun w68 hb => hK _ _ ?_)
              simp only [Act.put, List.setIfInBounds_toArray, List.set_cons_succ, List.set_cons_zero]
              clear hK
              replace rp0 := keep hb rp0
              replace rp1 := keep hb rp1
              replace rg5 := keep hb rg5
              replace rg6 := keep hb rg6
              replace rl7 := keep hb rl7
              replace rl8 := keep hb rl8
              replace rl10 := keep hb rl10
              replace rl12 := keep hb rl12
              replace rl14 := keep hb rl14
              replace rl16 := keep hb rl16
              replace hw := Below.after hw hb
              replace f4 := f4.below hb
              replace hBv67 := hBv67.keep hb
              clear hb
              refine wpAny_ready (rs := [7]) (fuel := 3) (by kernel_rfl) (by simp) (AllReady.cons rfl (fun K' hK => ?_) AllReady.nil)
              rw [if_pos (by kernel_rfl)]
              simp only [List.getElem_toArray, List.getElem_cons_succ, List.getElem_cons_zero]
              refine wp_call_op (f := 17) (args := #[.int .u64 1]) (by kernel_rfl) (c42.at _) (fun w69 hb => hK _ _ ?_)
              simp only [Act.put, List.setIfInBounds_toArray, List.set_cons_succ, List.set_cons_zero]
              clear hK
              replace rp0 := keep hb rp0
              replace rp1 := keep hb rp1
              replace rg5 := keep hb rg5
              replace rg6 := keep hb rg6
              replace rl7 := keep hb rl7
              replace rl8 := keep hb rl8
              replace rl10 := keep hb rl10
              replace rl12 := keep hb rl12
              replace rl14 := keep hb rl14
              replace rl16 := keep hb rl16
              replace hw := Below.after hw hb
              replace f4 := f4.below hb
              replace hBv67 := hBv67.keep hb
              clear hb
              refine wpAny_ready (rs := [8]) (fuel := 2) (by kernel_rfl) (by simp) (AllReady.cons rfl (fun K' hK => ?_) AllReady.nil)
              rw [if_pos (by kernel_rfl)]
              simp only [List.getElem_toArray, List.getElem_cons_succ, List.getElem_cons_zero]
              refine wp_call_op (f := 36) (args := #[.agg x40, .agg x42]) (by kernel_rfl) (c44.at _) (fun w70 hb => hK _ _ ?_)
              simp only [Act.put, List.setIfInBounds_toArray, List.set_cons_succ, List.set_cons_zero]
              clear hK
              replace rp0 := keep hb rp0
              replace rp1 := keep hb rp1
              replace rg5 := keep hb rg5
              replace rg6 := keep hb rg6
              replace rl7 := keep hb rl7
              replace rl8 := keep hb rl8
              replace rl10 := keep hb rl10
              replace rl12 := keep hb rl12
              replace rl14 := keep hb rl14
              replace rl16 := keep hb rl16
              replace hw := Below.after hw hb
              replace f4 := f4.below hb
              replace hBv67 := hBv67.keep hb
              clear hb
              refine wpAny_ready (rs := [9]) (fuel := 1) (by kernel_rfl) (by simp) (AllReady.cons rfl (fun K' hK => ?_) AllReady.nil)
              rw [if_pos (by kernel_rfl)]
              simp only [List.getElem_toArray, List.getElem_cons_succ, List.getElem_cons_zero]
              refine wp_pure_op (.bool true) (by kernel_rfl) (hK _ _ ?_)
              simp only [Act.put, List.setIfInBounds_toArray, List.set_cons_succ, List.set_cons_zero]
              clear hK
              refine wpAny_ready (rs := [10]) (fuel := 0) (by kernel_rfl) (by simp) (AllReady.cons rfl (fun K' hK => ?_) AllReady.nil)
              rw [if_pos (by kernel_rfl)]
              simp only [List.getElem_toArray, List.getElem_cons_succ, List.getElem_cons_zero]
              refine wp_pure_op (.bool false) (by kernel_rfl) (hK _ _ ?_)
              simp only [Act.put, List.setIfInBounds_toArray, List.set_cons_succ, List.set_cons_zero]
              clear hK
              exact cut_to (key v67 _ ⟨rp0, rp1, rg5, rg6, rl7, rl8, rl10, rl12, rl14, rl16, hw, f4⟩) (by kernel_rfl)
            · skip
              rw [if_pos (by kernel_rfl)]
              simp only [List.getElem_toArray, List.getElem_cons_succ, List.getElem_cons_zero]
              refine wp_call_ex (f := 41) (args := #[]) (by kernel_rfl) (half_walk w58) (fun v71 w71 ⟨hBv71, hb⟩ => hK _ _ ?_)
              simp only [Act.put, List.setIfInBounds_toArray, List.set_cons_succ, List.set_cons_zero]
              clear hK
              replace rp0 := keep hb rp0
              replace rp1 := keep hb rp1
              replace rg5 := keep hb rg5
              replace rg6 := keep hb rg6
              replace rl7 := keep hb rl7
              replace rl8 := keep hb rl8
              replace rl10 := keep hb rl10
              replace rl12 := keep hb rl12
              replace rl14 := keep hb rl14
              replace rl16 := keep hb rl16
              replace hw := Below.after hw hb
              replace f4 := f4.below hb
              clear hb
              refine wpAny_ready (rs := [4]) (fuel := 5) (by kernel_rfl) (by simp) (AllReady.cons rfl (fun K' hK => ?_) AllReady.nil)
              rw [if_pos (by kernel_rfl)]
              simp only [List.getElem_toArray, List.getElem_cons_succ, List.getElem_cons_zero]
              refine wp_load_row 26 _ rfl (ga) rfl 26 xA (0, 0) _ rg5 Tryd.underlying26 rfl hAn.info (hK _ _ ?_)
              simp only [Act.put, List.setIfInBounds_toArray, List.set_cons_succ, List.set_cons_zero]
              clear hK
              refine wpAny_ready (rs := [6]) (fuel := 4) (by kernel_rfl) (by simp) (AllReady.cons rfl (fun K' hK => ?_) AllReady.nil)
              rw [if_pos (by kernel_rfl)]
              simp only [List.getElem_toArray, List.getElem_cons_succ, List.getElem_cons_zero]
              refine wp_call_op (f := 40) (args := #[.agg xA, v71]) (by kernel_rfl) (c40 _ _ hBv71) (fun w72 hb => hK _ _ ?_)
              simp only [Act.put, List.setIfInBounds_toArray, List.set_cons_succ, List.set_cons_zero]
              clear hK
              replace rp0 := keep hb rp0
              replace rp1 := keep hb rp1
              replace rg5 := keep hb rg5
              replace rg6 := keep hb rg6
              replace rl7 := keep hb rl7
              replace rl8 := keep hb rl8
              replace rl10 := keep hb rl10
              replace rl12 := keep hb rl12
              replace rl14 := keep hb rl14
              replace rl16 := keep hb rl16
              replace hw := Below.after hw hb
              replace f4 := f4.below hb
              replace hBv71 := hBv71.keep hb
              clear hb
              refine wpAny_ready (rs := [7]) (fuel := 3) (by kernel_rfl) (by simp) (AllReady.cons rfl (fun K' hK => ?_) AllReady.nil)
              rw [if_pos (by kernel_rfl)]
              simp only [List.getElem_toArray, List.getElem_cons_succ, List.getElem_cons_zero]
              refine wp_call_op (f := 17) (args := #[.int .u64 1]) (by kernel_rfl) (c42.at _) (fun w73 hb => hK _ _ ?_)
              simp only [Act.put, List.setIfInBounds_toArray, List.set_cons_succ, List.set_cons_zero]
              clear hK
              replace rp0 := keep hb rp0
              replace rp1 := keep hb rp1
              replace rg5 := keep hb rg5
              replace rg6 := keep hb rg6
              replace rl7 := keep hb rl7
              replace rl8 := keep hb rl8
              replace rl10 := keep hb rl10
              replace rl12 := keep hb rl12
              replace rl14 := keep hb rl14
              replace rl16 := keep hb rl16
              replace hw := Below.after hw hb
              replace f4 := f4.below hb
              replace hBv71 := hBv71.keep hb
              clear hb
              refine wpAny_ready (rs := [8]) (fuel := 2) (by kernel_rfl) (by simp) (AllReady.cons rfl (fun K' hK => ?_) AllReady.nil)
              rw [if_pos (by kernel_rfl)]
              simp only [List.getElem_toArray, List.getElem_cons_succ, List.getElem_cons_zero]
              refine wp_call_op (f := 36) (args := #[.agg x40, .agg x42]) (by kernel_rfl) (c44.at _) (fun w74 hb => hK _ _ ?_)
              simp only [Act.put, List.setIfInBounds_toArray, List.set_cons_succ, List.set_cons_zero]
              clear hK
              replace rp0 := keep hb rp0
              replace rp1 := keep hb rp1
              replace rg5 := keep hb rg5
              replace rg6 := keep hb rg6
              replace rl7 := keep hb rl7
              replace rl8 := keep hb rl8
              replace rl10 := keep hb rl10
              replace rl12 := keep hb rl12
              replace rl14 := keep hb rl14
              replace rl16 := keep hb rl16
              replace hw := Below.after hw hb
              replace f4 := f4.below hb
              replace hBv71 := hBv71.keep hb
              clear hb
              refine wpAny_ready (rs := [9]) (fuel := 1) (by kernel_rfl) (by simp) (AllReady.cons rfl (fun K' hK => ?_) AllReady.nil)
              rw [if_pos (by kernel_rfl)]
              simp only [List.getElem_toArray, List.getElem_cons_succ, List.getElem_cons_zero]
              refine wp_pure_op (.bool true) (by kernel_rfl) (hK _ _ ?_)
              simp only [Act.put, List.setIfInBounds_toArray, List.set_cons_succ, List.set_cons_zero]
              clear hK
              refine wpAny_ready (rs := [10]) (fuel := 0) (by kernel_rfl) (by simp) (AllReady.cons rfl (fun K' hK => ?_) AllReady.nil)
              rw [if_pos (by kernel_rfl)]
              simp only [List.getElem_toArray, List.getElem_cons_succ, List.getElem_cons_zero]
              refine wp_pure_op (.bool false) (by kernel_rfl) (hK _ _ ?_)
              simp only [Act.put, List.setIfInBounds_toArray, List.set_cons_succ, List.set_cons_zero]
              clear hK
              exact cut_to (key v71 _ ⟨rp0, rp1, rg5, rg6, rl7, rl8, rl10, rl12, rl14, rl16, hw, f4⟩) (by kernel_rfl)
          · skip
            rw [if_pos (by kernel_rfl)]
            simp only [List.getElem_toArray, List.getElem_cons_succ, List.getElem_cons_zero]
            refine wp_load_row 26 _ rfl (ga) rfl 26 xA (0, 0) _ rg5 Tryd.underlying26 rfl hAn.info (hK _ _ ?_)
            simp only [Act.put, List.setIfInBounds_toArray, List.set_cons_succ, List.set_cons_zero]
            clear hK
            refine wpAny_ready (rs := [0, 5]) (fuel := 6) (by kernel_rfl) (by simp) (AllReady.cons rfl (fun K' hK => ?_) (AllReady.cons rfl (fun K' hK => ?_) AllReady.nil))
            · skip
              rw [if_pos (by kernel_rfl)]
              simp only [List.getElem_toArray, List.getElem_cons_zero]
              refine wp_pure_op (.bool true) (by kernel_rfl) (hK _ _ ?_)
              simp only [Act.put, List.setIfInBounds_toArray, List.set_cons_succ, List.set_cons_zero]
              clear hK
              refine wpAny_ready (rs := [5]) (fuel := 5) (by kernel_rfl) (by simp) (AllReady.cons rfl (fun K' hK => ?_) AllReady.nil)
              rw [if_pos (by kernel_rfl)]
              simp only [List.getElem_toArray, List.getElem_cons_succ, List.getElem_cons_zero]
              refine wp_call_ex (f := 41) (args := #[]) (by kernel_rfl) (half_walk w58) (fun v75 w75 ⟨hBv75, hb⟩ => hK _ _ ?_)
              simp only [Act.put, List.setIfInBounds_toArray, List.set_cons_succ, List.set_cons_zero]
              clear hK
              replace rp0 := keep hb rp0
              replace rp1 := keep hb rp1
              replace rg5 := keep hb rg5
              replace rg6 := keep hb rg6
              replace rl7 := keep hb rl7
              replace rl8 := keep hb rl8
              replace rl10 := keep hb rl10
              replace rl12 := keep hb rl12
              replace rl14 := keep hb rl14
              replace rl16 := keep hb rl16
              replace hw := Below.after hw hb
              replace f4 := f4.below hb
              clear hb
              refine wpAny_ready (rs := [6]) (fuel := 4) (by kernel_rfl) (by simp) (AllReady.cons rfl (fun K' hK => ?_) AllReady.nil)
              rw [if_pos (by kernel_rfl)]
              simp only [List.getElem_toArray, List.getElem_cons_succ, List.getElem_cons_zero]
              refine wp_call_op (f := 40) (args := #[.agg xA, v75]) (by kernel_rfl) (c40 _ _ hBv75) (fun w76 hb => hK _ _ ?_)
              simp only [Act.put, List.setIfInBounds_toArray, List.set_cons_succ, List.set_cons_zero]
              clear hK
              replace rp0 := keep hb rp0
              replace rp1 := keep hb rp1
              replace rg5 := keep hb rg5
              replace rg6 := keep hb rg6
              replace rl7 := keep hb rl7
              replace rl8 := keep hb rl8
              replace rl10 := keep hb rl10
              replace rl12 := keep hb rl12
              replace rl14 := keep hb rl14
              replace rl16 := keep hb rl16
              replace hw := Below.after hw hb
              replace f4 := f4.below hb
              replace hBv75 := hBv75.keep hb
              clear hb
              refine wpAny_ready (rs := [7]) (fuel := 3) (by kernel_rfl) (by simp) (AllReady.cons rfl (fun K' hK => ?_) AllReady.nil)
              rw [if_pos (by kernel_rfl)]
              simp only [List.getElem_toArray, List.getElem_cons_succ, List.getElem_cons_zero]
              refine wp_call_op (f := 17) (args := #[.int .u64 1]) (by kernel_rfl) (c42.at _) (fun w77 hb => hK _ _ ?_)
              simp only [Act.put, List.setIfInBounds_toArray, List.set_cons_succ, List.set_cons_zero]
              clear hK
              replace rp0 := keep hb rp0
              replace rp1 := keep hb rp1
              replace rg5 := keep hb rg5
              replace rg6 := keep hb rg6
              replace rl7 := keep hb rl7
              replace rl8 := keep hb rl8
              replace rl10 := keep hb rl10
              replace rl12 := keep hb rl12
              replace rl14 := keep hb rl14
              replace rl16 := keep hb rl16
              replace hw := Below.after hw hb
              replace f4 := f4.below hb
              replace hBv75 := hBv75.keep hb
              clear hb
              refine wpAny_ready (rs := [8]) (fuel := 2) (by kernel_rfl) (by simp) (AllReady.cons rfl (fun K' hK => ?_) AllReady.nil)
              rw [if_pos (by kernel_rfl)]
              simp only [List.getElem_toArray, List.getElem_cons_succ, List.getElem_cons_zero]
              refine wp_call_op (f := 36) (args := #[.agg x40, .agg x42]) (by kernel_rfl) (c44.at _) (fun w78 hb => hK _ _ ?_)
              simp only [Act.put, List.setIfInBounds_toArray, List.set_cons_succ, List.set_cons_zero]
              clear hK
              replace rp0 := keep hb rp0
              replace rp1 := keep hb rp1
              replace rg5 := keep hb rg5
              replace rg6 := keep hb rg6
              replace rl7 := keep hb rl7
              replace rl8 := keep hb rl8
              replace rl10 := keep hb rl10
              replace rl12 := keep hb rl12
              replace rl14 := keep hb rl14
              replace rl16 := keep hb rl16
              replace hw := Below.after hw hb
              replace f4 := f4.below hb
              replace hBv75 := hBv75.keep hb
              clear hb
              refine wpAny_ready (rs := [9]) (fuel := 1) (by kernel_rfl) (by simp) (AllReady.cons rfl (fun K' hK => ?_) AllReady.nil)
              rw [if_pos (by kernel_rfl)]
              simp only [List.getElem_toArray, List.getElem_cons_succ, List.getElem_cons_zero]
              refine wp_pure_op (.bool true) (by kernel_rfl) (hK _ _ ?_)
              simp only [Act.put, List.setIfInBounds_toArray, List.set_cons_succ, List.set_cons_zero]
              clear hK
              refine wpAny_ready (rs := [10]) (fuel := 0) (by kernel_rfl) (by simp) (AllReady.cons rfl (fun K' hK => ?_) AllReady.nil)
              rw [if_pos (by kernel_rfl)]
              simp only [List.getElem_toArray, List.getElem_cons_succ, List.getElem_cons_zero]
              refine wp_pure_op (.bool false) (by kernel_rfl) (hK _ _ ?_)
              simp only [Act.put, List.setIfInBounds_toArray, List.set_cons_succ, List.set_cons_zero]
              clear hK
              exact cut_to (key v75 _ ⟨rp0, rp1, rg5, rg6, rl7, rl8, rl10, rl12, rl14, rl16, hw, f4⟩) (by kernel_rfl)
            · skip
              rw [if_pos (by kernel_rfl)]
              simp only [List.getElem_toArray, List.getElem_cons_succ, List.getElem_cons_zero]
              refine wp_call_ex (f := 41) (args := #[]) (by kernel_rfl) (half_walk w58) (fun v79 w79 ⟨hBv79, hb⟩ => hK _ _ ?_)
              simp only [Act.put, List.setIfInBounds_toArray, List.set_cons_succ, List.set_cons_zero]
              clear hK
              replace rp0 := keep hb rp0
              replace rp1 := keep hb rp1
              replace rg5 := keep hb rg5
              replace rg6 := keep hb rg6
              replace rl7 := keep hb rl7
              replace rl8 := keep hb rl8
              replace rl10 := keep hb rl10
              replace rl12 := keep hb rl12
              replace rl14 := keep hb rl14
              replace rl16 := keep hb rl16
              replace hw := Below.after hw hb
              replace f4 := f4.below hb
              clear hb
              refine wpAny_ready (rs := [0, 6]) (fuel := 5) (by kernel_rfl) (by simp) (AllReady.cons rfl (fun K' hK => ?_) (AllReady.cons rfl (fun K' hK => ?_) AllReady.nil))
              · skip
                rw [if_pos (by kernel_rfl)]
                simp only [List.getElem_toArray, List.getElem_cons_zero]
                refine wp_pure_op (.bool true) (by kernel_rfl) (hK _ _ ?_)
                simp only [Act.put, List.setIfInBounds_toArray, List.set_cons_succ, List.set_cons_zero]
                clear hK
                refine wpAny_ready (rs := [6]) (fuel := 4) (by kernel_rfl) (by simp) (AllReady.cons rfl (fun K' hK => ?_) AllReady.nil)
                rw [if_pos (by kernel_rfl)]
                simp only [List.getElem_toArray, List.getElem_cons_succ, List.getElem_cons_zero]
                refine wp_call_op (f := 40) (args := #[.agg xA, v79]) (by kernel_rfl) (c40 _ _ hBv79) (fun w80 hb => hK _ _ ?_)
                simp only [Act.put, List.setIfInBounds_toArray, List.set_cons_succ, List.set_cons_zero]
                clear hK
                replace rp0 := keep hb rp0
                replace rp1 := keep hb rp1
                replace rg5 := keep hb rg5
                replace rg6 := keep hb rg6
                replace rl7 := keep hb rl7
                replace rl8 := keep hb rl8
                replace rl10 := keep hb rl10
                replace rl12 := keep hb rl12
                replace rl14 := keep hb rl14
                replace rl16 := keep hb rl16
                replace hw := Below.after hw hb
                replace f4 := f4.below hb
                replace hBv79 := hBv79.keep hb
                clear hb
                refine wpAny_ready (rs := [7]) (fuel := 3) (by kernel_rfl) (by simp) (AllReady.cons rfl (fun K' hK => ?_) AllReady.nil)
                rw [if_pos (by kernel_rfl)]
                simp only [List.getElem_toArray, List.getElem_cons_succ, List.getElem_cons_zero]
                refine wp_call_op (f := 17) (args := #[.int .u64 1]) (by kernel_rfl) (c42.at _) (fun w81 hb => hK _ _ ?_)
                simp only [Act.put, List.setIfInBounds_toArray, List.set_cons_succ, List.set_cons_zero]
                clear hK
                replace rp0 := keep hb rp0
                replace rp1 := keep hb rp1
                replace rg5 := keep hb rg5
                replace rg6 := keep hb rg6
                replace rl7 := keep hb rl7
                replace rl8 := keep hb rl8
                replace rl10 := keep hb rl10
                replace rl12 := keep hb rl12
                replace rl14 := keep hb rl14
                replace rl16 := keep hb rl16
                replace hw := Below.after hw hb
                replace f4 := f4.below hb
                replace hBv79 := hBv79.keep hb
                clear hb
                refine wpAny_ready (rs := [8]) (fuel := 2) (by kernel_rfl) (by simp) (AllReady.cons rfl (fun K' hK => ?_) AllReady.nil)
                rw [if_pos (by kernel_rfl)]
                simp only [List.getElem_toArray, List.getElem_cons_succ, List.getElem_cons_zero]
                refine wp_call_op (f := 36) (args := #[.agg x40, .agg x42]) (by kernel_rfl) (c44.at _) (fun w82 hb => hK _ _ ?_)
                simp only [Act.put, List.setIfInBounds_toArray, List.set_cons_succ, List.set_cons_zero]
                clear hK
                replace rp0 := keep hb rp0
                replace rp1 := keep hb rp1
                replace rg5 := keep hb rg5
                replace rg6 := keep hb rg6
                replace rl7 := keep hb rl7
                replace rl8 := keep hb rl8
                replace rl10 := keep hb rl10
                replace rl12 := keep hb rl12
                replace rl14 := keep hb rl14
                replace rl16 := keep hb rl16
                replace hw := Below.after hw hb
                replace f4 := f4.below hb
                replace hBv79 := hBv79.keep hb
                clear hb
                refine wpAny_ready (rs := [9]) (fuel := 1) (by kernel_rfl) (by simp) (AllReady.cons rfl (fun K' hK => ?_) AllReady.nil)
                rw [if_pos (by kernel_rfl)]
                simp only [List.getElem_toArray, List.getElem_cons_succ, List.getElem_cons_zero]
                refine wp_pure_op (.bool true) (by kernel_rfl) (hK _ _ ?_)
                simp only [Act.put, List.setIfInBounds_toArray, List.set_cons_succ, List.set_cons_zero]
                clear hK
                refine wpAny_ready (rs := [10]) (fuel := 0) (by kernel_rfl) (by simp) (AllReady.cons rfl (fun K' hK => ?_) AllReady.nil)
                rw [if_pos (by kernel_rfl)]
                simp only [List.getElem_toArray, List.getElem_cons_succ, List.getElem_cons_zero]
                refine wp_pure_op (.bool false) (by kernel_rfl) (hK _ _ ?_)
                simp only [Act.put, List.setIfInBounds_toArray, List.set_cons_succ, List.set_cons_zero]
                clear hK
                exact cut_to (key v79 _ ⟨rp0, rp1, rg5, rg6, rl7, rl8, rl10, rl12, rl14, rl16, hw, f4⟩) (by kernel_rfl)
              · skip
                rw [if_pos (by kernel_rfl)]
                simp only [List.getElem_toArray, List.getElem_cons_succ, List.getElem_cons_zero]
                refine wp_call_op (f := 40) (args := #[.agg xA, v79]) (by kernel_rfl) (c40 _ _ hBv79) (fun w83 hb => hK _ _ ?_)
                simp only [Act.put, List.setIfInBounds_toArray, List.set_cons_succ, List.set_cons_zero]
                clear hK
                replace rp0 := keep hb rp0
                replace rp1 := keep hb rp1
                replace rg5 := keep hb rg5
                replace rg6 := keep hb rg6
                replace rl7 := keep hb rl7
                replace rl8 := keep hb rl8
                replace rl10 := keep hb rl10
                replace rl12 := keep hb rl12
                replace rl14 := keep hb rl14
                replace rl16 := keep hb rl16
                replace hw := Below.after hw hb
                replace f4 := f4.below hb
                replace hBv79 := hBv79.keep hb
                clear hb
                refine wpAny_ready (rs := [0, 7]) (fuel := 4) (by kernel_rfl) (by simp) (AllReady.cons rfl (fun K' hK => ?_) (AllReady.cons rfl (fun K' hK => ?_) AllReady.nil))
                · skip
                  rw [if_pos (by kernel_rfl)]
                  simp only [List.getElem_toArray, List.getElem_cons_zero]
                  refine wp_pure_op (.bool true) (by kernel_rfl) (hK _ _ ?_)
                  simp only [Act.put, List.setIfInBounds_toArray, List.set_cons_succ, List.set_cons_zero]
                  clear hK
                  refine wpAny_ready (rs := [7]) (fuel := 3) (by kernel_rfl) (by simp) (AllReady.cons rfl (fun K' hK => ?_) AllReady.nil)
                  rw [if_pos (by kernel_rfl)]
                  simp only [List.getElem_toArray, List.getElem_cons_succ, List.getElem_cons_zero]
                  refine wp_call_op (f := 17) (args := #[.int .u64 1]) (by kernel_rfl) (c42.at _) (fun w84 hb => hK _ _ ?_)
                  simp only [Act.put, List.setIfInBounds_toArray, List.set_cons_succ, List.set_cons_zero]
                  clear hK
                  replace rp0 := keep hb rp0
                  replace rp1 := keep hb rp1
                  replace rg5 := keep hb rg5
                  replace rg6 := keep hb rg6
                  replace rl7 := keep hb rl7
                  replace rl8 := keep hb rl8
                  replace rl10 := keep hb rl10
                  replace rl12 := keep hb rl12
                  replace rl14 := keep hb rl14
                  replace rl16 := keep hb rl16
                  replace hw := Below.after hw hb
                  replace f4 := f4.below hb
                  replace hBv79 := hBv79.keep hb
                  clear hb
                  refine wpAny_ready (rs := [8]) (fuel := 2) (by kernel_rfl) (by simp) (AllReady.cons rfl (fun K' hK => ?_) AllReady.nil)
                  rw [if_pos (by kernel_rfl)]
                  simp only [List.getElem_toArray, List.getElem_cons_succ, List.getElem_cons_zero]
                  refine wp_call_op (f := 36) (args := #[.agg x40, .agg x42]) (by kernel_rfl) (c44.at _) (fun w85 hb => hK _ _ ?_)
                  simp only [Act.put, List.setIfInBounds_toArray, List.set_cons_succ, List.set_cons_zero]
                  clear hK
                  replace rp0 := keep hb rp0
                  replace rp1 := keep hb rp1
                  replace rg5 := keep hb rg5
                  replace rg6 := keep hb rg6
                  replace rl7 := keep hb rl7
                  replace rl8 := keep hb rl8
                  replace rl10 := keep hb rl10
                  replace rl12 := keep hb rl12
                  replace rl14 := keep hb rl14
                  replace rl16 := keep hb rl16
                  replace hw := Below.after hw hb
                  replace f4 := f4.below hb
                  replace hBv79 := hBv79.keep hb
                  clear hb
                  refine wpAny_ready (rs := [9]) (fuel := 1) (by kernel_rfl) (by simp) (AllReady.cons rfl (fun K' hK => ?_) AllReady.nil)
                  rw [if_pos (by kernel_rfl)]
                  simp only [List.getElem_toArray, List.getElem_cons_succ, List.getElem_cons_zero]
                  refine wp_pure_op (.bool true) (by kernel_rfl) (hK _ _ ?_)
                  simp only [Act.put, List.setIfInBounds_toArray, List.set_cons_succ, List.set_cons_zero]
                  clear hK
                  refine wpAny_ready (rs := [10]) (fuel := 0) (by kernel_rfl) (by simp) (AllReady.cons rfl (fun K' hK => ?_) AllReady.nil)
                  rw [if_pos (by kernel_rfl)]
                  simp only [List.getElem_toArray, List.getElem_cons_succ, List.getElem_cons_zero]
                  refine wp_pure_op (.bool false) (by kernel_rfl) (hK _ _ ?_)
                  simp only [Act.put, List.setIfInBounds_toArray, List.set_cons_succ, List.set_cons_zero]
                  clear hK
                  exact cut_to (key v79 _ ⟨rp0, rp1, rg5, rg6, rl7, rl8, rl10, rl12, rl14, rl16, hw, f4⟩) (by kernel_rfl)
                · skip
                  rw [if_pos (by kernel_rfl)]
                  simp only [List.getElem_toArray, List.getElem_cons_succ, List.getElem_cons_zero]
                  refine wp_call_op (f := 17) (args := #[.int .u64 1]) (by kernel_rfl) (c42.at _) (fun w86 hb => hK _ _ ?_)
                  simp only [Act.put, List.setIfInBounds_toArray, List.set_cons_succ, List.set_cons_zero]
                  clear hK
                  replace rp0 := keep hb rp0
                  replace rp1 := keep hb rp1
                  replace rg5 := keep hb rg5
                  replace rg6 := keep hb rg6
                  replace rl7 := keep hb rl7
                  replace rl8 := keep hb rl8
                  replace rl10 := keep hb rl10
                  replace rl12 := keep hb rl12
                  replace rl14 := keep hb rl14
                  replace rl16 := keep hb rl16
                  replace hw := Below.after hw hb
                  replace f4 := f4.below hb
                  replace hBv79 := hBv79.keep hb
                  clear hb
                  refine wpAny_ready (rs := [0, 8]) (fuel := 3) (by kernel_rfl) (by simp) (AllReady.cons rfl (fun K' hK => ?_) (AllReady.cons rfl (fun K' hK => ?_) AllReady.nil))
                  · skip
                    rw [if_pos (by kernel_rfl)]
                    simp only [List.getElem_toArray, List.getElem_cons_zero]
                    refine wp_pure_op (.bool true) (by kernel_rfl) (hK _ _ ?_)
                    simp only [Act.put, List.setIfInBounds_toArray, List.set_cons_succ, List.set_cons_zero]
                    clear hK
                    refine wpAny_ready (rs := [8]) (fuel := 2) (by kernel_rfl) (by simp) (AllReady.cons rfl (fun K' hK => ?_) AllReady.nil)
                    rw [if_pos (by kernel_rfl)]
                    simp only [List.getElem_toArray, List.getElem_cons_succ, List.getElem_cons_zero]
                    refine wp_call_op (f := 36) (args := #[.agg x40, .agg x42]) (by kernel_rfl) (c44.at _) (fun w87 hb => hK _ _ ?_)
                    simp only [Act.put, List.setIfInBounds_toArray, List.set_cons_succ, List.set_cons_zero]
                    clear hK
                    replace rp0 := keep hb rp0
                    replace rp1 := keep hb rp1
                    replace rg5 := keep hb rg5
                    replace rg6 := keep hb rg6
                    replace rl7 := keep hb rl7
                    replace rl8 := keep hb rl8
                    replace rl10 := keep hb rl10
                    replace rl12 := keep hb rl12
                    replace rl14 := keep hb rl14
                    replace rl16 := keep hb rl16
                    replace hw := Below.after hw hb
                    replace f4 := f4.below hb
                    replace hBv79 := hBv79.keep hb
                    clear hb
                    refine wpAny_ready (rs := [9]) (fuel := 1) (by kernel_rfl) (by simp) (AllReady.cons rfl (fun K' hK => ?_) AllReady.nil)
                    rw [if_pos (by kernel_rfl)]
                    simp only [List.getElem_toArray, List.getElem_cons_succ, List.getElem_cons_zero]
                    refine wp_pure_op (.bool true) (by kernel_rfl) (hK _ _ ?_)
                    simp only [Act.put, List.setIfInBounds_toArray, List.set_cons_succ, List.set_cons_zero]
                    clear hK
                    refine wpAny_ready (rs := [10]) (fuel := 0) (by kernel_rfl) (by simp) (AllReady.cons rfl (fun K' hK => ?_) AllReady.nil)
                    rw [if_pos (by kernel_rfl)]
                    simp only [List.getElem_toArray, List.getElem_cons_succ, List.getElem_cons_zero]
                    refine wp_pure_op (.bool false) (by kernel_rfl) (hK _ _ ?_)
                    simp only [Act.put, List.setIfInBounds_toArray, List.set_cons_succ, List.set_cons_zero]
                    clear hK
                    exact cut_to (key v79 _ ⟨rp0, rp1, rg5, rg6, rl7, rl8, rl10, rl12, rl14, rl16, hw, f4⟩) (by kernel_rfl)
                  · skip
                    rw [if_pos (by kernel_rfl)]
                    simp only [List.getElem_toArray, List.getElem_cons_succ, List.getElem_cons_zero]
                    refine wp_call_op (f := 36) (args := #[.agg x40, .agg x42]) (by kernel_rfl) (c44.at _) (fun w88 hb => hK _ _ ?_)
                    simp only [Act.put, List.setIfInBounds_toArray, List.set_cons_succ, List.set_cons_zero]
                    clear hK
                    replace rp0 := keep hb rp0
                    replace rp1 := keep hb rp1
                    replace rg5 := keep hb rg5
                    replace rg6 := keep hb rg6
                    replace rl7 := keep hb rl7
                    replace rl8 := keep hb rl8
                    replace rl10 := keep hb rl10
                    replace rl12 := keep hb rl12
                    replace rl14 := keep hb rl14
                    replace rl16 := keep hb rl16
                    replace hw := Below.after hw hb
                    replace f4 := f4.below hb
                    replace hBv79 := hBv79.keep hb
                    clear hb
                    refine wpAny_ready (rs := [0, 9]) (fuel := 2) (by kernel_rfl) (by simp) (AllReady.cons rfl (fun K' hK => ?_) (AllReady.cons rfl (fun K' hK => ?_) AllReady.nil))
                    · skip
                      rw [if_pos (by kernel_rfl)]
                      simp only [List.getElem_toArray, List.getElem_cons_zero]
                      refine wp_pure_op (.bool true) (by kernel_rfl) (hK _ _ ?_)
                      simp only [Act.put, List.setIfInBounds_toArray, List.set_cons_succ, List.set_cons_zero]
                      clear hK
                      refine wpAny_ready (rs := [9]) (fuel := 1) (by kernel_rfl) (by simp) (AllReady.cons rfl (fun K' hK => ?_) AllReady.nil)
                      rw [if_pos (by kernel_rfl)]
                      simp only [List.getElem_toArray, List.getElem_cons_succ, List.getElem_cons_zero]
                      refine wp_pure_op (.bool true) (by kernel_rfl) (hK _ _ ?_)
                      simp only [Act.put, List.setIfInBounds_toArray, List.set_cons_succ, List.set_cons_zero]
                      clear hK
                      refine wpAny_ready (rs := [10]) (fuel := 0) (by kernel_rfl) (by simp) (AllReady.cons rfl (fun K' hK => ?_) AllReady.nil)
                      rw [if_pos (by kernel_rfl)]
                      simp only [List.getElem_toArray, List.getElem_cons_succ, List.getElem_cons_zero]
                      refine wp_pure_op (.bool false) (by kernel_rfl) (hK _ _ ?_)
                      simp only [Act.put, List.setIfInBounds_toArray, List.set_cons_succ, List.set_cons_zero]
                      clear hK
                      exact cut_to (key v79 _ ⟨rp0, rp1, rg5, rg6, rl7, rl8, rl10, rl12, rl14, rl16, hw, f4⟩) (by kernel_rfl)
                    · skip
                      rw [if_pos (by kernel_rfl)]
                      simp only [List.getElem_toArray, List.getElem_cons_succ, List.getElem_cons_zero]
                      refine wp_pure_op (.bool true) (by kernel_rfl) (hK _ _ ?_)
                      simp only [Act.put, List.setIfInBounds_toArray, List.set_cons_succ, List.set_cons_zero]
                      clear hK
                      refine wpAny_ready (rs := [0]) (fuel := 1) (by kernel_rfl) (by simp) (AllReady.cons rfl (fun K' hK => ?_) AllReady.nil)
                      rw [if_pos (by kernel_rfl)]
                      simp only [List.getElem_toArray, List.getElem_cons_zero]
                      refine wp_pure_op (.bool true) (by kernel_rfl) (hK _ _ ?_)
                      simp only [Act.put, List.setIfInBounds_toArray, List.set_cons_succ, List.set_cons_zero]
                      clear hK
                      refine wpAny_ready (rs := [10]) (fuel := 0) (by kernel_rfl) (by simp) (AllReady.cons rfl (fun K' hK => ?_) AllReady.nil)
                      rw [if_pos (by kernel_rfl)]
                      simp only [List.getElem_toArray, List.getElem_cons_succ, List.getElem_cons_zero]
                      refine wp_pure_op (.bool false) (by kernel_rfl) (hK _ _ ?_)
                      simp only [Act.put, List.setIfInBounds_toArray, List.set_cons_succ, List.set_cons_zero]
                      clear hK
                      exact cut_to (key v79 _ ⟨rp0, rp1, rg5, rg6, rl7, rl8, rl10, rl12, rl14, rl16, hw, f4⟩) (by kernel_rfl)
          · skip
            rw [if_pos (by kernel_rfl)]
            simp only [List.getElem_toArray, List.getElem_cons_succ, List.getElem_cons_zero]
            refine wp_call_ex (f := 41) (args := #[]) (by kernel_rfl) (half_walk w58) (fun v89 w89 ⟨hBv89, hb⟩ => hK _ _ ?_)
            simp only [Act.put, List.setIfInBounds_toArray, List.set_cons_succ, List.set_cons_zero]
            clear hK
            replace rp0 := keep hb rp0
            replace rp1 := keep hb rp1
            replace rg5 := keep hb rg5
            replace rg6 := keep hb rg6
            replace rl7 := keep hb rl7
            replace rl8 := keep hb rl8
            replace rl10 := keep hb rl10
            replace rl12 := keep hb rl12
            replace rl14 := keep hb rl14
            replace rl16 := keep hb rl16
            replace hw := Below.after hw hb
            replace f4 := f4.below hb
            clear hb
            refine wpAny_ready (rs := [0, 4]) (fuel := 6) (by kernel_rfl) (by simp) (AllReady.cons rfl (fun K' hK => ?_) (AllReady.cons rfl (fun K' hK => ?_) AllReady.nil))
            · skip
              rw [if_pos (by kernel_rfl)]
              simp only [List.getElem_toArray, List.getElem_cons_zero]
              refine wp_pure_op (.bool true) (by kernel_rfl) (hK _ _ ?_)
              simp only [Act.put, List.setIfInBounds_toArray, List.set_cons_succ, List.set_cons_zero]
              clear hK
              refine wpAny_ready (rs := [4]) (fuel := 5) (by kernel_rfl) (by simp) (AllReady.cons rfl (fun K' hK => ?_) AllReady.nil)
              rw [if_pos (by kernel_rfl)]
              simp only [List.getElem_toArray, List.getElem_cons_succ, List.getElem_cons_zero]
              refine wp_load_row 26 _ rfl (ga) rfl 26 xA (0, 0) _ rg5 Tryd.underlying26 rfl hAn.info (hK _ _ ?_)
              simp only [Act.put, List.setIfInBounds_toArray, List.set_cons_succ, List.set_cons_zero]
              clear hK
              refine wpAny_ready (rs := [6]) (fuel := 4) (by kernel_rfl) (by simp) (AllReady.cons rfl (fun K' hK => ?_) AllReady.nil)
              rw [if_pos (by kernel_rfl)]
              simp only [List.getElem_toArray, List.getElem_cons_succ, List.getElem_cons_zero]
              refine wp_call_op (f := 40) (args := #[.agg xA, v89]) (by kernel_rfl) (c40 _ _ hBv89) (fun w90 hb => hK _ _ ?_)
              simp only [Act.put, List.setIfInBounds_toArray, List.set_cons_succ, List.set_cons_zero]
              clear hK
              replace rp0 := keep hb rp0
              replace rp1 := keep hb rp1
              replace rg5 := keep hb rg5
              replace rg6 := keep hb rg6
              replace rl7 := keep hb rl7
              replace rl8 := keep hb rl8
              replace rl10 := keep hb rl10
              replace rl12 := keep hb rl12
              replace rl14 := keep hb rl14
              replace rl16 := keep hb rl16
              replace hw := Below.after hw hb
              replace f4 := f4.below hb
              replace hBv89 := hBv89.keep hb
              clear hb
              refine wpAny_ready (rs := [7]) (fuel := 3) (by kernel_rfl) (by simp) (AllReady.cons rfl (fun K' hK => ?_) AllReady.nil)
              rw [if_pos (by kernel_rfl)]
              simp only [List.getElem_toArray, List.getElem_cons_succ, List.getElem_cons_zero]
              refine wp_call_op (f := 17) (args := #[.int .u64 1]) (by kernel_rfl) (c42.at _) (fun w91 hb => hK _ _ ?_)
              simp only [Act.put, List.setIfInBounds_toArray, List.set_cons_succ, List.set_cons_zero]
              clear hK
              replace rp0 := keep hb rp0
              replace rp1 := keep hb rp1
              replace rg5 := keep hb rg5
              replace rg6 := keep hb rg6
              replace rl7 := keep hb rl7
              replace rl8 := keep hb rl8
              replace rl10 := keep hb rl10
              replace rl12 := keep hb rl12
              replace rl14 := keep hb rl14
              replace rl16 := keep hb rl16
              replace hw := Below.after hw hb
              replace f4 := f4.below hb
              replace hBv89 := hBv89.keep hb
              clear hb
              refine wpAny_ready (rs := [8]) (fuel := 2) (by kernel_rfl) (by simp) (AllReady.cons rfl (fun K' hK => ?_) AllReady.nil)
              rw [if_pos (by kernel_rfl)]
              simp only [List.getElem_toArray, List.getElem_cons_succ, List.getElem_cons_zero]
              refine wp_call_op (f := 36) (args := #[.agg x40, .agg x42]) (by kernel_rfl) (c44.at _) (fun w92 hb => hK _ _ ?_)
              simp only [Act.put, List.setIfInBounds_toArray, List.set_cons_succ, List.set_cons_zero]
              clear hK
              replace rp0 := keep hb rp0
              replace rp1 := keep hb rp1
              replace rg5 := keep hb rg5
              replace rg6 := keep hb rg6
              replace rl7 := keep hb rl7
              replace rl8 := keep hb rl8
              replace rl10 := keep hb rl10
              replace rl12 := keep hb rl12
              replace rl14 := keep hb rl14
              replace rl16 := keep hb rl16
              replace hw := Below.after hw hb
              replace f4 := f4.below hb
              replace hBv89 := hBv89.keep hb
              clear hb
              refine wpAny_ready (rs := [9]) (fuel := 1) (by kernel_rfl) (by simp) (AllReady.cons rfl (fun K' hK => ?_) AllReady.nil)
              rw [if_pos (by kernel_rfl)]
              simp only [List.getElem_toArray, List.getElem_cons_succ, List.getElem_cons_zero]
              refine wp_pure_op (.bool true) (by kernel_rfl) (hK _ _ ?_)
              simp only [Act.put, List.setIfInBounds_toArray, List.set_cons_succ, List.set_cons_zero]
              clear hK
              refine wpAny_ready (rs := [10]) (fuel := 0) (by kernel_rfl) (by simp) (AllReady.cons rfl (fun K' hK => ?_) AllReady.nil)
              rw [if_pos (by kernel_rfl)]
              simp only [List.getElem_toArray, List.getElem_cons_succ, List.getElem_cons_zero]
              refine wp_pure_op (.bool false) (by kernel_rfl) (hK _ _ ?_)
              simp only [Act.put, List.setIfInBounds_toArray, List.set_cons_succ, List.set_cons_zero]
              clear hK
              exact cut_to (key v89 _ ⟨rp0, rp1, rg5, rg6, rl7, rl8, rl10, rl12, rl14, rl16, hw, f4⟩) (by kernel_rfl)
            · skip
              rw [if_pos (by kernel_rfl)]
              simp only [List.getElem_toArray, List.getElem_cons_succ, List.getElem_cons_zero]
              refine wp_load_row 26 _ rfl (ga) rfl 26 xA (0, 0) _ rg5 Tryd.underlying26 rfl hAn.info (hK _ _ ?_)
              simp only [Act.put, List.setIfInBounds_toArray, List.set_cons_succ, List.set_cons_zero]
              clear hK
              refine wpAny_ready (rs := [0, 6]) (fuel := 5) (by kernel_rfl) (by simp) (AllReady.cons rfl (fun K' hK => ?_) (AllReady.cons rfl (fun K' hK => ?_) AllReady.nil))
              · skip
                rw [if_pos (by kernel_rfl)]
                simp only [List.getElem_toArray, List.getElem_cons_zero]
                refine wp_pure_op (.bool true) (by kernel_rfl) (hK _ _ ?_)
                simp only [Act.put, List.setIfInBounds_toArray, List.set_cons_succ, List.set_cons_zero]
                clear hK
                refine wpAny_ready (rs := [6]) (fuel := 4) (by kernel_rfl) (by simp) (AllReady.cons rfl (fun K' hK => ?_) AllReady.nil)
                rw [if_pos (by kernel_rfl)]
                simp only [List.getElem_toArray, List.getElem_cons_succ, List.getElem_cons_zero]
                refine wp_call_op (f := 40) (args := #[.agg xA, v89]) (by kernel_rfl) (c40 _ _ hBv89) (fun w93 hb => hK _ _ ?_)
                simp only [Act.put, List.setIfInBounds_toArray, List.set_cons_succ, List.set_cons_zero]
                clear hK
                replace rp0 := keep hb rp0
                replace rp1 := keep hb rp1
                replace rg5 := keep hb rg5
                replace rg6 := keep hb rg6
                replace rl7 := keep hb rl7
                replace rl8 := keep hb rl8
                replace rl10 := keep hb rl10
                replace rl12 := keep hb rl12
                replace rl14 := keep hb rl14
                replace rl16 := keep hb rl16
                replace hw := Below.after hw hb
                replace f4 := f4.below hb
                replace hBv89 := hBv89.keep hb
                clear hb
                refine wpAny_ready (rs := [7]) (fuel := 3) (by kernel_rfl) (by simp) (AllReady.cons rfl (fun K' hK => ?_) AllReady.nil)
                rw [if_pos (by kernel_rfl)]
                simp only [List.getElem_toArray, List.getElem_cons_succ, List.getElem_cons_zero]
                refine wp_call_op (f := 17) (args := #[.int .u64 1]) (by kernel_rfl) (c42.at _) (fun w94 hb => hK _ _ ?_)
                simp only [Act.put, List.setIfInBounds_toArray, List.set_cons_succ, List.set_cons_zero]
                clear hK
                replace rp0 := keep hb rp0
                replace rp1 := keep hb rp1
                replace rg5 := keep hb rg5
                replace rg6 := keep hb rg6
                replace rl7 := keep hb rl7
                replace rl8 := keep hb rl8
                replace rl10 := keep hb rl10
                replace rl12 := keep hb rl12
                replace rl14 := keep hb rl14
                replace rl16 := keep hb rl16
                replace hw := Below.after hw hb
                replace f4 := f4.below hb
                replace hBv89 := hBv89.keep hb
                clear hb
                refine wpAny_ready (rs := [8]) (fuel := 2) (by kernel_rfl) (by simp) (AllReady.cons rfl (fun K' hK => ?_) AllReady.nil)
                rw [if_pos (by kernel_rfl)]
                simp only [List.getElem_toArray, List.getElem_cons_succ, List.getElem_cons_zero]
                refine wp_call_op (f := 36) (args := #[.agg x40, .agg x42]) (by kernel_rfl) (c44.at _) (fun w95 hb => hK _ _ ?_)
                simp only [Act.put, List.setIfInBounds_toArray, List.set_cons_succ, List.set_cons_zero]
                clear hK
                replace rp0 := keep hb rp0
                replace rp1 := keep hb rp1
                replace rg5 := keep hb rg5
                replace rg6 := keep hb rg6
                replace rl7 := keep hb rl7
                replace rl8 := keep hb rl8
                replace rl10 := keep hb rl10
                replace rl12 := keep hb rl12
                replace rl14 := keep hb rl14
                replace rl16 := keep hb rl16
                replace hw := Below.after hw hb
                replace f4 := f4.below hb
                replace hBv89 := hBv89.keep hb
                clear hb
                refine wpAny_ready (rs := [9]) (fuel := 1) (by kernel_rfl) (by simp) (AllReady.cons rfl (fun K' hK => ?_) AllReady.nil)
                rw [if_pos (by kernel_rfl)]
                simp only [List.getElem_toArray, List.getElem_cons_succ, List.getElem_cons_zero]
                refine wp_pure_op (.bool true) (by kernel_rfl) (hK _ _ ?_)
                simp only [Act.put, List.setIfInBounds_toArray, List.set_cons_succ, List.set_cons_zero]
                clear hK
                refine wpAny_ready (rs := [10]) (fuel := 0) (by kernel_rfl) (by simp) (AllReady.cons rfl (fun K' hK => ?_) AllReady.nil)
                rw [if_pos (by kernel_rfl)]
                simp only [List.getElem_toArray, List.getElem_cons_succ, List.getElem_cons_zero]
                refine wp_pure_op (.bool false) (by kernel_rfl) (hK _ _ ?_)
                simp only [Act.put, List.setIfInBounds_toArray, List.set_cons_succ, List.set_cons_zero]
                clear hK
                exact cut_to (key v89 _ ⟨rp0, rp1, rg5, rg6, rl7, rl8, rl10, rl12, rl14, rl16, hw, f4⟩) (by kernel_rfl)
              · skip
                rw [if_pos (by kernel_rfl)]
                simp only [List.getElem_toArray, List.getElem_cons_succ, List.getElem_cons_zero]
                refine wp_call_op (f := 40) (args := #[.agg xA, v89]) (by kernel_rfl) (c40 _ _ hBv89) (fun w96 hb => hK _ _ ?_)
                simp only [Act.put, List.setIfInBounds_toArray, List.set_cons_succ, List.set_cons_zero]
                clear hK
                replace rp0 := keep hb rp0
                replace rp1 := keep hb rp1
                replace rg5 := keep hb rg5
                replace rg6 := keep hb rg6
                replace rl7 := keep hb rl7
                replace rl8 := keep hb rl8
                replace rl10 := keep hb rl10
                replace rl12 := keep hb rl12
                replace rl14 := keep hb rl14
                replace rl16 := keep hb rl16
                replace hw := Below.after hw hb
                replace f4 := f4.below hb
                replace hBv89 := hBv89.keep hb
                clear hb
                refine wpAny_ready (rs := [0, 7]) (fuel := 4) (by kernel_rfl) (by simp) (AllReady.cons rfl (fun K' hK => ?_) (AllReady.cons rfl (fun K' hK => ?_) AllReady.nil))
                · skip
                  rw [if_pos (by kernel_rfl)]
                  simp only [List.getElem_toArray, List.getElem_cons_zero]
                  refine wp_pure_op (.bool true) (by kernel_rfl) (hK _ _ ?_)
                  simp only [Act.put, List.setIfInBounds_toArray, List.set_cons_succ, List.set_cons_zero]
                  clear hK
                  refine wpAny_ready (rs := [7]) (fuel := 3) (by kernel_rfl) (by simp) (AllReady.cons rfl (fun K' hK => ?_) AllReady.nil)
                  rw [if_pos (by kernel_rfl)]
                  simp only [List.getElem_toArray, List.getElem_cons_succ, List.getElem_cons_zero]
                  refine wp_call_op (f := 17) (args := #[.int .u64 1]) (by kernel_rfl) (c42.at _) (fun w97 hb => hK _ _ ?_)
                  simp only [Act.put, List.setIfInBounds_toArray, List.set_cons_succ, List.set_cons_zero]
                  clear hK
                  replace rp0 := keep hb rp0
                  replace rp1 := keep hb rp1
                  replace rg5 := keep hb rg5
                  replace rg6 := keep hb rg6
                  replace rl7 := keep hb rl7
                  replace rl8 := keep hb rl8
                  replace rl10 := keep hb rl10
                  replace rl12 := keep hb rl12
                  replace rl14 := keep hb rl14
                  replace rl16 := keep hb rl16
                  replace hw := Below.after hw hb
                  replace f4 := f4.below hb
                  replace hBv89 := hBv89.keep hb
                  clear hb
                  refine wpAny_ready (rs := [8]) (fuel := 2) (by kernel_rfl) (by simp) (AllReady.cons rfl (fun K' hK => ?_) AllReady.nil)
                  rw [if_pos (by kernel_rfl)]
                  simp only [List.getElem_toArray, List.getElem_cons_succ, List.getElem_cons_zero]
                  refine wp_call_op (f := 36) (args := #[.agg x40, .agg x42]) (by kernel_rfl) (c44.at _) (fun w98 hb => hK _ _ ?_)
                  simp only [Act.put, List.setIfInBounds_toArray, List.set_cons_succ, List.set_cons_zero]
                  clear hK
                  replace rp0 := keep hb rp0
                  replace rp1 := keep hb rp1
                  replace rg5 := keep hb rg5
                  replace rg6 := keep hb rg6
                  replace rl7 := keep hb rl7
                  replace rl8 := keep hb rl8
                  replace rl10 := keep hb rl10
                  replace rl12 := keep hb rl12
                  replace rl14 := keep hb rl14
                  replace rl16 := keep hb rl16
                  replace hw := Below.after hw hb
                  replace f4 := f4.below hb
                  replace hBv89 := hBv89.keep hb
                  clear hb
                  refine wpAny_ready (rs := [9]) (fuel := 1) (by kernel_rfl) (by simp) (AllReady.cons rfl (fun K' hK => ?_) AllReady.nil)
                  rw [if_pos (by kernel_rfl)]
                  simp only [List.getElem_toArray, List.getElem_cons_succ, List.getElem_cons_zero]
                  refine wp_pure_op (.bool true) (by kernel_rfl) (hK _ _ ?_)
                  simp only [Act.put, List.setIfInBounds_toArray, List.set_cons_succ, List.set_cons_zero]
                  clear hK
                  refine wpAny_ready (rs := [10]) (fuel := 0) (by kernel_rfl) (by simp) (AllReady.cons rfl (fun K' hK => ?_) AllReady.nil)
                  rw [if_pos (by kernel_rfl)]
                  simp only [List.getElem_toArray, List.getElem_cons_succ, List.getElem_cons_zero]
                  refine wp_pure_op (.bool false) (by kernel_rfl) (hK _ _ ?_)
                  simp only [Act.put, List.setIfInBounds_toArray, List.set_cons_succ, List.set_cons_zero]
                  clear hK
                  exact cut_to (key v89 _ ⟨rp0, rp1, rg5, rg6, rl7, rl8, rl10, rl12, rl14, rl16, hw, f4⟩) (by kernel_rfl)
                · skip
                  rw [if_pos (by kernel_rfl)]
                  simp only [List.getElem_toArray, List.getElem_cons_succ, List.getElem_cons_zero]
                  refine wp_call_op (f := 17) (args := #[.int .u64 1]) (by kernel_rfl) (c42.at _) (fun w99 hb => hK _ _ ?_)
                  simp only [Act.put, List.setIfInBounds_toArray, List.set_cons_succ, List.set_cons_zero]
                  clear hK
                  replace rp0 := keep hb rp0
                  replace rp1 := keep hb rp1
                  replace rg5 := keep hb rg5
                  replace rg6 := keep hb rg6
                  replace rl7 := keep hb rl7
                  replace rl8 := keep hb rl8
                  replace rl10 := keep hb rl10
                  replace rl12 := keep hb rl12
                  replace rl14 := keep hb rl14
                  replace rl16 := keep hb rl16
                  replace hw := Below.after hw hb
                  replace f4 := f4.below hb
                  replace hBv89 := hBv89.keep hb
                  clear hb
                  refine wpAny_ready (rs := [0, 8]) (fuel := 3) (by kernel_rfl) (by simp) (AllReady.cons rfl (fun K' hK => ?_) (AllReady.cons rfl (fun K' hK => ?_) AllReady.nil))
                  · skip
                    rw [if_pos (by kernel_rfl)]
                    simp only [List.getElem_toArray, List.getElem_cons_zero]
                    refine wp_pure_op (.bool true) (by kernel_rfl) (hK _ _ ?_)
                    simp only [Act.put, List.setIfInBounds_toArray, List.set_cons_succ, List.set_cons_zero]
                    clear hK
                    refine wpAny_ready (rs := [8]) (fuel := 2) (by kernel_rfl) (by simp) (AllReady.cons rfl (fun K' hK => ?_) AllReady.nil)
                    rw [if_pos (by kernel_rfl)]
                    simp only [List.getElem_toArray, List.getElem_cons_succ, List.getElem_cons_zero]
                    refine wp_call_op (f := 36) (args := #[.agg x40, .agg x42]) (by kernel_rfl) (c44.at _) (fun w100 hb => hK _ _ ?_)
                    simp only [Act.put, List.setIfInBounds_toArray, List.set_cons_succ, List.set_cons_zero]
                    clear hK
                    replace rp0 := keep hb rp0
                    replace rp1 := keep hb rp1
                    replace rg5 := keep hb rg5
                    replace rg6 := keep hb rg6
                    replace rl7 := keep hb rl7
                    replace rl8 := keep hb rl8
                    replace rl10 := keep hb rl10
                    replace rl12 := keep hb rl12
                    replace rl14 := keep hb rl14
                    replace rl16 := keep hb rl16
                    replace hw := Below.after hw hb
                    replace f4 := f4.below hb
                    replace hBv89 := hBv89.keep hb
                    clear hb
                    refine wpAny_ready (rs := [9]) (fuel := 1) (by kernel_rfl) (by simp) (AllReady.cons rfl (fun K' hK => ?_) AllReady.nil)
                    rw [if_pos (by kernel_rfl)]
                    simp only [List.getElem_toArray, List.getElem_cons_succ, List.getElem_cons_zero]
                    refine wp_pure_op (.bool true) (by kernel_rfl) (hK _ _ ?_)
                    simp only [Act.put, List.setIfInBounds_toArray, List.set_cons_succ, List.set_cons_zero]
                    clear hK
                    refine wpAny_ready (rs := [10]) (fuel := 0) (by kernel_rfl) (by simp) (AllReady.cons rfl (fun K' hK => ?_) AllReady.nil)
                    rw [if_pos (by kernel_rfl)]
                    simp only [List.getElem_toArray, List.getElem_cons_succ, List.getElem_cons_zero]
                    refine wp_pure_op (.bool false) (by kernel_rfl) (hK _ _ ?_)
                    simp only [Act.put, List.setIfInBounds_toArray, List.set_cons_succ, List.set_cons_zero]
                    clear hK
                    exact cut_to (key v89 _ ⟨rp0, rp1, rg5, rg6, rl7, rl8, rl10, rl12, rl14, rl16, hw, f4⟩) (by kernel_rfl)
                  · skip
                    rw [if_pos (by kernel_rfl)]
                    simp only [List.getElem_toArray, List.getElem_cons_succ, List.getElem_cons_zero]
                    refine wp_call_op (f := 36) (args := #[.agg x40, .agg x42]) (by kernel_rfl) (c44.at _) (fun w101 hb => hK _ _ ?_)
                    simp only [Act.put, List.setIfInBounds_toArray, List.set_cons_succ, List.set_cons_zero]
                    clear hK
                    replace rp0 := keep hb rp0
                    replace rp1 := keep hb rp1
                    replace rg5 := keep hb rg5
                    replace rg6 := keep hb rg6
                    replace rl7 := keep hb rl7
                    replace rl8 := keep hb rl8
                    replace rl10 := keep hb rl10
                    replace rl12 := keep hb rl12
                    replace rl14 := keep hb rl14
                    replace rl16 := keep hb rl16
                    replace hw := Below.after hw hb
                    replace f4 := f4.below hb
                    replace hBv89 := hBv89.keep hb
                    clear hb
                    refine wpAny_ready (rs := [0, 9]) (fuel := 2) (by kernel_rfl) (by simp) (AllReady.cons rfl (fun K' hK => ?_) (AllReady.cons rfl (fun K' hK => ?_) AllReady.nil))
                    · skip
                      rw [if_pos (by kernel_rfl)]
                      simp only [List.getElem_toArray, List.getElem_cons_zero]
                      refine wp_pure_op (.bool true) (by kernel_rfl) (hK _ _ ?_)
                      simp only [Act.put, List.setIfInBounds_toArray, List.set_cons_succ, List.set_cons_zero]
                      clear hK
                      refine wpAny_ready (rs := [9]) (fuel := 1) (by kernel_rfl) (by simp) (AllReady.cons rfl (fun K' hK => ?_) AllReady.nil)
                      rw [if_pos (by kernel_rfl)]
                      simp only [List.getElem_toArray, List.getElem_cons_succ, List.getElem_cons_zero]
                      refine wp_pure_op (.bool true) (by kernel_rfl) (hK _ _ ?_)
                      simp only [Act.put, List.setIfInBounds_toArray, List.set_cons_succ, List.set_cons_zero]
                      clear hK
                      refine wpAny_ready (rs := [10]) (fuel := 0) (by kernel_rfl) (by simp) (AllReady.cons rfl (fun K' hK => ?_) AllReady.nil)
                      rw [if_pos (by kernel_rfl)]
                      simp only [List.getElem_toArray, List.getElem_cons_succ, List.getElem_cons_zero]
                      refine wp_pure_op (.bool false) (by kernel_rfl) (hK _ _ ?_)
                      simp only [Act.put, List.setIfInBounds_toArray, List.set_cons_succ, List.set_cons_zero]
                      clear hK
                      exact cut_to (key v89 _ ⟨rp0, rp1, rg5, rg6, rl7, rl8, rl10, rl12, rl14, rl16, hw, f4⟩) (by kernel_rfl)
                    · skip
                      rw [if_pos (by kernel_rfl)]
                      simp only [List.getElem_toArray, List.getElem_cons_succ, List.getElem_cons_zero]
                      refine wp_pure_op (.bool true) (by kernel_rfl) (hK _ _ ?_)
                      simp only [Act.put, List.setIfInBounds_toArray, List.set_cons_succ, List.set_cons_zero]
                      clear hK
                      refine wpAny_ready (rs := [0]) (fuel := 1) (by kernel_rfl) (by simp) (AllReady.cons rfl (fun K' hK => ?_) AllReady.nil)
                      rw [if_pos (by kernel_rfl)]
                      simp only [List.getElem_toArray, List.getElem_cons_zero]
                      refine wp_pure_op (.bool true) (by kernel_rfl) (hK _ _ ?_)
                      simp only [Act.put, List.setIfInBounds_toArray, List.set_cons_succ, List.set_cons_zero]
                      clear hK
                      refine wpAny_ready (rs := [10]) (fuel := 0) (by kernel_rfl) (by simp) (AllReady.cons rfl (fun K' hK => ?_) AllReady.nil)
                      rw [if_pos (by kernel_rfl)]
                      simp only [List.getElem_toArray, List.getElem_cons_succ, List.getElem_cons_zero]
                      refine wp_pure_op (.bool false) (by kernel_rfl) (hK _ _ ?_)
                      simp only [Act.put, List.setIfInBounds_toArray, List.set_cons_succ, List.set_cons_zero]
                      clear hK
                      exact cut_to (key v89 _ ⟨rp0, rp1, rg5, rg6, rl7, rl8, rl10, rl12, rl14, rl16, hw, f4⟩) (by kernel_rfl)
  · clear rp0 rp1 rg5 rg6 rl7 rl8 rl10 rl12 rl14 rl16 hw f4
    intro v102 w102 ⟨rp0, rp1, rg5, rg6, rl7, rl8, rl10, rl12, rl14, rl16, hw, f4⟩
    refine wpAny_done (by kernel_rfl) ?_ _
    go_wp2
    go_ret
    exact ⟨rfl, hw⟩

end Go.Proofs.YtcjdglckbkdheaaDoor

