import Derived.Test.YtcjdglckbkdheaaDoorProg
import Derived.WalkKit
import Derived.WalkSpells
import Derived.WalkLawsBesides
import Derived.Lib.QuietBelow
import Derived.BigQuiet
import Derived.Test.YtcjdglckbkdheaaDoorKa
import Derived.Test.YtcjdglckbkdheaaDoorRs
import Derived.Test.YtcjdglckbkdheaaDoorGk
namespace Go.Proofs.YtcjdglckbkdheaaDoor
open Go.RowKit Go.Sort
attribute [local go_sem] setCell_drewN alloc_drewN


theorem mod_c (A : Int) : A % prm % prm = A % prm := Int.emod_emod_of_dvd _ (Int.dvd_refl _)
set_option maxRecDepth 100000 in
set_option maxHeartbeats 4000000 in
theorem roots_any {kp : Array Value} {Np : Int} (hkp : KeyOf kp Np) (w : World) (hF : Both w) :
    Calls Tryd.prog 5 #[.agg kp] w fun e w' => e = .returned (.bool true) ∧ Below w.heap.size w w' := by
  obtain ⟨xA, hAn, cA⟩ := a_from hkp
  generalize heA : Np % 57896044618658097711785492504343953926634992332820282019728792003956564819968 = A at hAn
  have heq : ∀ (q : Int) W, (Op.equalIn 10000 34 (.agg (kb q)) (.agg (kb q))).run Tryd.prog W = .ok true W := fun q W => by
    have e : kb q = #[.int .u8 (byt q 0), .int .u8 (byt q 1), .int .u8 (byt q 2), .int .u8 (byt q 3), .int .u8 (byt q 4), .int .u8 (byt q 5), .int .u8 (byt q 6), .int .u8 (byt q 7), .int .u8 (byt q 8), .int .u8 (byt q 9), .int .u8 (byt q 10), .int .u8 (byt q 11), .int .u8 (byt q 12), .int .u8 (byt q 13), .int .u8 (byt q 14), .int .u8 (byt q 15), .int .u8 (byt q 16), .int .u8 (byt q 17), .int .u8 (byt q 18), .int .u8 (byt q 19), .int .u8 (byt q 20), .int .u8 (byt q 21), .int .u8 (byt q 22), .int .u8 (byt q 23), .int .u8 (byt q 24), .int .u8 (byt q 25), .int .u8 (byt q 26), .int .u8 (byt q 27), .int .u8 (byt q 28), .int .u8 (byt q 29), .int .u8 (byt q 30), .int .u8 (byt q 31)] := rfl
    rw [e, keys_equal]; simp
  generalize hb : rok A = bo
  have c3 := r_from hkp
  rw [heA] at c3
  obtain ⟨xr, hr, c7⟩ := a_root hAn
  rw [hb] at c7
  have c9 := r_root (inP_mod A)
  rw [rok_c (mod_c A), hb, rval_c (mod_c A)] at c9
  have c12 := a_bytes hr
  have c13 := r_bytes (rval A % prm)
  obtain ⟨xi, hi, c14⟩ := a_invert hAn
  have c15 := a_bytes hi
  have c16 := r_invert (inP_mod A)
  rw [← int_pow_emod] at c16
  have c17 := r_bytes (A ^ 57896044618658097711785492504343953926634992332820282019728792003956564819947 % prm)
  clear heA hb
  cases bo
  all_goals
    go_enter Tryd.func5, Tryd.ntmps5
    go_wp2
    have rp0 : (w.alloc (.cells kp 34)).heap[w.heap.size]? = some (.cells kp 34 (0, 0)) := hp1_0 w _
    have hw : Below w.heap.size w (w.alloc (.cells kp 34)) := ((Below.refl _ _).alloc (Nat.le_refl _) _)
    have hz0 := hF.sz
    have f4 : Both (w.alloc (.cells kp 34)) := (hF.alloc _)
    generalize (w.alloc (.cells kp 34)) = w0 at *
    refine wp_region_alloc_ex 4 6 [3, 4] (fun t => match t with | 3 => .cells #[.int .u64 0, .int .u64 0, .int .u64 0, .int .u64 0, .int .u64 0] 26 (0, 0) | _ => .cells #[.int .u64 0, .int .u64 0, .int .u64 0, .int .u64 0, .int .u64 0, .int .u64 0, .int .u64 0, .int .u64 0, .int .u64 0, .int .u64 0, .int .u64 0, .int .u64 0, .int .u64 0, .int .u64 0, .int .u64 0, .int .u64 0] 30 (0, 0)) (by kernel_rfl) (by decide) (by decide) (by kernel_rfl) (by kernel_rfl) (by kernel_rfl) (by kernel_rfl) (by kernel_rfl) (by kernel_rfl) (by kernel_rfl) (by kernel_rfl) (by decide) (by decide) ?_ ?_
    · intro s l u
      rcases (by omega : s = 4 ∨ s = 5) with rfl | rfl <;> exact ⟨_, _, rfl, rfl, rfl, rfl, fun a w => by kernel_rfl⟩
    apply Exists.intro
    constructor
    · intro v1 hb
      have Hrp0 := keepr (keep hb rp0)
      have F4 := f4.below hb
      clear hb; dsimp only [List.take]
      refine wpQuiet_load_row rfl 34 _ rfl (w.heap.size) rfl 34 kp (0, 0) _ Hrp0.out Tryd.underlying34 rfl hkp.info ?_
      simp only [Act.put, List.setIfInBounds_toArray, List.set_cons_succ, List.set_cons_zero]
      go_big_quiet_step (exact cA.re)
      refine wpQuiet_load_row rfl 34 _ rfl (w.heap.size) rfl 34 kp (0, 0) _ Hrp0.out Tryd.underlying34 rfl hkp.info ?_
      simp only [Act.put, List.setIfInBounds_toArray, List.set_cons_succ, List.set_cons_zero]
      go_big_quiet_step (exact c3.re)
      refine wpQuiet_nil ?_
      rfl
    intro w4 g hb hg hd
    obtain ⟨lg3, rg3⟩ := hg 3 (by simp)
    replace rg3 : w4.heap[g 3]? = some (.cells #[.int .u64 0, .int .u64 0, .int .u64 0, .int .u64 0, .int .u64 0] 26 (0, 0)) := rg3
    obtain ⟨lg4, rg4⟩ := hg 4 (by simp)
    replace rg4 : w4.heap[g 4]? = some (.cells #[.int .u64 0, .int .u64 0, .int .u64 0, .int .u64 0, .int .u64 0, .int .u64 0, .int .u64 0, .int .u64 0, .int .u64 0, .int .u64 0, .int .u64 0, .int .u64 0, .int .u64 0, .int .u64 0, .int .u64 0, .int .u64 0] 30 (0, 0)) := rg4
    simp only [List.drop, puts, ptrs, List.map, List.foldl, Act.put, List.setIfInBounds_toArray, List.set_cons_succ, List.set_cons_zero]
    have d4_3 := hd 4 (by simp) 3 (by simp) (by decide)
    clear hg hd
    generalize g 3 = ga at *
    generalize g 4 = gx at *
    have lrp0 := lt_of_row rp0
    have hs := hw.size
    have hz := f4.sz
    replace rp0 := keep hb rp0
    replace hw := Below.after hw hb
    replace f4 := f4.below hb
    clear hb
    refine wpList_store_row rfl 26 _ _ rfl ga xA rfl rfl 26 _ rg3 hAn.info (hAn.fits rfl) hAn.one ?_
    simp only [Act.put]
    replace rp0 := (setRow_other w4 ga (w.heap.size) xA (by omega)).trans rp0
    replace rg3 := setRow_heap w4 ga _ xA _ _ rg3
    replace rg4 := (setRow_other w4 ga gx xA (by omega)).trans rg4
    replace hw := below_setRow hw (show w.heap.size ≤ ga by omega) xA
    replace f4 := f4.setRow (show 1 < ga by omega) xA
    generalize w4.setRow ga xA = w5 at *
    refine wpList_store_row rfl 30 _ _ rfl gx (rd (A % prm)) rfl rfl 30 _ rg4 (rd_info (A % prm)) rfl (rd_one (A % prm)) ?_
    simp only [Act.put]
    replace rp0 := (setRow_other w5 gx (w.heap.size) (rd (A % prm)) (by omega)).trans rp0
    replace rg3 := (setRow_other w5 gx ga (rd (A % prm)) (by omega)).trans rg3
    replace rg4 := setRow_heap w5 gx _ (rd (A % prm)) _ _ rg4
    replace hw := below_setRow hw (show w.heap.size ≤ gx by omega) (rd (A % prm))
    replace f4 := f4.setRow (show 1 < gx by omega) (rd (A % prm))
    generalize w5.setRow gx (rd (A % prm)) = w6 at *
    have yga_0 : w.heap.size < ga := by omega
    have yga : w.heap.size ≤ ga := by omega
    have zga : 1 < ga := by omega
    have ygx_0 : w.heap.size < gx := by omega
    have ygx : w.heap.size ≤ gx := by omega
    have zgx : 1 < gx := by omega
    clear hs hz lrp0 lg3 lg4
    go_wp2_with (first | (refine wpList_load_want rfl 34 _ rfl (w.heap.size) rfl 34 kp (0, 0) _ rp0 Tryd.underlying34 rfl hkp.info ?_) | (refine wpList_load_want rfl 26 _ rfl (ga) rfl 26 xA (0, 0) _ rg3 Tryd.underlying26 rfl hAn.info ?_) | (refine wpList_load_want rfl 30 _ rfl (gx) rfl 30 (rd (A % prm)) (0, 0) _ rg4 Tryd.underlying30 rfl (rd_info (A % prm)) ?_) | fail)
    refine (c7.at f4).mono ?_
    rintro e w8 ⟨rfl, hb⟩
    replace rp0 := keep hb rp0
    replace rg3 := keep hb rg3
    replace rg4 := keep hb rg4
    replace hw := Below.after hw hb
    replace f4 := f4.below hb
    clear hb
    go_wp2_with (first | (refine wpList_store_row rfl 26 _ _ rfl (w8.heap.size) xr rfl rfl 26 #[.int .u64 0, .int .u64 0, .int .u64 0, .int .u64 0, .int .u64 0] (hp1_0 w8 _) hr.info (hr.fits rfl) hr.one ?_; rw [setRow_alloc_new _ _ _ _ _ _ (by simp)]) | (refine wpList_load_want rfl 26 _ rfl (w8.heap.size) rfl 26 xr (0, 0) _ (hp1_0 w8 _) Tryd.underlying26 rfl hr.info ?_) | (refine wpList_load_want rfl 34 _ rfl (w.heap.size) rfl 34 kp (0, 0) _ (keep ((Below.refl _ _).alloc (Nat.le_refl _) _) rp0) Tryd.underlying34 rfl hkp.info ?_) | (refine wpList_load_want rfl 26 _ rfl (ga) rfl 26 xA (0, 0) _ (keep ((Below.refl _ _).alloc (Nat.le_refl _) _) rg3) Tryd.underlying26 rfl hAn.info ?_) | (refine wpList_load_want rfl 30 _ rfl (gx) rfl 30 (rd (A % prm)) (0, 0) _ (keep ((Below.refl _ _).alloc (Nat.le_refl _) _) rg4) Tryd.underlying30 rfl (rd_info (A % prm)) ?_) | fail)
    have rl5 : (w8.alloc (.cells xr 26)).heap[w8.heap.size]? = some (.cells xr 26 (0, 0)) := hp1_0 w8 _
    have hb : Below w8.heap.size w8 (w8.alloc (.cells xr 26)) := ((Below.refl _ _).alloc (Nat.le_refl _) _)
    generalize (w8.alloc (.cells xr 26)) = wr at *
    have ygr_0 := lt_of_row rp0
    have ygr_1 := lt_of_row rg3
    have ygr_2 := lt_of_row rg4
    have ygr := hw.size
    have zgr := f4.sz
    replace rp0 := keep hb rp0
    replace rg3 := keep hb rg3
    replace rg4 := keep hb rg4
    replace hw := Below.after hw hb
    replace f4 := f4.below hb
    clear hb
    generalize w8.heap.size = gr at *
    clear w8
    refine (c9.at _).mono ?_
    rintro e w10 ⟨rfl, hb⟩
    replace rp0 := keep hb rp0
    replace rg3 := keep hb rg3
    replace rg4 := keep hb rg4
    replace rl5 := keep hb rl5
    replace hw := Below.after hw hb
    replace f4 := f4.below hb
    clear hb
    go_wp2_with (first | (refine wpList_store_row rfl 30 _ _ rfl (w10.heap.size) (rd (rval A % prm)) rfl rfl 30 #[.int .u64 0, .int .u64 0, .int .u64 0, .int .u64 0, .int .u64 0, .int .u64 0, .int .u64 0, .int .u64 0, .int .u64 0, .int .u64 0, .int .u64 0, .int .u64 0, .int .u64 0, .int .u64 0, .int .u64 0, .int .u64 0] (hp1_0 w10 _) (rd_info (rval A % prm)) rfl (rd_one (rval A % prm)) ?_; rw [setRow_alloc_new _ _ _ _ _ _ (by simp)]) | fail | fail)
    have rl7 : (w10.alloc (.cells (rd (rval A % prm)) 30)).heap[w10.heap.size]? = some (.cells (rd (rval A % prm)) 30 (0, 0)) := hp1_0 w10 _
    have hb : Below w10.heap.size w10 (w10.alloc (.cells (rd (rval A % prm)) 30)) := ((Below.refl _ _).alloc (Nat.le_refl _) _)
    generalize (w10.alloc (.cells (rd (rval A % prm)) 30)) = ws at *
    have ygs_0 := lt_of_row rp0
    have ygs_1 := lt_of_row rg3
    have ygs_2 := lt_of_row rg4
    have ygs_3 := lt_of_row rl5
    have ygs := hw.size
    have zgs := f4.sz
    replace rp0 := keep hb rp0
    replace rg3 := keep hb rg3
    replace rg4 := keep hb rg4
    replace rl5 := keep hb rl5
    replace hw := Below.after hw hb
    replace f4 := f4.below hb
    clear hb
    generalize w10.heap.size = gs at *
    clear w10
    have Hrp0 := keepr rp0
    have Hrg3 := keepr rg3
    have Hrg4 := keepr rg4
    have Hrl5 := keepr rl5
    have Hrl7 := keepr rl7
    refine wp_region_quiet_below (by kernel_rfl) (by kernel_rfl) ?_
    go_big_quiet_step (fail)
    go_big_quiet_step (fail)
    go_big_quiet_step (fail)
    go_big_quiet_step (fail)
    refine wpQuiet_load_want rfl 26 _ rfl (gr) rfl 26 xr (0, 0) _ Hrl5.out Tryd.underlying26 rfl hr.info ?_
    simp only [Act.put, List.setIfInBounds_toArray, List.set_cons_succ, List.set_cons_zero]
    go_big_quiet_step (exact c12.re)
    refine wpQuiet_load_want rfl 30 _ rfl (gs) rfl 30 (rd (rval A % prm)) (0, 0) _ Hrl7.out Tryd.underlying30 rfl (rd_info (rval A % prm)) ?_
    simp only [Act.put, List.setIfInBounds_toArray, List.set_cons_succ, List.set_cons_zero]
    go_big_quiet_step (exact c13.re)
    go_big_quiet_step (fail)
    go_big_quiet_step (fail)
    go_big_quiet_step (fail)
    refine wpQuiet_load_want rfl 26 _ rfl (ga) rfl 26 xA (0, 0) _ Hrg3.out Tryd.underlying26 rfl hAn.info ?_
    simp only [Act.put, List.setIfInBounds_toArray, List.set_cons_succ, List.set_cons_zero]
    go_big_quiet_step (exact c14.re)
    go_big_quiet_step (exact c15.re)
    refine wpQuiet_load_want rfl 30 _ rfl (gx) rfl 30 (rd (A % prm)) (0, 0) _ Hrg4.out Tryd.underlying30 rfl (rd_info (A % prm)) ?_
    simp only [Act.put, List.setIfInBounds_toArray, List.set_cons_succ, List.set_cons_zero]
    go_big_quiet_step (exact c16.re)
    go_big_quiet_step (exact c17.re)
    go_big_quiet_step (fail)
    go_big_quiet_step (fail)
    go_big_quiet_step (fail)
    refine wpQuiet_nil ?_
    rintro _ ⟨p, rfl⟩
    have hb := below_regrown ws p.d p.os
    generalize grow (redrawn ws p.d) p.os = w11 at *
    replace rp0 := keep hb rp0
    replace rg3 := keep hb rg3
    replace rg4 := keep hb rg4
    replace rl5 := keep hb rl5
    replace rl7 := keep hb rl7
    replace hw := Below.after hw hb
    replace f4 := f4.below hb
    clear hb
    clear Hrp0 Hrg3 Hrg4 Hrl5 Hrl7
    go_wp2
    go_ret
    exact ⟨rfl, hw⟩

end Go.Proofs.YtcjdglckbkdheaaDoor

