import Derived.Test.YtpconccafpcpnaaDoorProg
import Derived.WalkKit
import Derived.WalkSpells
import Derived.WalkLawsBesides
import Derived.Lib.QuietBelow
import Derived.BigQuiet
import Derived.Test.YtpconccafpcpnaaDoorKa
import Derived.Test.YtpconccafpcpnaaDoorCd
import Derived.Test.YtpconccafpcpnaaDoorCm
import Derived.Test.YtpconccafpcpnaaDoorGu
import Derived.Test.YtpconccafpcpnaaDoorBo
namespace Go.Proofs.YtpconccafpcpnaaDoor
set_option maxRecDepth 100000
open Go.RowKit Go.Sort
attribute [local go_sem] setCell_drewN alloc_drewN


/-- What the curve's equation has on its right. -/
def cvn (X : Int) : Int := X * (((X * X % prm + 486662 * X % prm) % prm + 1) % prm) % prm


theorem cvn_comm (X : Int) : (((X * X % prm + 486662 * X % prm) % prm + 1) % prm * X % prm) % prm = cvn X % prm := by
  unfold cvn
  rw [Int.mul_comm]
set_option maxRecDepth 100000 in
set_option maxHeartbeats 4000000 in
theorem a_on {u : Array Value} {U : Int} (hu : KeyOf u U) : Gives5 27 #[.agg u] (.bool (rok (cvn (num U)))) := by
  obtain ⟨xr, hx0, cF⟩ := a_from hu
  have hx : NumOf xr (num U) := hx0.congr (Int.emod_emod _ _).symm
  clear hx0
  have hcv := cvn_comm (num U)
  generalize num U = X at *
  obtain ⟨x4, h4, c4⟩ := b_square hx
  obtain ⟨x5, h5, c5⟩ := b_times hx 486662 (by decide) (by decide)
  obtain ⟨x6, h6, c6⟩ := b_add h4 h5
  obtain ⟨x7, h7, c7⟩ := a_small 1 (by decide) (by decide)
  obtain ⟨x8, h8, c8⟩ := b_add h6 h7
  obtain ⟨x9, h9, c9⟩ := b_mul h8 hx
  obtain ⟨s, hs, cR⟩ := a_root (h9.congr hcv)
  clear hcv
  generalize rok (cvn X) = O at *
  intro w hF
  have rp0 : (w.alloc (.cells u 34)).heap[w.heap.size]? = some (.cells u 34 (0, 0)) := hp1_0 w _
  have hw : Below w.heap.size w (w.alloc (.cells u 34)) := ((Below.refl _ _).alloc (Nat.le_refl _) _)
  have hz0 := hF.sz
  have f4 : Both (w.alloc (.cells u 34)) := (hF.alloc _)
  go_enter Tryd.func27, Tryd.ntmps27
  iterate 9 go_step
  generalize (w.alloc (.cells u 34)) = w0 at *
  go_wp2_with (first | (refine wpList_load_want rfl 34 _ rfl (w.heap.size) rfl 34 u (0, 0) _ rp0 Tryd.underlying34 rfl hu.info ?_) | fail)
  refine (cF.at _).mono ?_
  rintro e w2 ⟨rfl, hb⟩
  replace rp0 := keep hb rp0
  replace hw := Below.after hw hb
  replace f4 := f4.below hb
  clear hb
  go_wp2_with (first | (refine wpList_store_row rfl 26 _ _ rfl (w2.heap.size) xr rfl rfl 26 #[.int .u64 0, .int .u64 0, .int .u64 0, .int .u64 0, .int .u64 0] (hp1_0 w2 _) hx.info (hx.fits rfl) hx.one ?_; rw [setRow_alloc_new _ _ _ _ _ _ (by simp)]) | fail | fail)
  have rl3 : (w2.alloc (.cells xr 26)).heap[w2.heap.size]? = some (.cells xr 26 (0, 0)) := hp1_0 w2 _
  have hb : Below w2.heap.size w2 (w2.alloc (.cells xr 26)) := ((Below.refl _ _).alloc (Nat.le_refl _) _)
  generalize (w2.alloc (.cells xr 26)) = wx at *
  have ygx_0 := lt_of_row rp0
  have ygx := hw.size
  have zgx := f4.sz
  replace rp0 := keep hb rp0
  replace hw := Below.after hw hb
  replace f4 := f4.below hb
  clear hb
  generalize w2.heap.size = gx at *
  clear w2
  try simp only [Act.put]
  refine wp_region_alloc_ex 9 10 [4] (fun _ => .cells #[.int .u64 0, .int .u64 0, .int .u64 0, .int .u64 0, .int .u64 0] 26 (0, 0)) (by kernel_rfl) (by decide) (by decide) (by kernel_rfl) (by kernel_rfl) (by kernel_rfl) (by kernel_rfl) (by kernel_rfl) (by kernel_rfl) (by kernel_rfl) (by kernel_rfl) (by decide) (by decide) ?_ ?_
  · intro s l u
    rcases (by omega : s = 9) with rfl <;> exact ⟨_, _, rfl, rfl, rfl, rfl, fun a w => by kernel_rfl⟩
  apply Exists.intro
  constructor
  · intro v3 hb
    have Hrp0 := keepr (keep hb rp0)
    have Hrl3 := keepr (keep hb rl3)
    have F4 := f4.below hb
    clear hb; dsimp only [List.take]
    refine wpQuiet_load_row rfl 26 _ rfl (gx) rfl 26 xr (0, 0) _ Hrl3.out Tryd.underlying26 rfl hx.info ?_
    simp only [Act.put, List.setIfInBounds_toArray, List.set_cons_succ, List.set_cons_zero]
    go_big_quiet_step (exact c4.re)
    refine wpQuiet_load_row rfl 26 _ rfl (gx) rfl 26 xr (0, 0) _ Hrl3.out Tryd.underlying26 rfl hx.info ?_
    simp only [Act.put, List.setIfInBounds_toArray, List.set_cons_succ, List.set_cons_zero]
    go_big_quiet_step (exact c5.re)
    go_big_quiet_step (exact c6.re)
    go_big_quiet_step (exact c7.re)
    go_big_quiet_step (exact c8.re)
    refine wpQuiet_load_row rfl 26 _ rfl (gx) rfl 26 xr (0, 0) _ Hrl3.out Tryd.underlying26 rfl hx.info ?_
    simp only [Act.put, List.setIfInBounds_toArray, List.set_cons_succ, List.set_cons_zero]
    go_big_quiet_step (exact c9.re)
    refine wpQuiet_nil ?_
    rfl
  intro w10 g hb hg hd
  obtain ⟨lg4, rg4⟩ := hg 4 (by simp)
  replace rg4 : w10.heap[g 4]? = some (.cells #[.int .u64 0, .int .u64 0, .int .u64 0, .int .u64 0, .int .u64 0] 26 (0, 0)) := rg4
  simp only [List.drop, puts, ptrs, List.map, List.foldl, Act.put, List.setIfInBounds_toArray, List.set_cons_succ, List.set_cons_zero]
  clear hg hd
  generalize g 4 = gw at *
  have lrp0 := lt_of_row rp0
  have lrl3 := lt_of_row rl3
  have hs := hw.size
  have hz := f4.sz
  replace rp0 := keep hb rp0
  replace rl3 := keep hb rl3
  replace hw := Below.after hw hb
  replace f4 := f4.below hb
  clear hb
  refine wpList_store_row rfl 26 _ _ rfl gw x9 rfl rfl 26 _ rg4 h9.info (h9.fits rfl) h9.one ?_
  simp only [Act.put]
  replace rp0 := (setRow_other w10 gw (w.heap.size) x9 (by omega)).trans rp0
  replace rl3 := (setRow_other w10 gw (gx) x9 (by omega)).trans rl3
  replace rg4 := setRow_heap w10 gw _ x9 _ _ rg4
  replace hw := below_setRow hw (show w.heap.size ≤ gw by omega) x9
  replace f4 := f4.setRow (show 1 < gw by omega) x9
  generalize w10.setRow gw x9 = w11 at *
  have ygw_0 : w.heap.size < gw := by omega
  have ygw_1 : gx < gw := by omega
  have ygw : w.heap.size ≤ gw := by omega
  have zgw : 1 < gw := by omega
  clear hs hz lrp0 lrl3 lg4
  go_wp2_with (first | (refine wpList_load_want rfl 34 _ rfl (w.heap.size) rfl 34 u (0, 0) _ rp0 Tryd.underlying34 rfl hu.info ?_) | (refine wpList_load_want rfl 26 _ rfl (gx) rfl 26 xr (0, 0) _ rl3 Tryd.underlying26 rfl hx.info ?_) | (refine wpList_load_want rfl 26 _ rfl (gw) rfl 26 x9 (0, 0) _ rg4 Tryd.underlying26 rfl h9.info ?_) | fail)
  refine (cR.at f4).mono ?_
  rintro e w13 ⟨rfl, hb⟩
  replace rp0 := keep hb rp0
  replace rl3 := keep hb rl3
  replace rg4 := keep hb rg4
  replace hw := Below.after hw hb
  replace f4 := f4.below hb
  clear hb
  have hb : Below w13.heap.size w13 (w13.alloc (.cells s 26)) := (Below.refl _ _).alloc (Nat.le_refl _) _
  have hw' := Below.after hw hb
  go_wp2_with (first | (refine wpList_store_row rfl 26 _ _ rfl (w13.heap.size) s rfl rfl 26 #[.int .u64 0, .int .u64 0, .int .u64 0, .int .u64 0, .int .u64 0] (hp1_0 w13 _) hs.info (hs.fits rfl) hs.one ?_; rw [setRow_alloc_new _ _ _ _ _ _ rfl]) | fail)
  go_ret
  exact ⟨rfl, hw'⟩

end Go.Proofs.YtpconccafpcpnaaDoor

