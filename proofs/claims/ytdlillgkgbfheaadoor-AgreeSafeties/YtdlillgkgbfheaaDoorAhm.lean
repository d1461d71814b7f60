import Derived.Test.YtdlillgkgbfheaaDoorProg
import Derived.WalkKit
import Derived.Lib.QuietBelow
import Derived.BigQuiet
import Derived.OwnWalk
import Derived.Deep.Cut
import Derived.Test.YtdlillgkgbfheaaDoorKa
import Derived.Test.YtdlillgkgbfheaaDoorAhk
namespace Go.Proofs.YtdlillgkgbfheaaDoor
set_option maxRecDepth 100000
open Go Go.RowKit Go.Sort
attribute [local go_sem] setCell_drewN alloc_drewN
set_option maxRecDepth 100000 in
set_option maxHeartbeats 4000000 in
theorem safeties_any (a b : List Int) (ha : K8 a) (hb : K8 b) (r : Int) (w : World) (hS : Sta w) (hKo : Kon w) (hT : Pow w) : Calls Tryd.prog 3 #[.agg (irow .u8 a), .agg (irow .u8 b), .int .i64 r] w fun e w' => e = .returned (.bool true) ∧ Below w.heap.size w w' := by
  have RA := hp2_0 w (.cells (irow .u8 a) 23) (.cells (irow .u8 b) 23)
  have RB := hp2_1 w (.cells (irow .u8 a) 23) (.cells (irow .u8 b) 23)
  have hw : Below w.heap.size w ((w.alloc (.cells (irow .u8 a) 23)).alloc (.cells (irow .u8 b) 23)) := ((Below.refl _ _).alloc (Nat.le_refl _) _).alloc (by simp) _
  replace hS := hS.below hw
  replace hKo := hKo.below hw
  replace hT := hT.below hw
  go_enter Tryd.func3, Tryd.ntmps3
  go_upto_region 1 with (first | (refine wpList_box rfl 23 _ rfl _ rfl (bKy _) ?_) | fail)
  try simp only [size_alloc1, Act.put, List.setIfInBounds_toArray, List.set_cons_succ, List.set_cons_zero]
  generalize (w.alloc (.cells (irow .u8 a) 23)).alloc (.cells (irow .u8 b) 23) = w1 at *
  by_cases hr : r < 1 ∨ 6000 < r
  · clear hS hKo hT
    go_wp2_with (first | (refine wpList_load_want rfl 23 _ rfl (w.heap.size + 1) rfl 23 (irow .u8 b) (0, 0) _ RB Tryd.underlying23 rfl (infoKy _ hb.1) ?_) | (refine wpList_load_want rfl 23 _ rfl (w.heap.size) rfl 23 (irow .u8 a) (0, 0) _ RA Tryd.underlying23 rfl (infoKy _ ha.1) ?_) | fail)
    refine (a_Safety_bad a b r hr w1).mono ?_
    rintro e_ w2 ⟨_, rfl, rfl, hb_⟩
    replace RA := keep hb_ RA
    replace RB := keep hb_ RB
    replace hw := Below.after hw hb_
    clear hb_
    go_wp2_with (first | (refine wpList_load_want rfl 23 _ rfl (w.heap.size + 1) rfl 23 (irow .u8 b) (0, 0) _ RB Tryd.underlying23 rfl (infoKy _ hb.1) ?_) | (refine wpList_load_want rfl 23 _ rfl (w.heap.size) rfl 23 (irow .u8 a) (0, 0) _ RA Tryd.underlying23 rfl (infoKy _ ha.1) ?_) | fail)
    refine (r_Safety_bad a b r hr w2).mono ?_
    rintro e_ w3 ⟨_, rfl, rfl, hb_⟩
    replace hw := Below.after hw hb_
    clear hb_
    go_wp2_with (fail)
    go_ret
    exact ⟨by simp, hw⟩
  · obtain ⟨n, rfl⟩ := Int.eq_ofNat_of_zero_le (show 0 ≤ r by omega)
    have h1 : 1 ≤ n := by omega
    have h2 : n ≤ 6000 := by omega
    clear hr
    go_wp2_with (first | (refine wpList_load_want rfl 23 _ rfl (w.heap.size + 1) rfl 23 (irow .u8 b) (0, 0) _ RB Tryd.underlying23 rfl (infoKy _ hb.1) ?_) | (refine wpList_load_want rfl 23 _ rfl (w.heap.size) rfl 23 (irow .u8 a) (0, 0) _ RA Tryd.underlying23 rfl (infoKy _ ha.1) ?_) | fail)
    refine (a_Safety a b ha hb n h1 h2 w1 hS hKo hT).mono ?_
    rintro e_ w2 ⟨_, rfl, rfl, hb_⟩
    replace RA := keep hb_ RA
    replace RB := keep hb_ RB
    replace hw := Below.after hw hb_
    clear hb_
    go_wp2_with (first | (refine wpList_load_want rfl 23 _ rfl (w.heap.size + 1) rfl 23 (irow .u8 b) (0, 0) _ RB Tryd.underlying23 rfl (infoKy _ hb.1) ?_) | (refine wpList_load_want rfl 23 _ rfl (w.heap.size) rfl 23 (irow .u8 a) (0, 0) _ RA Tryd.underlying23 rfl (infoKy _ ha.1) ?_) | fail)
    refine (r_Safety a b ha hb n h1 h2 w2).mono ?_
    rintro e_ w3 ⟨_, rfl, rfl, hb_⟩
    replace hw := Below.after hw hb_
    clear hb_
    go_wp2_with (fail)
    go_ret
    exact ⟨by simp, hw⟩

end Go.Proofs.YtdlillgkgbfheaaDoor
