import Derived.Test.YtgbkbcgjagcgbaaProg
import Derived.WalkKit
import Derived.WalkSpells
import Derived.WalkLawsBesides
import Derived.Lib.QuietBelow
import Derived.BigQuiet
import Derived.OrdersHeld
import Derived.Deep.RegionHeld3
import Derived.OwnWalk
import Derived.Deep.Cut
import Derived.Test.YtgbkbcgjagcgbaaKit
import Derived.Test.YtgbkbcgjagcgbaaAgb
namespace Go.Proofs.Ytgbkbcgjagcgbaa
open Go Go.RowKit Go.Sort
attribute [local go_sem] setCell_drewN alloc_drewN

set_option maxRecDepth 100000 in
set_option maxHeartbeats 4000000 in
theorem offers_any (ia ib sa sb oa ob : List Int) (h : Bool) (hia : ia.length = 32) (hib : ib.length = 32) (hsa : sa.length = 32) (hsb : sb.length = 32) (hoa : oa.length = 32) (hob : ob.length = 32) (w : World) : Calls Try.prog 3 #[.agg (psrow ia ib sa sb oa ob h)] w fun e w' => e = .returned (.bool true) ∧ Below w.heap.size w w' := by
  have R0 := hp1_0 w (.cells (psrow ia ib sa sb oa ob h) 27)
  have hw : Below w.heap.size w (w.alloc (.cells (psrow ia ib sa sb oa ob h) 27)) := (Below.refl _ _).alloc (Nat.le_refl _) _
  have cA : Gives _ _ _ := (a_offer ia ib sa sb oa ob h hia hib hsa hsb hoa hob)
  have cR : Gives _ _ _ := (r_offer ia ib sa sb oa ob h hia hib hsa hsb hoa hob)
  have hx : (if h then ob else zr 32).length = 32 := by cases h <;> simp [zr_len, hob]
  have heq := fun W => eq_bn ib sb (if h then ob else zr 32) h ib sb (if h then ob else zr 32) h hib hsb hx hib hsb hx W
  simp only [and_self, decide_true] at heq
  generalize brow ib sb (if h then ob else zr 32) h = B at *
  have c_h : ∀ p : Regrown, (grow (redrawn (w.alloc (.cells (psrow ia ib sa sb oa ob h) 27)) p.d) p.os).cell? ⟨w.heap.size, 192, none⟩ = some (.bool h) := fun p => cell_regrown ((cell_of_row _ _ _ _ _ _ R0).trans (ps_h ia ib sa sb oa ob h hia hib hsa hsb hoa hob)) p.d p.os
  have H0 := keepr R0
  go_enter Try.func3, Try.ntmps3
  go_wp2_with (first | (refine wpList_box rfl 27 _ rfl _ rfl (box_psrow _) ?_) | fail)
  refine wp_region_quiet_below (by kernel_rfl) (by kernel_rfl) ?_
  go_big_quiet_step (fail)
  refine wpQuiet_load_part rfl 25 _ rfl (w.heap.size) 0 rfl 27 (psrow ia ib sa sb oa ob h) (0, 0) (prow ia ib) _ H0.out (ps_iaib ia ib sa sb oa ob h hia hib) Try.underlying25 rfl (infoPr hia hib) ?_
  simp only [Act.put, List.setIfInBounds_toArray, List.set_cons_succ, List.set_cons_zero]
  go_big_quiet_step (fail)
  refine wpQuiet_load_part rfl 25 _ rfl (w.heap.size) 64 rfl 27 (psrow ia ib sa sb oa ob h) (0, 0) (prow sa sb) _ H0.out (ps_sasb ia ib sa sb oa ob h hia hib hsa hsb) Try.underlying25 rfl (infoPr hsa hsb) ?_
  simp only [Act.put, List.setIfInBounds_toArray, List.set_cons_succ, List.set_cons_zero]
  go_big_quiet_step (fail)
  refine wpQuiet_load_part rfl 25 _ rfl (w.heap.size) 128 rfl 27 (psrow ia ib sa sb oa ob h) (0, 0) (prow oa ob) _ H0.out (ps_oaob ia ib sa sb oa ob h hia hib hsa hsb hoa hob) Try.underlying25 rfl (infoPr hoa hob) ?_
  simp only [Act.put, List.setIfInBounds_toArray, List.set_cons_succ, List.set_cons_zero]
  go_big_quiet_step (fail)
  go_big_quiet_step (fail)
  go_big_quiet_step (exact cA.re)
  go_big_quiet_step (fail)
  refine wpQuiet_load_part rfl 25 _ rfl (w.heap.size) 0 rfl 27 (psrow ia ib sa sb oa ob h) (0, 0) (prow ia ib) _ H0.out (ps_iaib ia ib sa sb oa ob h hia hib) Try.underlying25 rfl (infoPr hia hib) ?_
  simp only [Act.put, List.setIfInBounds_toArray, List.set_cons_succ, List.set_cons_zero]
  go_big_quiet_step (fail)
  refine wpQuiet_load_part rfl 25 _ rfl (w.heap.size) 64 rfl 27 (psrow ia ib sa sb oa ob h) (0, 0) (prow sa sb) _ H0.out (ps_sasb ia ib sa sb oa ob h hia hib hsa hsb) Try.underlying25 rfl (infoPr hsa hsb) ?_
  simp only [Act.put, List.setIfInBounds_toArray, List.set_cons_succ, List.set_cons_zero]
  go_big_quiet_step (fail)
  refine wpQuiet_load_part rfl 25 _ rfl (w.heap.size) 128 rfl 27 (psrow ia ib sa sb oa ob h) (0, 0) (prow oa ob) _ H0.out (ps_oaob ia ib sa sb oa ob h hia hib hsa hsb hoa hob) Try.underlying25 rfl (infoPr hoa hob) ?_
  simp only [Act.put, List.setIfInBounds_toArray, List.set_cons_succ, List.set_cons_zero]
  go_big_quiet_step (fail)
  go_big_quiet_step (fail)
  go_big_quiet_step (exact cR.re)
  go_big_quiet_step (fail)
  go_big_quiet_step (fail)
  refine wpQuiet_nil ?_
  rintro _ ⟨p, rfl⟩
  have hb := below_regrown (w.alloc (.cells (psrow ia ib sa sb oa ob h) 27)) p.d p.os
  generalize grow (redrawn (w.alloc (.cells (psrow ia ib sa sb oa ob h) 27)) p.d) p.os = w2 at *
  replace hw := Below.after hw hb
  clear hb
  go_wp2_with (fail)
  go_ret
  exact ⟨rfl, hw⟩

end Go.Proofs.Ytgbkbcgjagcgbaa
