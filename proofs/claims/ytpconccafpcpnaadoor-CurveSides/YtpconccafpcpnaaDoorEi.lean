import Derived.Test.YtpconccafpcpnaaDoorProg
import Derived.WalkKit
import Derived.WalkSpells
import Derived.WalkLawsBesides
import Derived.Lib.QuietBelow
import Derived.BigQuiet
import Derived.Test.YtpconccafpcpnaaDoorKa
import Derived.Test.YtpconccafpcpnaaDoorCd
import Derived.Test.YtpconccafpcpnaaDoorCm
import Derived.Test.YtpconccafpcpnaaDoorCoa
import Derived.Test.YtpconccafpcpnaaDoorAc
import Derived.Test.YtpconccafpcpnaaDoorJa
namespace Go.Proofs.YtpconccafpcpnaaDoor
set_option maxRecDepth 100000
open Go.RowKit Go.Sort
attribute [local go_sem] setCell_drewN alloc_drewN


theorem curved_fX (X : Int) : (((((X * (X * X % prm) % prm) + (486662 * (X * X % prm) % prm)) % prm) + X) % prm) % prm = fX X % prm := by
  have e : fX X = X * (X * X) + 486662 * (X * X) + X := by unfold fX; grind
  rw [e]
  simp only [Int.emod_emod, Int.add_emod, Int.mul_emod]
theorem cvn_fX (X : Int) : cvn X % prm = fX X % prm := by
  have e : fX X = X * (X * X + 486662 * X + 1) := by unfold fX; grind
  rw [e]
  unfold cvn
  simp only [Int.emod_emod, Int.add_emod, Int.mul_emod]
set_option maxRecDepth 100000 in
set_option maxHeartbeats 4000000 in
theorem a_curved {xr : Array Value} {X : Int} (hx : NumOf xr X) : ∃ t, NumOf t (fX X) ∧ Gives 28 #[.agg xr] (.agg t) := by
  obtain ⟨x1, h1, c1⟩ := b_square hx
  obtain ⟨x2, h2, c2⟩ := b_mul hx h1
  obtain ⟨x3, h3, c3⟩ := b_times h1 486662 (by decide) (by decide)
  obtain ⟨x4, h4, c4⟩ := b_add h2 h3
  obtain ⟨x5, h5, c5⟩ := b_add h4 hx
  refine ⟨x5, h5.congr (curved_fX X), ?_⟩
  intro w
  go_enter Tryd.func28, Tryd.ntmps28
  go_wp2
  have rp0 : ((w.alloc (.cells xr 26)).alloc (.cells #[.int .u64 0, .int .u64 0, .int .u64 0, .int .u64 0, .int .u64 0] 26)).heap[w.heap.size]? = some (.cells xr 26 (0, 0)) := hp2_0 w _ _
  have rp1 : ((w.alloc (.cells xr 26)).alloc (.cells #[.int .u64 0, .int .u64 0, .int .u64 0, .int .u64 0, .int .u64 0] 26)).heap[w.heap.size + 1]? = some (.cells #[.int .u64 0, .int .u64 0, .int .u64 0, .int .u64 0, .int .u64 0] 26 (0, 0)) := hp2_1 w _ _
  have hw : Below w.heap.size w ((w.alloc (.cells xr 26)).alloc (.cells #[.int .u64 0, .int .u64 0, .int .u64 0, .int .u64 0, .int .u64 0] 26)) := (((Below.refl _ _).alloc (Nat.le_refl _) _).alloc (by simp) _)
  generalize ((w.alloc (.cells xr 26)).alloc (.cells #[.int .u64 0, .int .u64 0, .int .u64 0, .int .u64 0, .int .u64 0] 26)) = w0 at *
  have Hrp0 := keepr rp0
  have Hrp1 := keepr rp1
  refine wp_region_tail (C := fun w' => ∃ p : Regrown, w' = grow (redrawn w0 p.d) p.os) 10 _ rfl rfl rfl (by kernel_rfl) (by kernel_rfl) (by kernel_rfl) (by kernel_rfl) ⟨⟨w0.drawn + 1, #[]⟩, by rw [grow_empty]; rfl⟩ ?_
  dsimp only [List.set, idle]
  refine wpQuiet_load_row rfl 26 _ rfl (w.heap.size) rfl 26 xr (0, 0) _ Hrp0.out Tryd.underlying26 rfl hx.info ?_
  simp only [Act.put, List.setIfInBounds_toArray, List.set_cons_succ, List.set_cons_zero]
  refine wpQuiet_load_row rfl 26 _ rfl (w.heap.size) rfl 26 xr (0, 0) _ Hrp0.out Tryd.underlying26 rfl hx.info ?_
  simp only [Act.put, List.setIfInBounds_toArray, List.set_cons_succ, List.set_cons_zero]
  go_big_quiet_step (exact c1.re)
  go_big_quiet_step (exact c2.re)
  refine wpQuiet_load_row rfl 26 _ rfl (w.heap.size) rfl 26 xr (0, 0) _ Hrp0.out Tryd.underlying26 rfl hx.info ?_
  simp only [Act.put, List.setIfInBounds_toArray, List.set_cons_succ, List.set_cons_zero]
  go_big_quiet_step (exact c1.re)
  go_big_quiet_step (exact c3.re)
  go_big_quiet_step (exact c4.re)
  refine wpQuiet_load_row rfl 26 _ rfl (w.heap.size) rfl 26 xr (0, 0) _ Hrp0.out Tryd.underlying26 rfl hx.info ?_
  simp only [Act.put, List.setIfInBounds_toArray, List.set_cons_succ, List.set_cons_zero]
  go_big_quiet_step (exact c5.re)
  refine wpQuiet_idle rfl rfl rfl ?_
  rintro _ ⟨p, rfl⟩
  have hb := below_regrown w0 p.d p.os
  generalize grow (redrawn w0 p.d) p.os = w6 at *
  replace rp0 := keep hb rp0
  replace rp1 := keep hb rp1
  replace hw := Below.after hw hb
  clear hb
  clear Hrp0 Hrp1
  go_wp2_with (first | (refine wpList_store_row rfl 26 _ _ rfl (w.heap.size + 1) x5 rfl rfl 26 _ rp1 h5.info (h5.fits rfl) h5.one ?_) | fail)
  exact bodyPost_ret (v := .agg x5) (results_cell_row Tryd.results28 _ _ (w.heap.size + 1) _ x5 _ _ rfl (setRow_heap _ _ _ _ _ _ rp1) Tryd.underlying26 rfl h5.info) rfl ⟨rfl, below_setRow hw (by omega) _⟩

end Go.Proofs.YtpconccafpcpnaaDoor

