import Derived.Test.YtgfhoabgbgddbaaDoorProg
import Derived.WalkKit
import Derived.WalkSpells
import Derived.WalkLawsBesides
import Derived.Lib.QuietBelow
import Derived.BigQuiet
import Derived.Test.YtgfhoabgbgddbaaDoorKa
import Derived.Test.YtgfhoabgbgddbaaDoorMa
namespace Go.Proofs.YtgfhoabgbgddbaaDoor
set_option maxRecDepth 100000
open Go.RowKit Go.Sort
attribute [local go_sem] setCell_drewN alloc_drewN


theorem sstep (d c : Int) (l : 0 ≤ d) (u : d < 4503599627370496) (lc : 0 ≤ c) (uc : c ≤ 4096) : ∃ e c' : Int, (d + c) / 2251799813685248 = c' ∧ bits .and .u64 (d + c) 2251799813685247 = e ∧ Hid (e + 2251799813685248 * c' = d + c) ∧ 0 ≤ c' ∧ c' ≤ 4 ∧ 0 ≤ e ∧ e < 2251799813685248 := by
  rw [and51 _ (by omega) (by omega)]
  exact ⟨_, _, rfl, rfl, by unfold Hid; omega, by omega, by omega, by omega, by omega⟩

set_option maxHeartbeats 1000000 in
theorem settled_any (a0 a1 a2 a3 a4 c : Int) (lo0 : 0 ≤ a0) (hi0 : a0 < 4503599627370496) (lo1 : 0 ≤ a1) (hi1 : a1 < 4503599627370496) (lo2 : 0 ≤ a2) (hi2 : a2 < 4503599627370496) (lo3 : 0 ≤ a3) (hi3 : a3 < 4503599627370496) (lo4 : 0 ≤ a4) (hi4 : a4 < 4503599627370496) (lc : 0 ≤ c) (uc : c ≤ 4096) (w : World) :
    Calls Tryd.prog 127 #[.agg #[.int .u64 a0, .int .u64 a1, .int .u64 a2, .int .u64 a3, .int .u64 a4], .int .u64 c] w fun r w' => ∃ e0 e1 e2 e3 e4 o : Int, r = .returned (.tuple #[.agg #[.int .u64 e0, .int .u64 e1, .int .u64 e2, .int .u64 e3, .int .u64 e4], .int .u64 o]) ∧ Below w.heap.size w w' ∧ ((0 ≤ e0 ∧ e0 < 2251799813685248) ∧ (0 ≤ e1 ∧ e1 < 2251799813685248) ∧ (0 ≤ e2 ∧ e2 < 2251799813685248) ∧ (0 ≤ e3 ∧ e3 < 2251799813685248) ∧ (0 ≤ e4 ∧ e4 < 2251799813685248) ∧ 0 ≤ o ∧ o ≤ 4) ∧ v5 e0 e1 e2 e3 e4 + 57896044618658097711785492504343953926634992332820282019728792003956564819968 * o = v5 a0 a1 a2 a3 a4 + c := by
  go_enter Tryd.func127, Tryd.ntmps127
  go_wp2
  refine wp_loop_rounds 6 ?_
  rw [rounds_succ]
  go_wp2
  obtain ⟨e0, c0, hq, hr, H0, lc0, uc0, le0, ue0⟩ := sstep a0 c lo0 hi0 lc uc
  rw [hq, hr]; clear hq hr
  rw [rounds_succ]
  go_wp2
  obtain ⟨e1, c1, hq, hr, H1, lc1, uc1, le1, ue1⟩ := sstep a1 c0 lo1 hi1 lc0 (by omega)
  rw [hq, hr]; clear hq hr
  rw [rounds_succ]
  go_wp2
  obtain ⟨e2, c2, hq, hr, H2, lc2, uc2, le2, ue2⟩ := sstep a2 c1 lo2 hi2 lc1 (by omega)
  rw [hq, hr]; clear hq hr
  rw [rounds_succ]
  go_wp2
  obtain ⟨e3, c3, hq, hr, H3, lc3, uc3, le3, ue3⟩ := sstep a3 c2 lo3 hi3 lc2 (by omega)
  rw [hq, hr]; clear hq hr
  rw [rounds_succ]
  go_wp2
  obtain ⟨e4, c4, hq, hr, H4, lc4, uc4, le4, ue4⟩ := sstep a4 c3 lo4 hi4 lc3 (by omega)
  rw [hq, hr]; clear hq hr
  rw [rounds_succ]
  go_wp2_with (first | (refine wpList_load_row rfl 25 _ rfl w.heap.size rfl 25 _ (0, 0) _ (hp2_0 w _ _) Tryd.underlying25 rfl (by kernel_rfl) ?_) | (refine wpList_store_row rfl 25 _ _ rfl (w.heap.size + 1) _ rfl rfl 25 _ (hp2_1 w _ _) (by kernel_rfl) rfl (by kernel_rfl) ?_; rw [setRow_alloc_new _ _ _ _ _ _ (by simp)]))
  refine bodyPost_ret (v := .tuple #[.agg #[.int .u64 e0, .int .u64 e1, .int .u64 e2, .int .u64 e3, .int .u64 e4], .int .u64 c4]) (results_row_tmp Tryd.results127 _ _ (w.heap.size + 1) _ _ _ _ _ rfl rfl (hp2_1 w _ _) Tryd.underlying25 rfl (by kernel_rfl)) rfl ⟨e0, e1, e2, e3, e4, c4, rfl, ((Below.refl _ _).alloc (Nat.le_refl _) _).alloc (by simp) _, ⟨⟨le0, ue0⟩, ⟨le1, ue1⟩, ⟨le2, ue2⟩, ⟨le3, ue3⟩, ⟨le4, ue4⟩, lc4, uc4⟩, ?_⟩
  have h0 := H0.out; have h1 := H1.out; have h2 := H2.out; have h3 := H3.out; have h4 := H4.out
  unfold v5
  omega


theorem least_num (V U X Y t s o : Int) (hU0 : 0 ≤ U) (hU1 : U < 57896044618658097711785492504343953926634992332820282019728792003956564819968) (hX0 : 0 ≤ X) (hX1 : X < 57896044618658097711785492504343953926634992332820282019728792003956564819968) (hY0 : 0 ≤ Y) (hY1 : Y < 57896044618658097711785492504343953926634992332820282019728792003956564819968) (ht0 : 0 ≤ t) (hs0 : 0 ≤ s) (ho0 : 0 ≤ o) (ht : t ≤ 4)
    (h1 : U + 57896044618658097711785492504343953926634992332820282019728792003956564819968 * t = V) (h2 : X + 57896044618658097711785492504343953926634992332820282019728792003956564819968 * s = U + (19 * t + 19)) (h3 : Y + 57896044618658097711785492504343953926634992332820282019728792003956564819968 * o = U + 19 * (t + s)) : Y = V % prm := by
  have hs : s = 0 ∨ s = 1 := by omega
  have ho : o = s := by rcases hs with rfl | rfl <;> omega
  subst ho
  have hY : Y = V - 57896044618658097711785492504343953926634992332820282019728792003956564819949 * (t + o) := by omega
  have hY2 : Y < 57896044618658097711785492504343953926634992332820282019728792003956564819949 := by rcases hs with rfl | rfl <;> omega
  unfold prm
  clear h1 h2 h3 hs
  generalize t + o = k at *
  omega

set_option maxHeartbeats 1000000 in
theorem least_any (a0 a1 a2 a3 a4 : Int) (lo0 : 0 ≤ a0) (hi0 : a0 < 4503599627370496) (lo1 : 0 ≤ a1) (hi1 : a1 < 4503599627370496) (lo2 : 0 ≤ a2) (hi2 : a2 < 4503599627370496) (lo3 : 0 ≤ a3) (hi3 : a3 < 4503599627370496) (lo4 : 0 ≤ a4) (hi4 : a4 < 4503599627370496) (w : World) :
    Calls Tryd.prog 103 #[.agg #[.int .u64 a0, .int .u64 a1, .int .u64 a2, .int .u64 a3, .int .u64 a4]] w fun r w' => r = .returned (.agg #[.int .u64 (lb (v5 a0 a1 a2 a3 a4 % prm) 0), .int .u64 (lb (v5 a0 a1 a2 a3 a4 % prm) 1), .int .u64 (lb (v5 a0 a1 a2 a3 a4 % prm) 2), .int .u64 (lb (v5 a0 a1 a2 a3 a4 % prm) 3), .int .u64 (lb (v5 a0 a1 a2 a3 a4 % prm) 4)]) ∧ Below w.heap.size w w' := by
  go_enter Tryd.func103, Tryd.ntmps103
  go_wp2_with fail
  refine (settled_any a0 a1 a2 a3 a4 0 lo0 hi0 lo1 hi1 lo2 hi2 lo3 hi3 lo4 hi4 (by omega) (by omega) _).mono ?_
  rintro r w1 ⟨e0, e1, e2, e3, e4, t, rfl, hbt, ⟨⟨le0, ue0⟩, ⟨le1, ue1⟩, ⟨le2, ue2⟩, ⟨le3, ue3⟩, ⟨le4, ue4⟩, lt, ut⟩, hvt⟩
  have hs1 := hbt.size
  simp only [World.size_alloc] at hs1
  have HVt := hide hvt; clear hvt
  have rZ1 : w1.heap[w.heap.size + 1]? = some (.cells #[.int .u64 0, .int .u64 0, .int .u64 0, .int .u64 0, .int .u64 0] 25 (0, 0)) := (hbt.block _ (by simp)).trans (hp2_1 w _ _)
  have hbw1 : Below w.heap.size w w1 := (((Below.refl _ _).alloc (Nat.le_refl _) _).alloc (by simp) _).trans (hbt.mono (by simp; omega))
  clear hbt
  go_wp2_with (first | (refine wpList_store_row rfl 25 _ _ rfl w1.heap.size #[.int .u64 e0, .int .u64 e1, .int .u64 e2, .int .u64 e3, .int .u64 e4] rfl rfl 25 _ (hp1_0 w1 _) (by kernel_rfl) rfl (by kernel_rfl) ?_; rw [setRow_alloc_new _ _ _ _ _ _ rfl]) | (refine wpList_load_row rfl 25 _ rfl w1.heap.size rfl 25 #[.int .u64 e0, .int .u64 e1, .int .u64 e2, .int .u64 e3, .int .u64 e4] (0, 0) _ (hp1_0 w1 _) Tryd.underlying25 rfl (by kernel_rfl) ?_) | fail)
  refine (settled_any e0 e1 e2 e3 e4 (19 * t + 19) le0 (by omega) le1 (by omega) le2 (by omega) le3 (by omega) le4 (by omega) (by omega) (by omega) _).mono ?_
  rintro r w2 ⟨f0, f1, f2, f3, f4, s, rfl, hbs, ⟨⟨lf0, uf0⟩, ⟨lf1, uf1⟩, ⟨lf2, uf2⟩, ⟨lf3, uf3⟩, ⟨lf4, uf4⟩, ls, us⟩, hvs⟩
  have hs2 := hbs.size
  simp only [World.size_alloc] at hs2
  have HVs := hide hvs; clear hvs
  have r3 : w2.heap[w1.heap.size]? = some (.cells #[.int .u64 e0, .int .u64 e1, .int .u64 e2, .int .u64 e3, .int .u64 e4] 25 (0, 0)) := (hbs.block _ (by simp)).trans (hp1_0 w1 _)
  have rZ2 : w2.heap[w.heap.size + 1]? = some (.cells #[.int .u64 0, .int .u64 0, .int .u64 0, .int .u64 0, .int .u64 0] 25 (0, 0)) := (hbs.block _ (by simp; omega)).trans ((Go.heap_alloc_old w1 _ (by omega)).trans rZ1)
  have hbw2 : Below w.heap.size w w2 := hbw1.trans (((Below.refl w.heap.size w1).alloc (by omega) _).trans (hbs.mono (by simp; omega)))
  clear hbs hbw1 rZ1
  have r3o := fun o => (Go.heap_alloc_old w2 o (show w1.heap.size < w2.heap.size by omega)).trans r3
  go_wp2_with (first | (refine wpList_store_row rfl 25 _ _ rfl w2.heap.size #[.int .u64 f0, .int .u64 f1, .int .u64 f2, .int .u64 f3, .int .u64 f4] rfl rfl 25 _ (hp1_0 w2 _) (by kernel_rfl) rfl (by kernel_rfl) ?_; rw [setRow_alloc_new _ _ _ _ _ _ rfl]) | (refine wpList_load_row rfl 25 _ rfl w1.heap.size rfl 25 #[.int .u64 e0, .int .u64 e1, .int .u64 e2, .int .u64 e3, .int .u64 e4] (0, 0) _ (r3o _) Tryd.underlying25 rfl (by kernel_rfl) ?_) | fail)
  refine (settled_any e0 e1 e2 e3 e4 (19 * (t + s)) le0 (by omega) le1 (by omega) le2 (by omega) le3 (by omega) le4 (by omega) (by omega) (by omega) _).mono ?_
  rintro r w3 ⟨g0, g1, g2, g3, g4, o, rfl, hbo, ⟨⟨lg0, ug0⟩, ⟨lg1, ug1⟩, ⟨lg2, ug2⟩, ⟨lg3, ug3⟩, ⟨lg4, ug4⟩, lo, uo⟩, hvo⟩
  have hs3 := hbo.size
  simp only [World.size_alloc] at hs3
  have HVo := hide hvo; clear hvo
  have r33 : w3.heap[w1.heap.size]? = some (.cells #[.int .u64 e0, .int .u64 e1, .int .u64 e2, .int .u64 e3, .int .u64 e4] 25 (0, 0)) := (hbo.block _ (by simp; omega)).trans (r3o _)
  have rZ3 : w3.heap[w.heap.size + 1]? = some (.cells #[.int .u64 0, .int .u64 0, .int .u64 0, .int .u64 0, .int .u64 0] 25 (0, 0)) := (hbo.block _ (by simp; omega)).trans ((Go.heap_alloc_old w2 _ (by omega)).trans rZ2)
  have hbw3 : Below w.heap.size w w3 := hbw2.trans (((Below.refl w.heap.size w2).alloc (by omega) _).trans (hbo.mono (by simp; omega)))
  clear hbo hbw2 rZ2 r3o r3
  have r34 := setRow_heap w3 _ _ #[.int .u64 g0, .int .u64 g1, .int .u64 g2, .int .u64 g3, .int .u64 g4] _ _ r33
  have rZ4 := (setRow_other w3 w1.heap.size (w.heap.size + 1) #[.int .u64 g0, .int .u64 g1, .int .u64 g2, .int .u64 g3, .int .u64 g4] (by omega)).trans rZ3
  have hbw4 := below_setRow hbw3 (show w.heap.size ≤ w1.heap.size by omega) #[.int .u64 g0, .int .u64 g1, .int .u64 g2, .int .u64 g3, .int .u64 g4]
  have R33 := hide r33
  go_wp2_with (first | (refine wpList_store_row rfl 25 _ _ rfl w1.heap.size #[.int .u64 g0, .int .u64 g1, .int .u64 g2, .int .u64 g3, .int .u64 g4] rfl rfl 25 _ R33.out (by kernel_rfl) rfl (by kernel_rfl) ?_) | (refine wpList_load_row rfl 25 _ rfl w1.heap.size rfl 25 #[.int .u64 g0, .int .u64 g1, .int .u64 g2, .int .u64 g3, .int .u64 g4] (0, 0) _ r34 Tryd.underlying25 rfl (by kernel_rfl) ?_) | (refine wpList_store_row rfl 25 _ _ rfl (w.heap.size + 1) #[.int .u64 g0, .int .u64 g1, .int .u64 g2, .int .u64 g3, .int .u64 g4] rfl rfl 25 _ rZ4 (by kernel_rfl) rfl (by kernel_rfl) ?_) | fail)
  have hm : v5 g0 g1 g2 g3 g4 = v5 a0 a1 a2 a3 a4 % prm := by
    have z1 := HVt.out; have z2 := HVs.out; have z3 := HVo.out
    refine least_num (v5 a0 a1 a2 a3 a4) (v5 e0 e1 e2 e3 e4) (v5 f0 f1 f2 f3 f4) (v5 g0 g1 g2 g3 g4) t s o ?_ ?_ ?_ ?_ ?_ ?_ lt ls lo ut (by omega) z2 z3
    all_goals (unfold v5; omega)
  obtain ⟨k0, k1, k2, k3, k4⟩ := lb_v5 g0 g1 g2 g3 g4 lg0 ug0 lg1 ug1 lg2 ug2 lg3 ug3 lg4 ug4
  refine bodyPost_ret (v := .agg #[.int .u64 g0, .int .u64 g1, .int .u64 g2, .int .u64 g3, .int .u64 g4]) (results_cell_row Tryd.results103 _ _ (w.heap.size + 1) _ _ _ _ rfl (setRow_heap _ _ _ _ _ _ rZ4) Tryd.underlying25 rfl (by kernel_rfl)) rfl ⟨?_, below_setRow hbw4 (by omega) _⟩
  rw [← hm, k0, k1, k2, k3, k4]

end Go.Proofs.YtgfhoabgbgddbaaDoor

