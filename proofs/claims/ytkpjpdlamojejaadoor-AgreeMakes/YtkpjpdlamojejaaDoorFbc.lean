import Derived.Test.YtkpjpdlamojejaaDoorProg
import Derived.WalkKit
import Derived.WalkSpells
import Derived.WalkLawsBesides
import Derived.Lib.QuietBelow
import Derived.BigQuiet
import Derived.Test.YtkpjpdlamojejaaDoorKa
import Derived.Test.YtkpjpdlamojejaaDoorMa
namespace Go.Proofs.YtkpjpdlamojejaaDoor.Lo
set_option maxRecDepth 100000
open Go.RowKit Go.Sort
attribute [local go_sem] setCell_drewN alloc_drewN


theorem sstep (d c : Int) (l : 0 ≤ d) (u : d < 4503599627370496) (lc : 0 ≤ c) (uc : c ≤ 4096) : ∃ e c' : Int, (d + c) / 2251799813685248 = c' ∧ bits .and .u64 (d + c) 2251799813685247 = e ∧ Hid (e + 2251799813685248 * c' = d + c) ∧ 0 ≤ c' ∧ c' ≤ 4 ∧ 0 ≤ e ∧ e < 2251799813685248 := by
  rw [and51 _ (by omega) (by omega)]
  exact ⟨_, _, rfl, rfl, by unfold Hid; omega, by omega, by omega, by omega, by omega⟩

set_option maxHeartbeats 1000000 in
theorem settled_any (a0 a1 a2 a3 a4 c : Int) (lo0 : 0 ≤ a0) (hi0 : a0 < 4503599627370496) (lo1 : 0 ≤ a1) (hi1 : a1 < 4503599627370496) (lo2 : 0 ≤ a2) (hi2 : a2 < 4503599627370496) (lo3 : 0 ≤ a3) (hi3 : a3 < 4503599627370496) (lo4 : 0 ≤ a4) (hi4 : a4 < 4503599627370496) (lc : 0 ≤ c) (uc : c ≤ 4096) (w : World) :
    Calls Tryd.prog 55 #[.agg #[.int .u64 a0, .int .u64 a1, .int .u64 a2, .int .u64 a3, .int .u64 a4], .int .u64 c] w fun r w' => ∃ e0 e1 e2 e3 e4 o : Int, r = .returned (.tuple #[.agg #[.int .u64 e0, .int .u64 e1, .int .u64 e2, .int .u64 e3, .int .u64 e4], .int .u64 o]) ∧ Below w.heap.size w w' ∧ ((0 ≤ e0 ∧ e0 < 2251799813685248) ∧ (0 ≤ e1 ∧ e1 < 2251799813685248) ∧ (0 ≤ e2 ∧ e2 < 2251799813685248) ∧ (0 ≤ e3 ∧ e3 < 2251799813685248) ∧ (0 ≤ e4 ∧ e4 < 2251799813685248) ∧ 0 ≤ o ∧ o ≤ 4) ∧ v5 e0 e1 e2 e3 e4 + 57896044618658097711785492504343953926634992332820282019728792003956564819968 * o = v5 a0 a1 a2 a3 a4 + c := by
  go_enter Tryd.func55, Tryd.ntmps55
  go_wp2
  refine wp_loop_rounds 6 ?_
  rw [rounds_succ]
  go_wp2
  obtain ⟨e0, c0, hq, hr, H0, lc0, uc0, le0, ue0⟩ := sstep a0 c lo0 hi0 lc uc
  rw [hq, hr]; clear hq hr
  rw [rounds_succ]
  go_wp2
  obtain ⟨e1, c1, hq, hr, H1, lc1, uc1, le1, ue1⟩ := sstep a1 c0 lo1 hi1 lc0 (by omega)
  rw [hq, hr]; clear hq hr
  rw [rounds_succ]
  go_wp2
  obtain ⟨e2, c2, hq, hr, H2, lc2, uc2, le2, ue2⟩ := sstep a2 c1 lo2 hi2 lc1 (by omega)
  rw [hq, hr]; clear hq hr
  rw [rounds_succ]
  go_wp2
  obtain ⟨e3, c3, hq, hr, H3, lc3, uc3, le3, ue3⟩ := sstep a3 c2 lo3 hi3 lc2 (by omega)
  rw [hq, hr]; clear hq hr
  rw [rounds_succ]
  go_wp2
  obtain ⟨e4, c4, hq, hr, H4, lc4, uc4, le4, ue4⟩ := sstep a4 c3 lo4 hi4 lc3 (by omega)
  rw [hq, hr]; clear hq hr
  rw [rounds_succ]
  go_wp2_with (first | (refine wpList_load_row rfl 58 _ rfl w.heap.size rfl 58 _ (0, 0) _ (hp2_0 w _ _) Tryd.underlying58 rfl (by kernel_rfl) ?_) | (refine wpList_store_row rfl 58 _ _ rfl (w.heap.size + 1) _ rfl rfl 58 _ (hp2_1 w _ _) (by kernel_rfl) rfl (by kernel_rfl) ?_; rw [setRow_alloc_new _ _ _ _ _ _ (by simp)]))
  refine bodyPost_ret (v := .tuple #[.agg #[.int .u64 e0, .int .u64 e1, .int .u64 e2, .int .u64 e3, .int .u64 e4], .int .u64 c4]) (results_row_tmp Tryd.results55 _ _ (w.heap.size + 1) _ _ _ _ _ rfl rfl (hp2_1 w _ _) Tryd.underlying58 rfl (by kernel_rfl)) rfl ⟨e0, e1, e2, e3, e4, c4, rfl, ((Below.refl _ _).alloc (Nat.le_refl _) _).alloc (by simp) _, ⟨⟨le0, ue0⟩, ⟨le1, ue1⟩, ⟨le2, ue2⟩, ⟨le3, ue3⟩, ⟨le4, ue4⟩, lc4, uc4⟩, ?_⟩
  have h0 := H0.out; have h1 := H1.out; have h2 := H2.out; have h3 := H3.out; have h4 := H4.out
  unfold v5
  omega


theorem least_num (V U X Y t s o : Int) (hU0 : 0 ≤ U) (hU1 : U < 57896044618658097711785492504343953926634992332820282019728792003956564819968) (hX0 : 0 ≤ X) (hX1 : X < 57896044618658097711785492504343953926634992332820282019728792003956564819968) (hY0 : 0 ≤ Y) (hY1 : Y < 57896044618658097711785492504343953926634992332820282019728792003956564819968) (ht0 : 0 ≤ t) (hs0 : 0 ≤ s) (ho0 : 0 ≤ o) (ht : t ≤ 4)
    (h1 : U + 57896044618658097711785492504343953926634992332820282019728792003956564819968 * t = V) (h2 : X + 57896044618658097711785492504343953926634992332820282019728792003956564819968 * s = U + (19 * t + 19)) (h3 : Y + 57896044618658097711785492504343953926634992332820282019728792003956564819968 * o = U + 19 * (t + s)) : Y = V % prm := by
  have hs : s = 0 ∨ s = 1 := by omega
  have ho : o = s := by rcases hs with rfl | rfl <;> omega
  subst ho
  have hY : Y = V - 57896044618658097711785492504343953926634992332820282019728792003956564819949 * (t + o) := by omega
  have hY2 : Y < 57896044618658097711785492504343953926634992332820282019728792003956564819949 := by rcases hs with rfl | rfl <;> omega
  unfold prm
  clear h1 h2 h3 hs
  generalize t + o = k at *
  omega

set_option maxHeartbeats 1000000 in
theorem least_any (a0 a1 a2 a3 a4 : Int) (lo0 : 0 ≤ a0) (hi0 : a0 < 4503599627370496) (lo1 : 0 ≤ a1) (hi1 : a1 < 4503599627370496) (lo2 : 0 ≤ a2) (hi2 : a2 < 4503599627370496) (lo3 : 0 ≤ a3) (hi3 : a3 < 4503599627370496) (lo4 : 0 ≤ a4) (hi4 : a4 < 4503599627370496) (w : World) :
    Calls Tryd.prog 36 #[.agg #[.int .u64 a0, .int .u64 a1, .int .u64 a2, .int .u64 a3, .int .u64 a4]] w fun r w' => r = .returned (.agg #[.int .u64 (lb (v5 a0 a1 a2 a3 a4 % prm) 0), .int .u64 (lb (v5 a0 a1 a2 a3 a4 % prm) 1), .int .u64 (lb (v5 a0 a1 a2 a3 a4 % prm) 2), .int .u64 (lb (v5 a0 a1 a2 a3 a4 % prm) 3), .int .u64 (lb (v5 a0 a1 a2 a3 a4 % prm) 4)]) ∧ Below w.heap.size w w' := by
  go_enter Tryd.func36, Tryd.ntmps36
  go_wp2_with fail
  refine (settled_any a0 a1 a2 a3 a4 0 lo0 hi0 lo1 hi1 lo2 hi2 lo3 hi3 lo4 hi4 (by omega) (by omega) _).mono ?_
  rintro r w1 ⟨e0, e1, e2, e3, e4, t, rfl, hbt, ⟨⟨le0, ue0⟩, ⟨le1, ue1⟩, ⟨le2, ue2⟩, ⟨le3, ue3⟩, ⟨le4, ue4⟩, lt, ut⟩, hvt⟩
  have hs1 := hbt.size
  simp only [World.size_alloc] at hs1
  have HVt := hide hvt; clear hvt
  have rZ1 : w1.heap[w.heap.size + 1]? = some (.cells #[.int .u64 0, .int .u64 0, .int .u64 0, .int .u64 0, .int .u64 0] 58 (0, 0)) := (hbt.block _ (by simp)).trans (hp2_1 w _ _)
  have hbw1 : Below w.heap.size w w1 := (((Below.refl _ _).alloc (Nat.le_refl _) _).alloc (by simp) _).trans (hbt.mono (by simp; omega))
  clear hbt
  go_wp2_with (first | (refine wpList_store_row rfl 58 _ _ rfl w1.heap.size #[.int .u64 e0, .int .u64 e1, .int .u64 e2, .int .u64 e3, .int .u64 e4] rfl rfl 58 _ (hp1_0 w1 _) (by kernel_rfl) rfl (by kernel_rfl) ?_; rw [setRow_alloc_new _ _ _ _ _ _ rfl]) | (refine wpList_load_row rfl 58 _ rfl w1.heap.size rfl 58 #[.int .u64 e0, .int .u64 e1, .int .u64 e2, .int .u64 e3, .int .u64 e4] (0, 0) _ (hp1_0 w1 _) Tryd.underlying58 rfl (by kernel_rfl) ?_) | fail)
  refine (settled_any e0 e1 e2 e3 e4 (19 * t + 19) le0 (by omega) le1 (by omega) le2 (by omega) le3 (by omega) le4 (by omega) (by omega) (by omega) _).mono ?_
  rintro r w2 ⟨f0, f1, f2, f3, f4, s, rfl, hbs, ⟨⟨lf0, uf0⟩, ⟨lf1, uf1⟩, ⟨lf2, uf2⟩, ⟨lf3, uf3⟩, ⟨lf4, uf4⟩, ls, us⟩, hvs⟩
  have hs2 := hbs.size
  simp only [World.size_alloc] at hs2
  have HVs := hide hvs; clear hvs
  have r3 : w2.heap[w1.heap.size]? = some (.cells #[.int .u64 e0, .int .u64 e1, .int .u64 e2, .int .u64 e3, .int .u64 e4] 58 (0, 0)) := (hbs.block _ (by simp)).trans (hp1_0 w1 _)
  have rZ2 : w2.heap[w.heap.size + 1]? = some (.cells #[.int .u64 0, .int .u64 0, .int .u64 0, .int .u64 0, .int .u64 0] 58 (0, 0)) := (hbs.block _ (by simp; omega)).trans ((Go.heap_alloc_old w1 _ (by omega)).trans rZ1)
  have hbw2 : Below w.heap.size w w2 := hbw1.trans (((Below.refl w.heap.size w1).alloc (by omega) _).trans (hbs.mono (by simp; omega)))
  clear hbs hbw1 rZ1
  have r3o := fun o => (Go.heap_alloc_old w2 o (show w1.heap.size < w2.heap.size by omega)).trans r3
  go_wp2_with (first | (refine wpList_store_row rfl 58 _ _ rfl w2.heap.size #[.int .u64 f0, .int .u64 f1, .int .u64 f2, .int .u64 f3, .int .u64 f4] rfl rfl 58 _ (hp1_0 w2 _) (by kernel_rfl) rfl (by kernel_rfl) ?_; rw [setRow_alloc_new _ _ _ _ _ _ rfl]) | (refine wpList_load_row rfl 58 _ rfl w1.heap.size rfl 58 #[.int .u64 e0, .int .u64 e1, .int .u64 e2, .int .u64 e3, .int .u64 e4] (0, 0) _ (r3o _) Tryd.underlying58 rfl (by kernel_rfl) ?_) | fail)
  refine (settled_any e0 e1 e2 e3 e4 (19 * (t + s)) le0 (by omega) le1 (by omega) le2 (by omega) le3 (by omega) le4 (by omega) (by omega) (by omega) _).mono ?_
  rintro r w3 ⟨g0, g1, g2, g3, g4, o, rfl, hbo, ⟨⟨lg0, ug0⟩, ⟨lg1, ug1⟩, ⟨lg2, ug2⟩, ⟨lg3, ug3⟩, ⟨lg4, ug4⟩, lo, uo⟩, hvo⟩
  have hs3 := hbo.size
  simp only [World.size_alloc] at hs3
  have HVo := hide hvo; clear hvo
  have r33 : w3.heap[w1.heap.size]? = some (.cells #[.int .u64 e0, .int .u64 e1, .int .u64 e2, .int .u64 e3, .int .u64 e4] 58 (0, 0)) := (hbo.block _ (by simp; omega)).trans (r3o _)
  have rZ3 : w3.heap[w.heap.size + 1]? = some (.cells #[.int .u64 0, .int .u64 0, .int .u64 0, .int .u64 0, .int .u64 0] 58 (0, 0)) := (hbo.block _ (by simp; omega)).trans ((Go.heap_alloc_old w2 _ (by omega)).trans rZ2)
  have hbw3 : Below w.heap.size w w3 := hbw2.trans (((Below.refl w.heap.size w2).alloc (by omega) _).trans (hbo.mono (by simp; omega)))
  clear hbo hbw2 rZ2 r3o r3
  have r34 := setRow_heap w3 _ _ #[.int .u64 g0, .int .u64 g1, .int .u64 g2, .int .u64 g3, .int .u64 g4] _ _ r33
  have rZ4 := (setRow_other w3 w1.heap.size (w.heap.size + 1) #[.int .u64 g0, .int .u64 g1, .int .u64 g2, .int .u64 g3, .int .u64 g4] (by omega)).trans rZ3
  have hbw4 := below_setRow hbw3 (show w.heap.size ≤ w1.heap.size by omega) #[.int .u64 g0, .int .u64 g1, .int .u64 g2, .int .u64 g3, .int .u64 g4]
  have R33 := hide r33
  go_wp2_with (first | (refine wpList_store_row rfl 58 _ _ rfl w1.heap.size #[.int .u64 g0, .int .u64 g1, .int .u64 g2, .int .u64 g3, .int .u64 g4] rfl rfl 58 _ R33.out (by kernel_rfl) rfl (by kernel_rfl) ?_) | (refine wpList_load_row rfl 58 _ rfl w1.heap.size rfl 58 #[.int .u64 g0, .int .u64 g1, .int .u64 g2, .int .u64 g3, .int .u64 g4] (0, 0) _ r34 Tryd.underlying58 rfl (by kernel_rfl) ?_) | (refine wpList_store_row rfl 58 _ _ rfl (w.heap.size + 1) #[.int .u64 g0, .int .u64 g1, .int .u64 g2, .int .u64 g3, .int .u64 g4] rfl rfl 58 _ rZ4 (by kernel_rfl) rfl (by kernel_rfl) ?_) | fail)
  have hm : v5 g0 g1 g2 g3 g4 = v5 a0 a1 a2 a3 a4 % prm := by
    have z1 := HVt.out; have z2 := HVs.out; have z3 := HVo.out
    refine least_num (v5 a0 a1 a2 a3 a4) (v5 e0 e1 e2 e3 e4) (v5 f0 f1 f2 f3 f4) (v5 g0 g1 g2 g3 g4) t s o ?_ ?_ ?_ ?_ ?_ ?_ lt ls lo ut (by omega) z2 z3
    all_goals (unfold v5; omega)
  obtain ⟨k0, k1, k2, k3, k4⟩ := lb_v5 g0 g1 g2 g3 g4 lg0 ug0 lg1 ug1 lg2 ug2 lg3 ug3 lg4 ug4
  refine bodyPost_ret (v := .agg #[.int .u64 g0, .int .u64 g1, .int .u64 g2, .int .u64 g3, .int .u64 g4]) (results_cell_row Tryd.results36 _ _ (w.heap.size + 1) _ _ _ _ rfl (setRow_heap _ _ _ _ _ _ rZ4) Tryd.underlying58 rfl (by kernel_rfl)) rfl ⟨?_, below_setRow hbw4 (by omega) _⟩
  rw [← hm, k0, k1, k2, k3, k4]

end Go.Proofs.YtkpjpdlamojejaaDoor.Lo


namespace Go.Proofs.YtkpjpdlamojejaaDoor.Lo
set_option maxRecDepth 100000
open Go.RowKit Go.Sort
attribute [local go_sem] setCell_drewN alloc_drewN


set_option maxHeartbeats 4000000 in
theorem bytes_any (a0 a1 a2 a3 a4 : Int) (lo0 : 0 ≤ a0) (hi0 : a0 < 4503599627370496) (lo1 : 0 ≤ a1) (hi1 : a1 < 4503599627370496) (lo2 : 0 ≤ a2) (hi2 : a2 < 4503599627370496) (lo3 : 0 ≤ a3) (hi3 : a3 < 4503599627370496) (lo4 : 0 ≤ a4) (hi4 : a4 < 4503599627370496) (w : World) :
    Calls Tryd.prog 23 #[.agg #[.int .u64 a0, .int .u64 a1, .int .u64 a2, .int .u64 a3, .int .u64 a4]] w fun r w' => r = .returned (.agg #[.int .u8 (byt (v5 a0 a1 a2 a3 a4 % prm) 0), .int .u8 (byt (v5 a0 a1 a2 a3 a4 % prm) 1), .int .u8 (byt (v5 a0 a1 a2 a3 a4 % prm) 2), .int .u8 (byt (v5 a0 a1 a2 a3 a4 % prm) 3), .int .u8 (byt (v5 a0 a1 a2 a3 a4 % prm) 4), .int .u8 (byt (v5 a0 a1 a2 a3 a4 % prm) 5), .int .u8 (byt (v5 a0 a1 a2 a3 a4 % prm) 6), .int .u8 (byt (v5 a0 a1 a2 a3 a4 % prm) 7), .int .u8 (byt (v5 a0 a1 a2 a3 a4 % prm) 8), .int .u8 (byt (v5 a0 a1 a2 a3 a4 % prm) 9), .int .u8 (byt (v5 a0 a1 a2 a3 a4 % prm) 10), .int .u8 (byt (v5 a0 a1 a2 a3 a4 % prm) 11), .int .u8 (byt (v5 a0 a1 a2 a3 a4 % prm) 12), .int .u8 (byt (v5 a0 a1 a2 a3 a4 % prm) 13), .int .u8 (byt (v5 a0 a1 a2 a3 a4 % prm) 14), .int .u8 (byt (v5 a0 a1 a2 a3 a4 % prm) 15), .int .u8 (byt (v5 a0 a1 a2 a3 a4 % prm) 16), .int .u8 (byt (v5 a0 a1 a2 a3 a4 % prm) 17), .int .u8 (byt (v5 a0 a1 a2 a3 a4 % prm) 18), .int .u8 (byt (v5 a0 a1 a2 a3 a4 % prm) 19), .int .u8 (byt (v5 a0 a1 a2 a3 a4 % prm) 20), .int .u8 (byt (v5 a0 a1 a2 a3 a4 % prm) 21), .int .u8 (byt (v5 a0 a1 a2 a3 a4 % prm) 22), .int .u8 (byt (v5 a0 a1 a2 a3 a4 % prm) 23), .int .u8 (byt (v5 a0 a1 a2 a3 a4 % prm) 24), .int .u8 (byt (v5 a0 a1 a2 a3 a4 % prm) 25), .int .u8 (byt (v5 a0 a1 a2 a3 a4 % prm) 26), .int .u8 (byt (v5 a0 a1 a2 a3 a4 % prm) 27), .int .u8 (byt (v5 a0 a1 a2 a3 a4 % prm) 28), .int .u8 (byt (v5 a0 a1 a2 a3 a4 % prm) 29), .int .u8 (byt (v5 a0 a1 a2 a3 a4 % prm) 30), .int .u8 (byt (v5 a0 a1 a2 a3 a4 % prm) 31)]) ∧ Below w.heap.size w w' := by
  have hV0 : Hid (0 ≤ v5 a0 a1 a2 a3 a4 % prm ∧ v5 a0 a1 a2 a3 a4 % prm < 57896044618658097711785492504343953926634992332820282019728792003956564819968) := by unfold Hid prm; omega
  have hL := fun W => least_any a0 a1 a2 a3 a4 lo0 hi0 lo1 hi1 lo2 hi2 lo3 hi3 lo4 hi4 W
  generalize v5 a0 a1 a2 a3 a4 % prm = V at *
  have HL := hide hL; clear hL lo0 hi0 lo1 hi1 lo2 hi2 lo3 hi3 lo4 hi4
  go_enter Tryd.func23, Tryd.ntmps23
  go_wp2_with (first | (refine wpList_load_row rfl 60 _ rfl w.heap.size rfl 60 #[.int .u64 a0, .int .u64 a1, .int .u64 a2, .int .u64 a3, .int .u64 a4] (0, 0) _ (hp2_0 w _ _) Tryd.underlying60 rfl (by kernel_rfl) ?_) | fail)
  refine (HL.out _).mono ?_
  rintro r w1 ⟨rfl, hb⟩
  have hs1 := hb.size
  simp only [World.size_alloc] at hs1
  have rZ1 : w1.heap[w.heap.size + 1]? = some (.cells #[.int .u8 0, .int .u8 0, .int .u8 0, .int .u8 0, .int .u8 0, .int .u8 0, .int .u8 0, .int .u8 0, .int .u8 0, .int .u8 0, .int .u8 0, .int .u8 0, .int .u8 0, .int .u8 0, .int .u8 0, .int .u8 0, .int .u8 0, .int .u8 0, .int .u8 0, .int .u8 0, .int .u8 0, .int .u8 0, .int .u8 0, .int .u8 0, .int .u8 0, .int .u8 0, .int .u8 0, .int .u8 0, .int .u8 0, .int .u8 0, .int .u8 0, .int .u8 0] 23 (0, 0)) := (hb.block _ (by simp)).trans (hp2_1 w _ _)
  have hbw1 : Below w.heap.size w w1 := (((Below.refl _ _).alloc (Nat.le_refl _) _).alloc (by simp) _).trans (hb.mono (by simp; omega))
  clear hb HL
  obtain ⟨l0, u0⟩ := lb_bd V 0; obtain ⟨l1, u1⟩ := lb_bd V 1; obtain ⟨l2, u2⟩ := lb_bd V 2; obtain ⟨l3, u3⟩ := lb_bd V 3; obtain ⟨l4, u4⟩ := lb_bd V 4
  have hV := v5_lb V hV0.out.1 hV0.out.2
  have HV := hide hV; clear hV
  generalize lb V 0 = m0 at *; generalize lb V 1 = m1 at *; generalize lb V 2 = m2 at *; generalize lb V 3 = m3 at *; generalize lb V 4 = m4 at *
  go_wp2_with (first | (refine wpList_store_row rfl 58 _ _ rfl w1.heap.size #[.int .u64 m0, .int .u64 m1, .int .u64 m2, .int .u64 m3, .int .u64 m4] rfl rfl 58 _ (hp1_0 w1 _) (by kernel_rfl) rfl (by kernel_rfl) ?_; rw [setRow_alloc_new _ _ _ _ _ _ rfl]) | go_in)

  obtain ⟨N0, hN, HN0, lN0, uN0⟩ : ∃ N : Int, bits .or .u64 m0 (IntKind.u64.wrap (m1 * 2251799813685248)) = N ∧ Hid (N = m0 + m1 * 2251799813685248 % 18446744073709551616) ∧ 0 ≤ N ∧ N < 18446744073709551616 :=
    ⟨_, rfl, by unfold Hid; rw [IntKind.wrap_u64]; exact or_sum 51 m0 _ (by omega) (by omega) (by omega) (by omega) (by omega) (by omega), by rw [IntKind.wrap_u64]; rw [or_sum 51 m0 _ (by omega) (by omega) (by omega) (by omega) (by omega) (by omega)]; omega, by rw [IntKind.wrap_u64]; rw [or_sum 51 m0 _ (by omega) (by omega) (by omega) (by omega) (by omega) (by omega)]; omega⟩
  rw [hN]; clear hN
  refine wp_loop_rounds 9 ?_
  rw [rounds_succ]
  go_wp2
  refine wp_region_tail (C := fun w' => ∃ n, w' = World.drewN _ n) 11 _ rfl rfl rfl (by kernel_rfl) (by kernel_rfl) (by kernel_rfl) (by kernel_rfl) ⟨1, rfl⟩ ?_
  dsimp only [List.set, idle]
  repeat (go_big_quiet_step (fail))
  first | refine wpQuiet_nil ?_ | refine wpQuiet_idle rfl rfl rfl ?_
  rintro _ ⟨n00, rfl⟩
  go_wp2
  rw [rounds_succ]
  go_wp2
  refine wp_region_tail (C := fun w' => ∃ n, w' = World.drewN _ n) 11 _ rfl rfl rfl (by kernel_rfl) (by kernel_rfl) (by kernel_rfl) (by kernel_rfl) ⟨1, rfl⟩ ?_
  dsimp only [List.set, idle]
  repeat (go_big_quiet_step (fail))
  first | refine wpQuiet_nil ?_ | refine wpQuiet_idle rfl rfl rfl ?_
  rintro _ ⟨n01, rfl⟩
  go_wp2
  rw [rounds_succ]
  go_wp2
  refine wp_region_tail (C := fun w' => ∃ n, w' = World.drewN _ n) 11 _ rfl rfl rfl (by kernel_rfl) (by kernel_rfl) (by kernel_rfl) (by kernel_rfl) ⟨1, rfl⟩ ?_
  dsimp only [List.set, idle]
  repeat (go_big_quiet_step (fail))
  first | refine wpQuiet_nil ?_ | refine wpQuiet_idle rfl rfl rfl ?_
  rintro _ ⟨n02, rfl⟩
  go_wp2
  rw [rounds_succ]
  go_wp2
  refine wp_region_tail (C := fun w' => ∃ n, w' = World.drewN _ n) 11 _ rfl rfl rfl (by kernel_rfl) (by kernel_rfl) (by kernel_rfl) (by kernel_rfl) ⟨1, rfl⟩ ?_
  dsimp only [List.set, idle]
  repeat (go_big_quiet_step (fail))
  first | refine wpQuiet_nil ?_ | refine wpQuiet_idle rfl rfl rfl ?_
  rintro _ ⟨n03, rfl⟩
  go_wp2
  rw [rounds_succ]
  go_wp2
  refine wp_region_tail (C := fun w' => ∃ n, w' = World.drewN _ n) 11 _ rfl rfl rfl (by kernel_rfl) (by kernel_rfl) (by kernel_rfl) (by kernel_rfl) ⟨1, rfl⟩ ?_
  dsimp only [List.set, idle]
  repeat (go_big_quiet_step (fail))
  first | refine wpQuiet_nil ?_ | refine wpQuiet_idle rfl rfl rfl ?_
  rintro _ ⟨n04, rfl⟩
  go_wp2
  rw [rounds_succ]
  go_wp2
  refine wp_region_tail (C := fun w' => ∃ n, w' = World.drewN _ n) 11 _ rfl rfl rfl (by kernel_rfl) (by kernel_rfl) (by kernel_rfl) (by kernel_rfl) ⟨1, rfl⟩ ?_
  dsimp only [List.set, idle]
  repeat (go_big_quiet_step (fail))
  first | refine wpQuiet_nil ?_ | refine wpQuiet_idle rfl rfl rfl ?_
  rintro _ ⟨n05, rfl⟩
  go_wp2
  rw [rounds_succ]
  go_wp2
  refine wp_region_tail (C := fun w' => ∃ n, w' = World.drewN _ n) 11 _ rfl rfl rfl (by kernel_rfl) (by kernel_rfl) (by kernel_rfl) (by kernel_rfl) ⟨1, rfl⟩ ?_
  dsimp only [List.set, idle]
  repeat (go_big_quiet_step (fail))
  first | refine wpQuiet_nil ?_ | refine wpQuiet_idle rfl rfl rfl ?_
  rintro _ ⟨n06, rfl⟩
  go_wp2
  rw [rounds_succ]
  go_wp2
  refine wp_region_tail (C := fun w' => ∃ n, w' = World.drewN _ n) 11 _ rfl rfl rfl (by kernel_rfl) (by kernel_rfl) (by kernel_rfl) (by kernel_rfl) ⟨1, rfl⟩ ?_
  dsimp only [List.set, idle]
  repeat (go_big_quiet_step (fail))
  first | refine wpQuiet_nil ?_ | refine wpQuiet_idle rfl rfl rfl ?_
  rintro _ ⟨n07, rfl⟩
  go_wp2
  rw [rounds_succ]
  go_wp2
  go_end0
  go_wp2
  obtain ⟨N1, hN, HN1, lN1, uN1⟩ : ∃ N : Int, bits .or .u64 (m1 / 8192) (IntKind.u64.wrap (m2 * 274877906944)) = N ∧ Hid (N = m1 / 8192 + m2 * 274877906944 % 18446744073709551616) ∧ 0 ≤ N ∧ N < 18446744073709551616 :=
    ⟨_, rfl, by unfold Hid; rw [IntKind.wrap_u64]; exact or_sum 38 (m1 / 8192) _ (by omega) (by omega) (by omega) (by omega) (by omega) (by omega), by rw [IntKind.wrap_u64]; rw [or_sum 38 (m1 / 8192) _ (by omega) (by omega) (by omega) (by omega) (by omega) (by omega)]; omega, by rw [IntKind.wrap_u64]; rw [or_sum 38 (m1 / 8192) _ (by omega) (by omega) (by omega) (by omega) (by omega) (by omega)]; omega⟩
  rw [hN]; clear hN
  refine wp_loop_rounds 9 ?_
  rw [rounds_succ]
  go_wp2
  refine wp_region_tail (C := fun w' => ∃ n, w' = World.drewN _ n) 11 _ rfl rfl rfl (by kernel_rfl) (by kernel_rfl) (by kernel_rfl) (by kernel_rfl) ⟨1, rfl⟩ ?_
  dsimp only [List.set, idle]
  repeat (go_big_quiet_step (fail))
  first | refine wpQuiet_nil ?_ | refine wpQuiet_idle rfl rfl rfl ?_
  rintro _ ⟨n10, rfl⟩
  go_wp2
  rw [rounds_succ]
  go_wp2
  refine wp_region_tail (C := fun w' => ∃ n, w' = World.drewN _ n) 11 _ rfl rfl rfl (by kernel_rfl) (by kernel_rfl) (by kernel_rfl) (by kernel_rfl) ⟨1, rfl⟩ ?_
  dsimp only [List.set, idle]
  repeat (go_big_quiet_step (fail))
  first | refine wpQuiet_nil ?_ | refine wpQuiet_idle rfl rfl rfl ?_
  rintro _ ⟨n11, rfl⟩
  go_wp2
  rw [rounds_succ]
  go_wp2
  refine wp_region_tail (C := fun w' => ∃ n, w' = World.drewN _ n) 11 _ rfl rfl rfl (by kernel_rfl) (by kernel_rfl) (by kernel_rfl) (by kernel_rfl) ⟨1, rfl⟩ ?_
  dsimp only [List.set, idle]
  repeat (go_big_quiet_step (fail))
  first | refine wpQuiet_nil ?_ | refine wpQuiet_idle rfl rfl rfl ?_
  rintro _ ⟨n12, rfl⟩
  go_wp2
  rw [rounds_succ]
  go_wp2
  refine wp_region_tail (C := fun w' => ∃ n, w' = World.drewN _ n) 11 _ rfl rfl rfl (by kernel_rfl) (by kernel_rfl) (by kernel_rfl) (by kernel_rfl) ⟨1, rfl⟩ ?_
  dsimp only [List.set, idle]
  repeat (go_big_quiet_step (fail))
  first | refine wpQuiet_nil ?_ | refine wpQuiet_idle rfl rfl rfl ?_
  rintro _ ⟨n13, rfl⟩
  go_wp2
  rw [rounds_succ]
  go_wp2
  refine wp_region_tail (C := fun w' => ∃ n, w' = World.drewN _ n) 11 _ rfl rfl rfl (by kernel_rfl) (by kernel_rfl) (by kernel_rfl) (by kernel_rfl) ⟨1, rfl⟩ ?_
  dsimp only [List.set, idle]
  repeat (go_big_quiet_step (fail))
  first | refine wpQuiet_nil ?_ | refine wpQuiet_idle rfl rfl rfl ?_
  rintro _ ⟨n14, rfl⟩
  go_wp2
  rw [rounds_succ]
  go_wp2
  refine wp_region_tail (C := fun w' => ∃ n, w' = World.drewN _ n) 11 _ rfl rfl rfl (by kernel_rfl) (by kernel_rfl) (by kernel_rfl) (by kernel_rfl) ⟨1, rfl⟩ ?_
  dsimp only [List.set, idle]
  repeat (go_big_quiet_step (fail))
  first | refine wpQuiet_nil ?_ | refine wpQuiet_idle rfl rfl rfl ?_
  rintro _ ⟨n15, rfl⟩
  go_wp2
  rw [rounds_succ]
  go_wp2
  refine wp_region_tail (C := fun w' => ∃ n, w' = World.drewN _ n) 11 _ rfl rfl rfl (by kernel_rfl) (by kernel_rfl) (by kernel_rfl) (by kernel_rfl) ⟨1, rfl⟩ ?_
  dsimp only [List.set, idle]
  repeat (go_big_quiet_step (fail))
  first | refine wpQuiet_nil ?_ | refine wpQuiet_idle rfl rfl rfl ?_
  rintro _ ⟨n16, rfl⟩
  go_wp2
  rw [rounds_succ]
  go_wp2
  refine wp_region_tail (C := fun w' => ∃ n, w' = World.drewN _ n) 11 _ rfl rfl rfl (by kernel_rfl) (by kernel_rfl) (by kernel_rfl) (by kernel_rfl) ⟨1, rfl⟩ ?_
  dsimp only [List.set, idle]
  repeat (go_big_quiet_step (fail))
  first | refine wpQuiet_nil ?_ | refine wpQuiet_idle rfl rfl rfl ?_
  rintro _ ⟨n17, rfl⟩
  go_wp2
  rw [rounds_succ]
  go_wp2
  go_end0
  go_wp2
  obtain ⟨N2, hN, HN2, lN2, uN2⟩ : ∃ N : Int, bits .or .u64 (m2 / 67108864) (IntKind.u64.wrap (m3 * 33554432)) = N ∧ Hid (N = m2 / 67108864 + m3 * 33554432 % 18446744073709551616) ∧ 0 ≤ N ∧ N < 18446744073709551616 :=
    ⟨_, rfl, by unfold Hid; rw [IntKind.wrap_u64]; exact or_sum 25 (m2 / 67108864) _ (by omega) (by omega) (by omega) (by omega) (by omega) (by omega), by rw [IntKind.wrap_u64]; rw [or_sum 25 (m2 / 67108864) _ (by omega) (by omega) (by omega) (by omega) (by omega) (by omega)]; omega, by rw [IntKind.wrap_u64]; rw [or_sum 25 (m2 / 67108864) _ (by omega) (by omega) (by omega) (by omega) (by omega) (by omega)]; omega⟩
  rw [hN]; clear hN
  refine wp_loop_rounds 9 ?_
  rw [rounds_succ]
  go_wp2
  refine wp_region_tail (C := fun w' => ∃ n, w' = World.drewN _ n) 11 _ rfl rfl rfl (by kernel_rfl) (by kernel_rfl) (by kernel_rfl) (by kernel_rfl) ⟨1, rfl⟩ ?_
  dsimp only [List.set, idle]
  repeat (go_big_quiet_step (fail))
  first | refine wpQuiet_nil ?_ | refine wpQuiet_idle rfl rfl rfl ?_
  rintro _ ⟨n20, rfl⟩
  go_wp2
  rw [rounds_succ]
  go_wp2
  refine wp_region_tail (C := fun w' => ∃ n, w' = World.drewN _ n) 11 _ rfl rfl rfl (by kernel_rfl) (by kernel_rfl) (by kernel_rfl) (by kernel_rfl) ⟨1, rfl⟩ ?_
  dsimp only [List.set, idle]
  repeat (go_big_quiet_step (fail))
  first | refine wpQuiet_nil ?_ | refine wpQuiet_idle rfl rfl rfl ?_
  rintro _ ⟨n21, rfl⟩
  go_wp2
  rw [rounds_succ]
  go_wp2
  refine wp_region_tail (C := fun w' => ∃ n, w' = World.drewN _ n) 11 _ rfl rfl rfl (by kernel_rfl) (by kernel_rfl) (by kernel_rfl) (by kernel_rfl) ⟨1, rfl⟩ ?_
  dsimp only [List.set, idle]
  repeat (go_big_quiet_step (fail))
  first | refine wpQuiet_nil ?_ | refine wpQuiet_idle rfl rfl rfl ?_
  rintro _ ⟨n22, rfl⟩
  go_wp2
  rw [rounds_succ]
  go_wp2
  refine wp_region_tail (C := fun w' => ∃ n, w' = World.drewN _ n) 11 _ rfl rfl rfl (by kernel_rfl) (by kernel_rfl) (by kernel_rfl) (by kernel_rfl) ⟨1, rfl⟩ ?_
  dsimp only [List.set, idle]
  repeat (go_big_quiet_step (fail))
  first | refine wpQuiet_nil ?_ | refine wpQuiet_idle rfl rfl rfl ?_
  rintro _ ⟨n23, rfl⟩
  go_wp2
  rw [rounds_succ]
  go_wp2
  refine wp_region_tail (C := fun w' => ∃ n, w' = World.drewN _ n) 11 _ rfl rfl rfl (by kernel_rfl) (by kernel_rfl) (by kernel_rfl) (by kernel_rfl) ⟨1, rfl⟩ ?_
  dsimp only [List.set, idle]
  repeat (go_big_quiet_step (fail))
  first | refine wpQuiet_nil ?_ | refine wpQuiet_idle rfl rfl rfl ?_
  rintro _ ⟨n24, rfl⟩
  go_wp2
  rw [rounds_succ]
  go_wp2
  refine wp_region_tail (C := fun w' => ∃ n, w' = World.drewN _ n) 11 _ rfl rfl rfl (by kernel_rfl) (by kernel_rfl) (by kernel_rfl) (by kernel_rfl) ⟨1, rfl⟩ ?_
  dsimp only [List.set, idle]
  repeat (go_big_quiet_step (fail))
  first | refine wpQuiet_nil ?_ | refine wpQuiet_idle rfl rfl rfl ?_
  rintro _ ⟨n25, rfl⟩
  go_wp2
  rw [rounds_succ]
  go_wp2
  refine wp_region_tail (C := fun w' => ∃ n, w' = World.drewN _ n) 11 _ rfl rfl rfl (by kernel_rfl) (by kernel_rfl) (by kernel_rfl) (by kernel_rfl) ⟨1, rfl⟩ ?_
  dsimp only [List.set, idle]
  repeat (go_big_quiet_step (fail))
  first | refine wpQuiet_nil ?_ | refine wpQuiet_idle rfl rfl rfl ?_
  rintro _ ⟨n26, rfl⟩
  go_wp2
  rw [rounds_succ]
  go_wp2
  refine wp_region_tail (C := fun w' => ∃ n, w' = World.drewN _ n) 11 _ rfl rfl rfl (by kernel_rfl) (by kernel_rfl) (by kernel_rfl) (by kernel_rfl) ⟨1, rfl⟩ ?_
  dsimp only [List.set, idle]
  repeat (go_big_quiet_step (fail))
  first | refine wpQuiet_nil ?_ | refine wpQuiet_idle rfl rfl rfl ?_
  rintro _ ⟨n27, rfl⟩
  go_wp2
  rw [rounds_succ]
  go_wp2
  go_end0
  go_wp2
  obtain ⟨N3, hN, HN3, lN3, uN3⟩ : ∃ N : Int, bits .or .u64 (m3 / 549755813888) (m4 * 4096) = N ∧ Hid (N = m3 / 549755813888 + m4 * 4096) ∧ 0 ≤ N ∧ N < 18446744073709551616 :=
    ⟨_, rfl, by unfold Hid; exact or_sum 12 (m3 / 549755813888) _ (by omega) (by omega) (by omega) (by omega) (by omega) (by omega), by rw [or_sum 12 (m3 / 549755813888) _ (by omega) (by omega) (by omega) (by omega) (by omega) (by omega)]; omega, by rw [or_sum 12 (m3 / 549755813888) _ (by omega) (by omega) (by omega) (by omega) (by omega) (by omega)]; omega⟩
  rw [hN]; clear hN
  refine wp_loop_rounds 9 ?_
  rw [rounds_succ]
  go_wp2
  refine wp_region_tail (C := fun w' => ∃ n, w' = World.drewN _ n) 11 _ rfl rfl rfl (by kernel_rfl) (by kernel_rfl) (by kernel_rfl) (by kernel_rfl) ⟨1, rfl⟩ ?_
  dsimp only [List.set, idle]
  repeat (go_big_quiet_step (fail))
  first | refine wpQuiet_nil ?_ | refine wpQuiet_idle rfl rfl rfl ?_
  rintro _ ⟨n30, rfl⟩
  go_wp2
  rw [rounds_succ]
  go_wp2
  refine wp_region_tail (C := fun w' => ∃ n, w' = World.drewN _ n) 11 _ rfl rfl rfl (by kernel_rfl) (by kernel_rfl) (by kernel_rfl) (by kernel_rfl) ⟨1, rfl⟩ ?_
  dsimp only [List.set, idle]
  repeat (go_big_quiet_step (fail))
  first | refine wpQuiet_nil ?_ | refine wpQuiet_idle rfl rfl rfl ?_
  rintro _ ⟨n31, rfl⟩
  go_wp2
  rw [rounds_succ]
  go_wp2
  refine wp_region_tail (C := fun w' => ∃ n, w' = World.drewN _ n) 11 _ rfl rfl rfl (by kernel_rfl) (by kernel_rfl) (by kernel_rfl) (by kernel_rfl) ⟨1, rfl⟩ ?_
  dsimp only [List.set, idle]
  repeat (go_big_quiet_step (fail))
  first | refine wpQuiet_nil ?_ | refine wpQuiet_idle rfl rfl rfl ?_
  rintro _ ⟨n32, rfl⟩
  go_wp2
  rw [rounds_succ]
  go_wp2
  refine wp_region_tail (C := fun w' => ∃ n, w' = World.drewN _ n) 11 _ rfl rfl rfl (by kernel_rfl) (by kernel_rfl) (by kernel_rfl) (by kernel_rfl) ⟨1, rfl⟩ ?_
  dsimp only [List.set, idle]
  repeat (go_big_quiet_step (fail))
  first | refine wpQuiet_nil ?_ | refine wpQuiet_idle rfl rfl rfl ?_
  rintro _ ⟨n33, rfl⟩
  go_wp2
  rw [rounds_succ]
  go_wp2
  refine wp_region_tail (C := fun w' => ∃ n, w' = World.drewN _ n) 11 _ rfl rfl rfl (by kernel_rfl) (by kernel_rfl) (by kernel_rfl) (by kernel_rfl) ⟨1, rfl⟩ ?_
  dsimp only [List.set, idle]
  repeat (go_big_quiet_step (fail))
  first | refine wpQuiet_nil ?_ | refine wpQuiet_idle rfl rfl rfl ?_
  rintro _ ⟨n34, rfl⟩
  go_wp2
  rw [rounds_succ]
  go_wp2
  refine wp_region_tail (C := fun w' => ∃ n, w' = World.drewN _ n) 11 _ rfl rfl rfl (by kernel_rfl) (by kernel_rfl) (by kernel_rfl) (by kernel_rfl) ⟨1, rfl⟩ ?_
  dsimp only [List.set, idle]
  repeat (go_big_quiet_step (fail))
  first | refine wpQuiet_nil ?_ | refine wpQuiet_idle rfl rfl rfl ?_
  rintro _ ⟨n35, rfl⟩
  go_wp2
  rw [rounds_succ]
  go_wp2
  refine wp_region_tail (C := fun w' => ∃ n, w' = World.drewN _ n) 11 _ rfl rfl rfl (by kernel_rfl) (by kernel_rfl) (by kernel_rfl) (by kernel_rfl) ⟨1, rfl⟩ ?_
  dsimp only [List.set, idle]
  repeat (go_big_quiet_step (fail))
  first | refine wpQuiet_nil ?_ | refine wpQuiet_idle rfl rfl rfl ?_
  rintro _ ⟨n36, rfl⟩
  go_wp2
  rw [rounds_succ]
  go_wp2
  refine wp_region_tail (C := fun w' => ∃ n, w' = World.drewN _ n) 11 _ rfl rfl rfl (by kernel_rfl) (by kernel_rfl) (by kernel_rfl) (by kernel_rfl) ⟨1, rfl⟩ ?_
  dsimp only [List.set, idle]
  repeat (go_big_quiet_step (fail))
  first | refine wpQuiet_nil ?_ | refine wpQuiet_idle rfl rfl rfl ?_
  rintro _ ⟨n37, rfl⟩
  go_wp2
  rw [rounds_succ]
  go_wp2
  go_end0
  dsimp only
  have rZ2 : ∀ (o1 o2 : Obj) (k : Nat), (((w1.alloc o1).alloc o2).drewN k).heap[w.heap.size + 1]? = some (.cells #[.int .u8 0, .int .u8 0, .int .u8 0, .int .u8 0, .int .u8 0, .int .u8 0, .int .u8 0, .int .u8 0, .int .u8 0, .int .u8 0, .int .u8 0, .int .u8 0, .int .u8 0, .int .u8 0, .int .u8 0, .int .u8 0, .int .u8 0, .int .u8 0, .int .u8 0, .int .u8 0, .int .u8 0, .int .u8 0, .int .u8 0, .int .u8 0, .int .u8 0, .int .u8 0, .int .u8 0, .int .u8 0, .int .u8 0, .int .u8 0, .int .u8 0, .int .u8 0] 23 (0, 0)) := fun o1 o2 k => by
    rw [World.heap_drewN]; exact (Go.heap_alloc_old _ _ (by simp; omega)).trans ((Go.heap_alloc_old _ _ (by omega)).trans rZ1)
  have hbw2 : ∀ (o1 o2 : Obj) (k : Nat), Below w.heap.size w (((w1.alloc o1).alloc o2).drewN k) := fun o1 o2 k => below_drN ((hbw1.alloc (by omega) _).alloc (by simp; omega) _) k
  go_wp2_with (first | (refine wpList_load_row rfl 23 _ rfl (w1.heap.size + 1) rfl 23 #[.int .u8 (N0 % 256), .int .u8 (N0 / 256 % 256), .int .u8 (N0 / 65536 % 256), .int .u8 (N0 / 16777216 % 256), .int .u8 (N0 / 4294967296 % 256), .int .u8 (N0 / 1099511627776 % 256), .int .u8 (N0 / 281474976710656 % 256), .int .u8 (N0 / 72057594037927936), .int .u8 (N1 % 256), .int .u8 (N1 / 256 % 256), .int .u8 (N1 / 65536 % 256), .int .u8 (N1 / 16777216 % 256), .int .u8 (N1 / 4294967296 % 256), .int .u8 (N1 / 1099511627776 % 256), .int .u8 (N1 / 281474976710656 % 256), .int .u8 (N1 / 72057594037927936), .int .u8 (N2 % 256), .int .u8 (N2 / 256 % 256), .int .u8 (N2 / 65536 % 256), .int .u8 (N2 / 16777216 % 256), .int .u8 (N2 / 4294967296 % 256), .int .u8 (N2 / 1099511627776 % 256), .int .u8 (N2 / 281474976710656 % 256), .int .u8 (N2 / 72057594037927936), .int .u8 (N3 % 256), .int .u8 (N3 / 256 % 256), .int .u8 (N3 / 65536 % 256), .int .u8 (N3 / 16777216 % 256), .int .u8 (N3 / 4294967296 % 256), .int .u8 (N3 / 1099511627776 % 256), .int .u8 (N3 / 281474976710656 % 256), .int .u8 (N3 / 72057594037927936)] (0, 0) _ (by rw [World.heap_drewN, hp2_1]) Tryd.underlying23 rfl (by kernel_rfl) ?_) | (refine wpList_store_row rfl 23 _ _ rfl (w.heap.size + 1) #[.int .u8 (N0 % 256), .int .u8 (N0 / 256 % 256), .int .u8 (N0 / 65536 % 256), .int .u8 (N0 / 16777216 % 256), .int .u8 (N0 / 4294967296 % 256), .int .u8 (N0 / 1099511627776 % 256), .int .u8 (N0 / 281474976710656 % 256), .int .u8 (N0 / 72057594037927936), .int .u8 (N1 % 256), .int .u8 (N1 / 256 % 256), .int .u8 (N1 / 65536 % 256), .int .u8 (N1 / 16777216 % 256), .int .u8 (N1 / 4294967296 % 256), .int .u8 (N1 / 1099511627776 % 256), .int .u8 (N1 / 281474976710656 % 256), .int .u8 (N1 / 72057594037927936), .int .u8 (N2 % 256), .int .u8 (N2 / 256 % 256), .int .u8 (N2 / 65536 % 256), .int .u8 (N2 / 16777216 % 256), .int .u8 (N2 / 4294967296 % 256), .int .u8 (N2 / 1099511627776 % 256), .int .u8 (N2 / 281474976710656 % 256), .int .u8 (N2 / 72057594037927936), .int .u8 (N3 % 256), .int .u8 (N3 / 256 % 256), .int .u8 (N3 / 65536 % 256), .int .u8 (N3 / 16777216 % 256), .int .u8 (N3 / 4294967296 % 256), .int .u8 (N3 / 1099511627776 % 256), .int .u8 (N3 / 281474976710656 % 256), .int .u8 (N3 / 72057594037927936)] rfl rfl 23 _ (rZ2 _ _ _) (by kernel_rfl) rfl (by kernel_rfl) ?_) | fail)
  have hVN : V = N0 + 18446744073709551616 * (N1 + 18446744073709551616 * (N2 + 18446744073709551616 * N3)) := by
    rw [HN0.out, HN1.out, HN2.out, HN3.out, words_v5]; exact HV.out.symm
  obtain ⟨k0, k1, k2, k3, k4, k5, k6, k7, k8, k9, k10, k11, k12, k13, k14, k15, k16, k17, k18, k19, k20, k21, k22, k23, k24, k25, k26, k27, k28, k29, k30, k31⟩ := words_bytes N0 N1 N2 N3 lN0 uN0 lN1 uN1 lN2 uN2 lN3 uN3
  refine bodyPost_ret (v := .agg #[.int .u8 (N0 % 256), .int .u8 (N0 / 256 % 256), .int .u8 (N0 / 65536 % 256), .int .u8 (N0 / 16777216 % 256), .int .u8 (N0 / 4294967296 % 256), .int .u8 (N0 / 1099511627776 % 256), .int .u8 (N0 / 281474976710656 % 256), .int .u8 (N0 / 72057594037927936), .int .u8 (N1 % 256), .int .u8 (N1 / 256 % 256), .int .u8 (N1 / 65536 % 256), .int .u8 (N1 / 16777216 % 256), .int .u8 (N1 / 4294967296 % 256), .int .u8 (N1 / 1099511627776 % 256), .int .u8 (N1 / 281474976710656 % 256), .int .u8 (N1 / 72057594037927936), .int .u8 (N2 % 256), .int .u8 (N2 / 256 % 256), .int .u8 (N2 / 65536 % 256), .int .u8 (N2 / 16777216 % 256), .int .u8 (N2 / 4294967296 % 256), .int .u8 (N2 / 1099511627776 % 256), .int .u8 (N2 / 281474976710656 % 256), .int .u8 (N2 / 72057594037927936), .int .u8 (N3 % 256), .int .u8 (N3 / 256 % 256), .int .u8 (N3 / 65536 % 256), .int .u8 (N3 / 16777216 % 256), .int .u8 (N3 / 4294967296 % 256), .int .u8 (N3 / 1099511627776 % 256), .int .u8 (N3 / 281474976710656 % 256), .int .u8 (N3 / 72057594037927936)]) (results_cell_row Tryd.results23 _ _ (w.heap.size + 1) _ _ _ _ rfl (setRow_heap _ _ _ _ _ _ (rZ2 _ _ _)) Tryd.underlying23 rfl (by kernel_rfl)) rfl ⟨?_, below_setRow (hbw2 _ _ _) (by omega) _⟩
  rw [hVN, k0, k1, k2, k3, k4, k5, k6, k7, k8, k9, k10, k11, k12, k13, k14, k15, k16, k17, k18, k19, k20, k21, k22, k23, k24, k25, k26, k27, k28, k29, k30, k31]

end Go.Proofs.YtkpjpdlamojejaaDoor.Lo

