import Derived.Test.YtgfhoabgbgddbaaDoorProg
import Derived.WalkKit
import Derived.WalkSpells
import Derived.WalkLawsBesides
import Derived.Lib.QuietBelow
import Derived.BigQuiet
import Derived.Test.YtgfhoabgbgddbaaDoorKa
import Derived.Test.YtgfhoabgbgddbaaDoorMa
namespace Go.Proofs.YtgfhoabgbgddbaaDoor
set_option maxRecDepth 100000
open Go.RowKit Go.Sort
attribute [local go_sem] setCell_drewN alloc_drewN


/-- The words of a number, what goes over the top come back. -/
def nr (i : Nat) (s : Int) : Int := match i with
  | 0 => lb s 0 + 19 * (s / 57896044618658097711785492504343953926634992332820282019728792003956564819968)
  | j => lb s j
theorem nr_bd (s : Int) (h0 : 0 ≤ s) (h1 : s < 926336713898529563388567880069503262826159877325124512315660672063305037119488) : (0 ≤ nr 0 s ∧ nr 0 s < 4503599627370496) ∧ (0 ≤ nr 1 s ∧ nr 1 s < 4503599627370496) ∧ (0 ≤ nr 2 s ∧ nr 2 s < 4503599627370496) ∧ (0 ≤ nr 3 s ∧ nr 3 s < 4503599627370496) ∧ (0 ≤ nr 4 s ∧ nr 4 s < 4503599627370496) := by
  have := lb_bd s 0; have := lb_bd s 1; have := lb_bd s 2; have := lb_bd s 3; have := lb_bd s 4
  simp only [nr]
  omega
theorem nr_val (s : Int) : v5 (nr 0 s) (nr 1 s) (nr 2 s) (nr 3 s) (nr 4 s) % prm = s % prm := by
  have e : v5 (nr 0 s) (nr 1 s) (nr 2 s) (nr 3 s) (nr 4 s) = s - prm * (s / 57896044618658097711785492504343953926634992332820282019728792003956564819968) := by
    simp only [nr, lb, v5, prm, Int.pow_zero, Int.ediv_one, Int.pow_succ, Int.one_mul]
    omega
  rw [e, Int.sub_mul_emod_self_left]
theorem nr_of (s : Int) (e0 : Int) (e1 : Int) (e2 : Int) (e3 : Int) (e4 : Int) (c : Int) (l0 : 0 ≤ e0) (u0 : e0 < 2251799813685248) (l1 : 0 ≤ e1) (u1 : e1 < 2251799813685248) (l2 : 0 ≤ e2) (u2 : e2 < 2251799813685248) (l3 : 0 ≤ e3) (u3 : e3 < 2251799813685248) (l4 : 0 ≤ e4) (u4 : e4 < 2251799813685248) (h : v5 e0 e1 e2 e3 e4 + 57896044618658097711785492504343953926634992332820282019728792003956564819968 * c = s) : e0 + 19 * c = nr 0 s ∧ e1 = nr 1 s ∧ e2 = nr 2 s ∧ e3 = nr 3 s ∧ e4 = nr 4 s := by
  simp only [nr, lb, Int.pow_zero, Int.ediv_one, Int.pow_succ, Int.one_mul]
  unfold v5 at h
  refine ⟨?_, ?_, ?_, ?_, ?_⟩ <;> omega
/-- What the package's variable holds. -/
def Four (w : World) : Prop := 3 < w.heap.size ∧ w.cell? ⟨3, 0, none⟩ = some (.int .u64 9007199254740916) ∧ w.cell? ⟨3, 1, none⟩ = some (.int .u64 9007199254740988) ∧ w.cell? ⟨3, 2, none⟩ = some (.int .u64 9007199254740988) ∧ w.cell? ⟨3, 3, none⟩ = some (.int .u64 9007199254740988) ∧ w.cell? ⟨3, 4, none⟩ = some (.int .u64 9007199254740988)
theorem Four.below {w w' : World} (h : Four w) (hb : Below w.heap.size w w') : Four w' := by
  obtain ⟨h0, k0, k1, k2, k3, k4⟩ := h
  exact ⟨Nat.lt_of_lt_of_le h0 hb.size, (hb.cell (p := ⟨3, 0, none⟩) h0).trans k0, (hb.cell (p := ⟨3, 1, none⟩) h0).trans k1, (hb.cell (p := ⟨3, 2, none⟩) h0).trans k2, (hb.cell (p := ⟨3, 3, none⟩) h0).trans k3, (hb.cell (p := ⟨3, 4, none⟩) h0).trans k4⟩

theorem astep (x c : Int) (l : 0 ≤ x) (u : x < 36028797018963968) (lc : 0 ≤ c) (uc : c ≤ 64) : ∃ e c' : Int, (x + c) / 2251799813685248 = c' ∧ bits .and .u64 (x + c) 2251799813685247 = e ∧ Hid (e + 2251799813685248 * c' = x + c) ∧ 0 ≤ c' ∧ c' ≤ 64 ∧ 0 ≤ e ∧ e < 2251799813685248 := by
  rw [and51 _ (by omega) (by omega)]
  exact ⟨_, _, rfl, rfl, by unfold Hid; omega, by omega, by omega, by omega, by omega⟩
theorem astep0 (x : Int) (l : 0 ≤ x) (u : x < 36028797018963968) : ∃ e c' : Int, x / 2251799813685248 = c' ∧ bits .and .u64 x 2251799813685247 = e ∧ Hid (e + 2251799813685248 * c' = x) ∧ 0 ≤ c' ∧ c' ≤ 64 ∧ 0 ≤ e ∧ e < 2251799813685248 := by
  rw [and51 _ (by omega) (by omega)]
  exact ⟨_, _, rfl, rfl, by unfold Hid; omega, by omega, by omega, by omega, by omega⟩


set_option maxHeartbeats 4000000 in
theorem add_any (a0 a1 a2 a3 a4 b0 b1 b2 b3 b4 : Int) (la0 : 0 ≤ a0) (ua0 : a0 < 4503599627370496) (la1 : 0 ≤ a1) (ua1 : a1 < 4503599627370496) (la2 : 0 ≤ a2) (ua2 : a2 < 4503599627370496) (la3 : 0 ≤ a3) (ua3 : a3 < 4503599627370496) (la4 : 0 ≤ a4) (ua4 : a4 < 4503599627370496) (lb0 : 0 ≤ b0) (ub0 : b0 < 4503599627370496) (lb1 : 0 ≤ b1) (ub1 : b1 < 4503599627370496) (lb2 : 0 ≤ b2) (ub2 : b2 < 4503599627370496) (lb3 : 0 ≤ b3) (ub3 : b3 < 4503599627370496) (lb4 : 0 ≤ b4) (ub4 : b4 < 4503599627370496) (w : World) :
    Calls Tryd.prog 53 #[.agg #[.int .u64 a0, .int .u64 a1, .int .u64 a2, .int .u64 a3, .int .u64 a4], .agg #[.int .u64 b0, .int .u64 b1, .int .u64 b2, .int .u64 b3, .int .u64 b4]] w fun e w' => e = .returned (.agg #[.int .u64 (nr 0 (v5 a0 a1 a2 a3 a4 + v5 b0 b1 b2 b3 b4)), .int .u64 (nr 1 (v5 a0 a1 a2 a3 a4 + v5 b0 b1 b2 b3 b4)), .int .u64 (nr 2 (v5 a0 a1 a2 a3 a4 + v5 b0 b1 b2 b3 b4)), .int .u64 (nr 3 (v5 a0 a1 a2 a3 a4 + v5 b0 b1 b2 b3 b4)), .int .u64 (nr 4 (v5 a0 a1 a2 a3 a4 + v5 b0 b1 b2 b3 b4))]) ∧ Below w.heap.size w w' := by
  go_enter Tryd.func53, Tryd.ntmps53
  go_wp2
  refine wp_loop_rounds 6 ?_
  rw [rounds_succ]
  go_wp2
  go_quiet (fail)
  go_wp2
  obtain ⟨e0, c0, hq, hr, H0, lc0, uc0, le0, ue0⟩ := astep0 (a0 + b0) (by omega) (by omega)
  rw [hq, hr]; clear hq hr
  rw [rounds_succ]
  go_wp2
  go_quiet (fail)
  go_wp2
  obtain ⟨e1, c1, hq, hr, H1, lc1, uc1, le1, ue1⟩ := astep (a1 + b1) c0 (by omega) (by omega) lc0 uc0
  rw [hq, hr]; clear hq hr
  rw [rounds_succ]
  go_wp2
  go_quiet (fail)
  go_wp2
  obtain ⟨e2, c2, hq, hr, H2, lc2, uc2, le2, ue2⟩ := astep (a2 + b2) c1 (by omega) (by omega) lc1 uc1
  rw [hq, hr]; clear hq hr
  rw [rounds_succ]
  go_wp2
  go_quiet (fail)
  go_wp2
  obtain ⟨e3, c3, hq, hr, H3, lc3, uc3, le3, ue3⟩ := astep (a3 + b3) c2 (by omega) (by omega) lc2 uc2
  rw [hq, hr]; clear hq hr
  rw [rounds_succ]
  go_wp2
  go_quiet (fail)
  go_wp2
  obtain ⟨e4, c4, hq, hr, H4, lc4, uc4, le4, ue4⟩ := astep (a4 + b4) c3 (by omega) (by omega) lc3 uc3
  rw [hq, hr]; clear hq hr
  rw [rounds_succ]
  go_wp2_with (first | (refine wpList_load_row rfl 27 _ rfl (w.heap.size + 1 + 1 + 1) rfl 27 #[.int .u64 (e0 + 19 * c4), .int .u64 e1, .int .u64 e2, .int .u64 e3, .int .u64 e4] (0, 0) _ (by rw [World.heap_drewN, hp4_3]) Tryd.underlying27 rfl (by kernel_rfl) ?_) | (refine wpList_store_row rfl 27 _ _ rfl (w.heap.size + 1 + 1) #[.int .u64 (e0 + 19 * c4), .int .u64 e1, .int .u64 e2, .int .u64 e3, .int .u64 e4] rfl rfl 27 #[.int .u64 0, .int .u64 0, .int .u64 0, .int .u64 0, .int .u64 0] (by rw [World.heap_drewN, hp4_2]) (by kernel_rfl) rfl (by kernel_rfl) ?_; rw [setRow_drewN, setRow_alloc_old _ _ _ _ (by simp), setRow_alloc_new _ _ _ _ _ _ (by simp)]))
  have hv : v5 e0 e1 e2 e3 e4 + 57896044618658097711785492504343953926634992332820282019728792003956564819968 * c4 = v5 a0 a1 a2 a3 a4 + v5 b0 b1 b2 b3 b4 := by
    have h0 := H0.out; have h1 := H1.out; have h2 := H2.out; have h3 := H3.out; have h4 := H4.out
    simp only [v5]
    omega
  obtain ⟨q0, q1, q2, q3, q4⟩ := nr_of (v5 a0 a1 a2 a3 a4 + v5 b0 b1 b2 b3 b4) e0 e1 e2 e3 e4 c4 le0 ue0 le1 ue1 le2 ue2 le3 ue3 le4 ue4 hv
  refine bodyPost_ret (v := .agg #[.int .u64 (e0 + 19 * c4), .int .u64 e1, .int .u64 e2, .int .u64 e3, .int .u64 e4]) (results_cell_row Tryd.results53 _ _ (w.heap.size + 1 + 1) _ #[.int .u64 (e0 + 19 * c4), .int .u64 e1, .int .u64 e2, .int .u64 e3, .int .u64 e4] _ _ rfl (by rw [World.heap_drewN, hp4_2]) Tryd.underlying27 rfl (by kernel_rfl)) rfl ⟨?_, below_drN (((((Below.refl _ _).alloc (Nat.le_refl _) _).alloc (by simp) _).alloc (by simp; omega) _).alloc (by simp; omega) _) _⟩
  rw [← q0, ← q1, ← q2, ← q3, ← q4]


set_option maxHeartbeats 4000000 in
theorem sub_any (a0 a1 a2 a3 a4 b0 b1 b2 b3 b4 : Int) (la0 : 0 ≤ a0) (ua0 : a0 < 4503599627370496) (la1 : 0 ≤ a1) (ua1 : a1 < 4503599627370496) (la2 : 0 ≤ a2) (ua2 : a2 < 4503599627370496) (la3 : 0 ≤ a3) (ua3 : a3 < 4503599627370496) (la4 : 0 ≤ a4) (ua4 : a4 < 4503599627370496) (lb0 : 0 ≤ b0) (ub0 : b0 < 4503599627370496) (lb1 : 0 ≤ b1) (ub1 : b1 < 4503599627370496) (lb2 : 0 ≤ b2) (ub2 : b2 < 4503599627370496) (lb3 : 0 ≤ b3) (ub3 : b3 < 4503599627370496) (lb4 : 0 ≤ b4) (ub4 : b4 < 4503599627370496) (w : World) (h4 : Four w) :
    Calls Tryd.prog 52 #[.agg #[.int .u64 a0, .int .u64 a1, .int .u64 a2, .int .u64 a3, .int .u64 a4], .agg #[.int .u64 b0, .int .u64 b1, .int .u64 b2, .int .u64 b3, .int .u64 b4]] w fun e w' => e = .returned (.agg #[.int .u64 (nr 0 (v5 a0 a1 a2 a3 a4 + 231584178474632390847141970017375815706539969331281128078915168015826259279796 - v5 b0 b1 b2 b3 b4)), .int .u64 (nr 1 (v5 a0 a1 a2 a3 a4 + 231584178474632390847141970017375815706539969331281128078915168015826259279796 - v5 b0 b1 b2 b3 b4)), .int .u64 (nr 2 (v5 a0 a1 a2 a3 a4 + 231584178474632390847141970017375815706539969331281128078915168015826259279796 - v5 b0 b1 b2 b3 b4)), .int .u64 (nr 3 (v5 a0 a1 a2 a3 a4 + 231584178474632390847141970017375815706539969331281128078915168015826259279796 - v5 b0 b1 b2 b3 b4)), .int .u64 (nr 4 (v5 a0 a1 a2 a3 a4 + 231584178474632390847141970017375815706539969331281128078915168015826259279796 - v5 b0 b1 b2 b3 b4))]) ∧ Below w.heap.size w w' := by
  obtain ⟨hz, k0, k1, k2, k3, k4⟩ := h4
  have hz_0 : 0 < w.heap.size := by omega
  have hz_1 : 1 < w.heap.size := by omega
  have hz_2 : 2 < w.heap.size := by omega
  have hzn_0 : ¬ w.heap.size = 0 := by omega
  have hzn_1 : ¬ w.heap.size = 1 := by omega
  have hzn_2 : ¬ w.heap.size = 2 := by omega
  have hzn_3 : ¬ w.heap.size = 3 := by omega
  have hzm_0 : ¬ 0 = w.heap.size := by omega
  have hzm_1 : ¬ 1 = w.heap.size := by omega
  have hzm_2 : ¬ 2 = w.heap.size := by omega
  have hzm_3 : ¬ 3 = w.heap.size := by omega
  have hzl_1 : 1 ≤ w.heap.size := by omega
  have hzl_2 : 2 ≤ w.heap.size := by omega
  have hzl_3 : 3 ≤ w.heap.size := by omega
  have hzp_1 : 3 < w.heap.size + 1 := by omega
  have hzp_2 : 3 < w.heap.size + 1 + 1 := by omega
  have hzp_3 : 3 < w.heap.size + 1 + 1 + 1 := by omega
  have hzp_4 : 3 < w.heap.size + 1 + 1 + 1 + 1 := by omega
  have hzq_1 : ¬ 3 = w.heap.size + 1 := by omega
  have hzq_2 : ¬ 3 = w.heap.size + 1 + 1 := by omega
  have hzq_3 : ¬ 3 = w.heap.size + 1 + 1 + 1 := by omega
  have hzq_4 : ¬ 3 = w.heap.size + 1 + 1 + 1 + 1 := by omega
  have hzr_1 : ¬ w.heap.size + 1 = 3 := by omega
  have hzr_2 : ¬ w.heap.size + 1 + 1 = 3 := by omega
  have hzr_3 : ¬ w.heap.size + 1 + 1 + 1 = 3 := by omega
  have hzr_4 : ¬ w.heap.size + 1 + 1 + 1 + 1 = 3 := by omega
  go_enter Tryd.func52, Tryd.ntmps52
  go_wp2
  refine wp_loop_rounds 6 ?_
  rw [rounds_succ]
  go_wp2
  go_quiet (fail)
  go_wp2
  obtain ⟨e0, c0, hq, hr, H0, lc0, uc0, le0, ue0⟩ := astep0 (a0 + 9007199254740916 - b0) (by omega) (by omega)
  rw [hq, hr]; clear hq hr
  rw [rounds_succ]
  go_wp2
  go_quiet (fail)
  go_wp2
  obtain ⟨e1, c1, hq, hr, H1, lc1, uc1, le1, ue1⟩ := astep (a1 + 9007199254740988 - b1) c0 (by omega) (by omega) lc0 uc0
  rw [hq, hr]; clear hq hr
  rw [rounds_succ]
  go_wp2
  go_quiet (fail)
  go_wp2
  obtain ⟨e2, c2, hq, hr, H2, lc2, uc2, le2, ue2⟩ := astep (a2 + 9007199254740988 - b2) c1 (by omega) (by omega) lc1 uc1
  rw [hq, hr]; clear hq hr
  rw [rounds_succ]
  go_wp2
  go_quiet (fail)
  go_wp2
  obtain ⟨e3, c3, hq, hr, H3, lc3, uc3, le3, ue3⟩ := astep (a3 + 9007199254740988 - b3) c2 (by omega) (by omega) lc2 uc2
  rw [hq, hr]; clear hq hr
  rw [rounds_succ]
  go_wp2
  go_quiet (fail)
  go_wp2
  obtain ⟨e4, c4, hq, hr, H4, lc4, uc4, le4, ue4⟩ := astep (a4 + 9007199254740988 - b4) c3 (by omega) (by omega) lc3 uc3
  rw [hq, hr]; clear hq hr
  rw [rounds_succ]
  go_wp2_with (first | (refine wpList_load_row rfl 27 _ rfl (w.heap.size + 1 + 1 + 1) rfl 27 #[.int .u64 (e0 + 19 * c4), .int .u64 e1, .int .u64 e2, .int .u64 e3, .int .u64 e4] (0, 0) _ (by rw [World.heap_drewN, hp4_3]) Tryd.underlying27 rfl (by kernel_rfl) ?_) | (refine wpList_store_row rfl 27 _ _ rfl (w.heap.size + 1 + 1) #[.int .u64 (e0 + 19 * c4), .int .u64 e1, .int .u64 e2, .int .u64 e3, .int .u64 e4] rfl rfl 27 #[.int .u64 0, .int .u64 0, .int .u64 0, .int .u64 0, .int .u64 0] (by rw [World.heap_drewN, hp4_2]) (by kernel_rfl) rfl (by kernel_rfl) ?_; rw [setRow_drewN, setRow_alloc_old _ _ _ _ (by simp), setRow_alloc_new _ _ _ _ _ _ (by simp)]))
  have hv : v5 e0 e1 e2 e3 e4 + 57896044618658097711785492504343953926634992332820282019728792003956564819968 * c4 = v5 a0 a1 a2 a3 a4 + 231584178474632390847141970017375815706539969331281128078915168015826259279796 - v5 b0 b1 b2 b3 b4 := by
    have h0 := H0.out; have h1 := H1.out; have h2 := H2.out; have h3 := H3.out; have h4 := H4.out
    simp only [v5]
    omega
  obtain ⟨q0, q1, q2, q3, q4⟩ := nr_of (v5 a0 a1 a2 a3 a4 + 231584178474632390847141970017375815706539969331281128078915168015826259279796 - v5 b0 b1 b2 b3 b4) e0 e1 e2 e3 e4 c4 le0 ue0 le1 ue1 le2 ue2 le3 ue3 le4 ue4 hv
  refine bodyPost_ret (v := .agg #[.int .u64 (e0 + 19 * c4), .int .u64 e1, .int .u64 e2, .int .u64 e3, .int .u64 e4]) (results_cell_row Tryd.results52 _ _ (w.heap.size + 1 + 1) _ #[.int .u64 (e0 + 19 * c4), .int .u64 e1, .int .u64 e2, .int .u64 e3, .int .u64 e4] _ _ rfl (by rw [World.heap_drewN, hp4_2]) Tryd.underlying27 rfl (by kernel_rfl)) rfl ⟨?_, below_drN (((((Below.refl _ _).alloc (Nat.le_refl _) _).alloc (by simp) _).alloc (by simp; omega) _).alloc (by simp; omega) _) _⟩
  rw [← q0, ← q1, ← q2, ← q3, ← q4]

end Go.Proofs.YtgfhoabgbgddbaaDoor

