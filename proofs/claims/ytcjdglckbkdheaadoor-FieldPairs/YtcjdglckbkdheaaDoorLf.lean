import Derived.Test.YtcjdglckbkdheaaDoorProg
import Derived.WalkKit
import Derived.WalkSpells
import Derived.WalkLawsBesides
import Derived.Lib.QuietBelow
import Derived.BigQuiet
import Derived.Test.YtcjdglckbkdheaaDoorKit
import Derived.Test.YtcjdglckbkdheaaDoorAc
import Derived.Test.YtcjdglckbkdheaaDoorAe
import Derived.Test.YtcjdglckbkdheaaDoorAf
import Derived.Test.YtcjdglckbkdheaaDoorRi
import Derived.Test.YtcjdglckbkdheaaDoorGs
namespace Go.Proofs.YtcjdglckbkdheaaDoor
open Go.RowKit Go.Sort
attribute [local go_sem] setCell_drewN alloc_drewN


theorem low_bit (m : Int) : (byt m 0 % 2 == 1) = (dg m 0 % 2 == 1) := by
  have e : byt m 0 % 2 = dg m 0 % 2 := by simp only [byt, dg, Int.pow_zero, Int.ediv_one]; omega
  rw [e]
set_option maxHeartbeats 4000000 in
theorem a_asked {r s : Array Value} {m k : Int} (h : NumOf r m) (g : NumOf s k) (hm : inP m) (hk : inP k) : Gives 14 #[.agg r, .agg s, .agg (rd m), .agg (rd k)] (.bool true) := by
  have em := Int.emod_eq_of_lt hm.1 hm.2
  have ek := Int.emod_eq_of_lt hk.1 hk.2
  have cE := a_equal h g
  have rE := r_equal hm hk
  have cZ := a_isZero h
  have rZ := r_isZero hm
  have cO := a_odd h
  have rO := r_odd m
  have cB := a_bytes h
  have cC := a_bytes g
  have rB := r_bytes m
  have rC := r_bytes k
  rw [em, ek] at cE
  rw [em] at cZ cO cB
  rw [ek] at cC
  rw [low_bit] at cO
  have heq : ∀ (q : Int) W, (Op.equalIn 10000 34 (.agg (kb q)) (.agg (kb q))).run Tryd.prog W = .ok true W := fun q W => by
    have e : kb q = #[.int .u8 (byt q 0), .int .u8 (byt q 1), .int .u8 (byt q 2), .int .u8 (byt q 3), .int .u8 (byt q 4), .int .u8 (byt q 5), .int .u8 (byt q 6), .int .u8 (byt q 7), .int .u8 (byt q 8), .int .u8 (byt q 9), .int .u8 (byt q 10), .int .u8 (byt q 11), .int .u8 (byt q 12), .int .u8 (byt q 13), .int .u8 (byt q 14), .int .u8 (byt q 15), .int .u8 (byt q 16), .int .u8 (byt q 17), .int .u8 (byt q 18), .int .u8 (byt q 19), .int .u8 (byt q 20), .int .u8 (byt q 21), .int .u8 (byt q 22), .int .u8 (byt q 23), .int .u8 (byt q 24), .int .u8 (byt q 25), .int .u8 (byt q 26), .int .u8 (byt q 27), .int .u8 (byt q 28), .int .u8 (byt q 29), .int .u8 (byt q 30), .int .u8 (byt q 31)] := rfl
    rw [e, keys_equal]; simp
  clear em ek
  generalize decide (m = k) = e1 at *
  generalize decide (m = 0) = e2 at *
  generalize (dg m 0 % 2 == 1) = e3 at *
  intro w
  cases e1 <;> cases e2 <;> cases e3
  all_goals
    go_enter Tryd.func14, Tryd.ntmps14
    go_wp2
    have rp0 : ((((w.alloc (.cells r 26)).alloc (.cells s 26)).alloc (.cells (rd m) 30)).alloc (.cells (rd k) 30)).heap[w.heap.size]? = some (.cells r 26 (0, 0)) := hp4_0 w _ _ _ _
    have rp1 : ((((w.alloc (.cells r 26)).alloc (.cells s 26)).alloc (.cells (rd m) 30)).alloc (.cells (rd k) 30)).heap[w.heap.size + 1]? = some (.cells s 26 (0, 0)) := hp4_1 w _ _ _ _
    have rp2 : ((((w.alloc (.cells r 26)).alloc (.cells s 26)).alloc (.cells (rd m) 30)).alloc (.cells (rd k) 30)).heap[w.heap.size + 1 + 1]? = some (.cells (rd m) 30 (0, 0)) := hp4_2 w _ _ _ _
    have rp3 : ((((w.alloc (.cells r 26)).alloc (.cells s 26)).alloc (.cells (rd m) 30)).alloc (.cells (rd k) 30)).heap[w.heap.size + 1 + 1 + 1]? = some (.cells (rd k) 30 (0, 0)) := hp4_3 w _ _ _ _
    have hw : Below w.heap.size w ((((w.alloc (.cells r 26)).alloc (.cells s 26)).alloc (.cells (rd m) 30)).alloc (.cells (rd k) 30)) := (((((Below.refl _ _).alloc (Nat.le_refl _) _).alloc (by simp) _).alloc (by simp; omega) _).alloc (by simp; omega) _)
    generalize ((((w.alloc (.cells r 26)).alloc (.cells s 26)).alloc (.cells (rd m) 30)).alloc (.cells (rd k) 30)) = w0 at *
    have Hrp0 := keepr rp0
    have Hrp1 := keepr rp1
    have Hrp2 := keepr rp2
    have Hrp3 := keepr rp3
    refine wp_region_quiet_below (by kernel_rfl) (by kernel_rfl) ?_
    refine wpQuiet_load_row rfl 26 _ rfl (w.heap.size) rfl 26 r (0, 0) _ Hrp0.out Tryd.underlying26 rfl h.info ?_
    simp only [Act.put, List.setIfInBounds_toArray, List.set_cons_succ, List.set_cons_zero]
    refine wpQuiet_load_row rfl 26 _ rfl (w.heap.size + 1) rfl 26 s (0, 0) _ Hrp1.out Tryd.underlying26 rfl g.info ?_
    simp only [Act.put, List.setIfInBounds_toArray, List.set_cons_succ, List.set_cons_zero]
    go_big_quiet_step (exact cE.re)
    refine wpQuiet_load_row rfl 30 _ rfl (w.heap.size + 1 + 1) rfl 30 (rd m) (0, 0) _ Hrp2.out Tryd.underlying30 rfl (rd_info m) ?_
    simp only [Act.put, List.setIfInBounds_toArray, List.set_cons_succ, List.set_cons_zero]
    refine wpQuiet_load_row rfl 30 _ rfl (w.heap.size + 1 + 1 + 1) rfl 30 (rd k) (0, 0) _ Hrp3.out Tryd.underlying30 rfl (rd_info k) ?_
    simp only [Act.put, List.setIfInBounds_toArray, List.set_cons_succ, List.set_cons_zero]
    go_big_quiet_step (exact rE.re)
    go_big_quiet_step (fail)
    go_big_quiet_step (fail)
    refine wpQuiet_load_want rfl 26 _ rfl (w.heap.size) rfl 26 r (0, 0) _ Hrp0.out Tryd.underlying26 rfl h.info ?_
    simp only [Act.put, List.setIfInBounds_toArray, List.set_cons_succ, List.set_cons_zero]
    go_big_quiet_step (exact cZ.re)
    refine wpQuiet_load_want rfl 30 _ rfl (w.heap.size + 1 + 1) rfl 30 (rd m) (0, 0) _ Hrp2.out Tryd.underlying30 rfl (rd_info m) ?_
    simp only [Act.put, List.setIfInBounds_toArray, List.set_cons_succ, List.set_cons_zero]
    go_big_quiet_step (exact rZ.re)
    go_big_quiet_step (fail)
    go_big_quiet_step (fail)
    go_big_quiet_step (fail)
    refine wpQuiet_load_want rfl 26 _ rfl (w.heap.size) rfl 26 r (0, 0) _ Hrp0.out Tryd.underlying26 rfl h.info ?_
    simp only [Act.put, List.setIfInBounds_toArray, List.set_cons_succ, List.set_cons_zero]
    go_big_quiet_step (exact cO.re)
    refine wpQuiet_load_want rfl 30 _ rfl (w.heap.size + 1 + 1) rfl 30 (rd m) (0, 0) _ Hrp2.out Tryd.underlying30 rfl (rd_info m) ?_
    simp only [Act.put, List.setIfInBounds_toArray, List.set_cons_succ, List.set_cons_zero]
    go_big_quiet_step (exact rO.re)
    go_big_quiet_step (fail)
    go_big_quiet_step (fail)
    refine wpQuiet_nil ?_
    rintro _ ⟨p, rfl⟩
    have hb := below_regrown w0 p.d p.os
    generalize grow (redrawn w0 p.d) p.os = w1 at *
    replace rp0 := keep hb rp0
    replace rp1 := keep hb rp1
    replace rp2 := keep hb rp2
    replace rp3 := keep hb rp3
    replace hw := Below.after hw hb
    clear hb
    clear Hrp0 Hrp1 Hrp2 Hrp3
    go_wp2
    have Hrp0 := keepr rp0
    have Hrp1 := keepr rp1
    have Hrp2 := keepr rp2
    have Hrp3 := keepr rp3
    refine wp_region_quiet_below (by kernel_rfl) (by kernel_rfl) ?_
    refine wpQuiet_load_row rfl 26 _ rfl (w.heap.size) rfl 26 r (0, 0) _ Hrp0.out Tryd.underlying26 rfl h.info ?_
    simp only [Act.put, List.setIfInBounds_toArray, List.set_cons_succ, List.set_cons_zero]
    go_big_quiet_step (exact cB.re)
    refine wpQuiet_load_row rfl 30 _ rfl (w.heap.size + 1 + 1) rfl 30 (rd m) (0, 0) _ Hrp2.out Tryd.underlying30 rfl (rd_info m) ?_
    simp only [Act.put, List.setIfInBounds_toArray, List.set_cons_succ, List.set_cons_zero]
    go_big_quiet_step (exact rB.re)
    go_big_quiet_step (fail)
    go_big_quiet_step (fail)
    refine wpQuiet_load_want rfl 26 _ rfl (w.heap.size + 1) rfl 26 s (0, 0) _ Hrp1.out Tryd.underlying26 rfl g.info ?_
    simp only [Act.put, List.setIfInBounds_toArray, List.set_cons_succ, List.set_cons_zero]
    go_big_quiet_step (exact cC.re)
    refine wpQuiet_load_want rfl 30 _ rfl (w.heap.size + 1 + 1 + 1) rfl 30 (rd k) (0, 0) _ Hrp3.out Tryd.underlying30 rfl (rd_info k) ?_
    simp only [Act.put, List.setIfInBounds_toArray, List.set_cons_succ, List.set_cons_zero]
    go_big_quiet_step (exact rC.re)
    go_big_quiet_step (fail)
    go_big_quiet_step (fail)
    go_big_quiet_step (fail)
    refine wpQuiet_nil ?_
    rintro _ ⟨p, rfl⟩
    have hb := below_regrown w1 p.d p.os
    generalize grow (redrawn w1 p.d) p.os = w8 at *
    replace rp0 := keep hb rp0
    replace rp1 := keep hb rp1
    replace rp2 := keep hb rp2
    replace rp3 := keep hb rp3
    replace hw := Below.after hw hb
    clear hb
    clear Hrp0 Hrp1 Hrp2 Hrp3
    go_wp2
    go_ret
    exact ⟨rfl, hw⟩

end Go.Proofs.YtcjdglckbkdheaaDoor

