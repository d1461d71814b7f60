import Derived.Test.YtgfhoabgbgddbaaDoorProg
import Derived.WalkKit
import Derived.WalkSpells
import Derived.WalkLawsBesides
import Derived.Lib.QuietBelow
import Derived.BigQuiet
import Derived.Test.YtgfhoabgbgddbaaDoorKa
import Derived.Test.YtgfhoabgbgddbaaDoorKeq
import Derived.Test.YtgfhoabgbgddbaaDoorFc
namespace Go.Proofs.YtgfhoabgbgddbaaDoor
set_option maxRecDepth 100000
open Go.RowKit Go.Sort
attribute [local go_sem] setCell_drewN alloc_drewN


theorem valB_byt (m : Int) (h0 : 0 ≤ m) (h1 : m < 115792089237316195423570985008687907853269984665640564039457584007913129639936) : valB [byt (m) 0, byt (m) 1, byt (m) 2, byt (m) 3, byt (m) 4, byt (m) 5, byt (m) 6, byt (m) 7, byt (m) 8, byt (m) 9, byt (m) 10, byt (m) 11, byt (m) 12, byt (m) 13, byt (m) 14, byt (m) 15, byt (m) 16, byt (m) 17, byt (m) 18, byt (m) 19, byt (m) 20, byt (m) 21, byt (m) 22, byt (m) 23, byt (m) 24, byt (m) 25, byt (m) 26, byt (m) 27, byt (m) 28, byt (m) 29, byt (m) 30, byt (m) 31] = m := by
  simp only [valB, byt, Int.pow_zero, Int.pow_succ, Int.one_mul, Int.ediv_one]
  omega
theorem byts_inj (m k : Int) (h0 : 0 ≤ m) (h1 : m < 115792089237316195423570985008687907853269984665640564039457584007913129639936) (h2 : 0 ≤ k) (h3 : k < 115792089237316195423570985008687907853269984665640564039457584007913129639936) : ([byt (m) 0, byt (m) 1, byt (m) 2, byt (m) 3, byt (m) 4, byt (m) 5, byt (m) 6, byt (m) 7, byt (m) 8, byt (m) 9, byt (m) 10, byt (m) 11, byt (m) 12, byt (m) 13, byt (m) 14, byt (m) 15, byt (m) 16, byt (m) 17, byt (m) 18, byt (m) 19, byt (m) 20, byt (m) 21, byt (m) 22, byt (m) 23, byt (m) 24, byt (m) 25, byt (m) 26, byt (m) 27, byt (m) 28, byt (m) 29, byt (m) 30, byt (m) 31] = [byt (k) 0, byt (k) 1, byt (k) 2, byt (k) 3, byt (k) 4, byt (k) 5, byt (k) 6, byt (k) 7, byt (k) 8, byt (k) 9, byt (k) 10, byt (k) 11, byt (k) 12, byt (k) 13, byt (k) 14, byt (k) 15, byt (k) 16, byt (k) 17, byt (k) 18, byt (k) 19, byt (k) 20, byt (k) 21, byt (k) 22, byt (k) 23, byt (k) 24, byt (k) 25, byt (k) 26, byt (k) 27, byt (k) 28, byt (k) 29, byt (k) 30, byt (k) 31]) ↔ m = k := by
  constructor
  · intro h
    have e := congrArg valB h
    rw [valB_byt m h0 h1, valB_byt k h2 h3] at e
    exact e
  · rintro rfl; rfl
theorem prm_bd (x : Int) : 0 ≤ x % prm ∧ x % prm < 115792089237316195423570985008687907853269984665640564039457584007913129639936 := by unfold prm; omega
theorem keys_eq (m k : Int) (h0 : 0 ≤ m) (h1 : m < 115792089237316195423570985008687907853269984665640564039457584007913129639936) (h2 : 0 ≤ k) (h3 : k < 115792089237316195423570985008687907853269984665640564039457584007913129639936) (W : World) : (Op.equalIn 10000 23 (.agg #[.int .u8 (byt (m) 0), .int .u8 (byt (m) 1), .int .u8 (byt (m) 2), .int .u8 (byt (m) 3), .int .u8 (byt (m) 4), .int .u8 (byt (m) 5), .int .u8 (byt (m) 6), .int .u8 (byt (m) 7), .int .u8 (byt (m) 8), .int .u8 (byt (m) 9), .int .u8 (byt (m) 10), .int .u8 (byt (m) 11), .int .u8 (byt (m) 12), .int .u8 (byt (m) 13), .int .u8 (byt (m) 14), .int .u8 (byt (m) 15), .int .u8 (byt (m) 16), .int .u8 (byt (m) 17), .int .u8 (byt (m) 18), .int .u8 (byt (m) 19), .int .u8 (byt (m) 20), .int .u8 (byt (m) 21), .int .u8 (byt (m) 22), .int .u8 (byt (m) 23), .int .u8 (byt (m) 24), .int .u8 (byt (m) 25), .int .u8 (byt (m) 26), .int .u8 (byt (m) 27), .int .u8 (byt (m) 28), .int .u8 (byt (m) 29), .int .u8 (byt (m) 30), .int .u8 (byt (m) 31)]) (.agg #[.int .u8 (byt (k) 0), .int .u8 (byt (k) 1), .int .u8 (byt (k) 2), .int .u8 (byt (k) 3), .int .u8 (byt (k) 4), .int .u8 (byt (k) 5), .int .u8 (byt (k) 6), .int .u8 (byt (k) 7), .int .u8 (byt (k) 8), .int .u8 (byt (k) 9), .int .u8 (byt (k) 10), .int .u8 (byt (k) 11), .int .u8 (byt (k) 12), .int .u8 (byt (k) 13), .int .u8 (byt (k) 14), .int .u8 (byt (k) 15), .int .u8 (byt (k) 16), .int .u8 (byt (k) 17), .int .u8 (byt (k) 18), .int .u8 (byt (k) 19), .int .u8 (byt (k) 20), .int .u8 (byt (k) 21), .int .u8 (byt (k) 22), .int .u8 (byt (k) 23), .int .u8 (byt (k) 24), .int .u8 (byt (k) 25), .int .u8 (byt (k) 26), .int .u8 (byt (k) 27), .int .u8 (byt (k) 28), .int .u8 (byt (k) 29), .int .u8 (byt (k) 30), .int .u8 (byt (k) 31)])).run Tryd.prog W = .ok (decide (m = k)) W := by
  rw [keys_equal]
  exact congrArg (fun b => Result.ok b W) (decide_eq_decide.2 (byts_inj m k h0 h1 h2 h3))

set_option maxHeartbeats 1000000 in
theorem equal_any (a0 a1 a2 a3 a4 b0 b1 b2 b3 b4 : Int) (la0 : 0 ≤ a0) (ua0 : a0 < 4503599627370496) (la1 : 0 ≤ a1) (ua1 : a1 < 4503599627370496) (la2 : 0 ≤ a2) (ua2 : a2 < 4503599627370496) (la3 : 0 ≤ a3) (ua3 : a3 < 4503599627370496) (la4 : 0 ≤ a4) (ua4 : a4 < 4503599627370496) (lb0 : 0 ≤ b0) (ub0 : b0 < 4503599627370496) (lb1 : 0 ≤ b1) (ub1 : b1 < 4503599627370496) (lb2 : 0 ≤ b2) (ub2 : b2 < 4503599627370496) (lb3 : 0 ≤ b3) (ub3 : b3 < 4503599627370496) (lb4 : 0 ≤ b4) (ub4 : b4 < 4503599627370496) (w : World) :
    Calls Tryd.prog 101 #[.agg #[.int .u64 a0, .int .u64 a1, .int .u64 a2, .int .u64 a3, .int .u64 a4], .agg #[.int .u64 b0, .int .u64 b1, .int .u64 b2, .int .u64 b3, .int .u64 b4]] w fun e w' => e = .returned (.bool (decide (v5 a0 a1 a2 a3 a4 % prm = v5 b0 b1 b2 b3 b4 % prm))) ∧ Below w.heap.size w w' := by
  have c1 := fun W => bytes_any a0 a1 a2 a3 a4 la0 ua0 la1 ua1 la2 ua2 la3 ua3 la4 ua4 W
  have c2 := fun W => bytes_any b0 b1 b2 b3 b4 lb0 ub0 lb1 ub1 lb2 ub2 lb3 ub3 lb4 ub4 W
  have m0 := prm_bd (v5 a0 a1 a2 a3 a4); have k0 := prm_bd (v5 b0 b1 b2 b3 b4)
  generalize v5 a0 a1 a2 a3 a4 % prm = m at *
  generalize v5 b0 b1 b2 b3 b4 % prm = k at *
  have heq := fun W => keys_eq m k m0.1 m0.2 k0.1 k0.2 W
  have C1 := hide c1; have C2 := hide c2
  clear c1 c2 m0 k0 la0 ua0 la1 ua1 la2 ua2 la3 ua3 la4 ua4 lb0 ub0 lb1 ub1 lb2 ub2 lb3 ub3 lb4 ub4
  have h2 : Hid (∀ W, (∃ p : Regrown, W = grow (redrawn ((w.alloc (.cells #[.int .u64 a0, .int .u64 a1, .int .u64 a2, .int .u64 a3, .int .u64 a4] 27)).alloc (.cells #[.int .u64 b0, .int .u64 b1, .int .u64 b2, .int .u64 b3, .int .u64 b4] 27)) p.d) p.os) → W.heap[w.heap.size]? = some (.cells #[.int .u64 a0, .int .u64 a1, .int .u64 a2, .int .u64 a3, .int .u64 a4] 27 (0, 0))) := by
    rintro _ ⟨p, rfl⟩; exact ((below_regrown _ p.d p.os).block _ (by simp; omega)).trans (hp2_0 w _ _)
  have h3 : Hid (∀ W, (∃ p : Regrown, W = grow (redrawn ((w.alloc (.cells #[.int .u64 a0, .int .u64 a1, .int .u64 a2, .int .u64 a3, .int .u64 a4] 27)).alloc (.cells #[.int .u64 b0, .int .u64 b1, .int .u64 b2, .int .u64 b3, .int .u64 b4] 27)) p.d) p.os) → W.heap[w.heap.size + 1]? = some (.cells #[.int .u64 b0, .int .u64 b1, .int .u64 b2, .int .u64 b3, .int .u64 b4] 27 (0, 0))) := by
    rintro _ ⟨p, rfl⟩; exact ((below_regrown _ p.d p.os).block _ (by simp)).trans (hp2_1 w _ _)
  go_enter Tryd.func101, Tryd.ntmps101
  go_wp2
  refine wp_region_quiet_below (by kernel_rfl) (by kernel_rfl) ?_
  refine wpQuiet_load_row rfl 27 _ rfl w.heap.size rfl 27 #[.int .u64 a0, .int .u64 a1, .int .u64 a2, .int .u64 a3, .int .u64 a4] (0, 0) _ h2.out Tryd.underlying27 rfl (by kernel_rfl) ?_
  simp only [Act.put, List.setIfInBounds_toArray, List.set_cons_succ, List.set_cons_zero]
  go_big_quiet_step (exact Calls.regrown_of (C1.out _))
  refine wpQuiet_load_row rfl 27 _ rfl (w.heap.size + 1) rfl 27 #[.int .u64 b0, .int .u64 b1, .int .u64 b2, .int .u64 b3, .int .u64 b4] (0, 0) _ h3.out Tryd.underlying27 rfl (by kernel_rfl) ?_
  simp only [Act.put, List.setIfInBounds_toArray, List.set_cons_succ, List.set_cons_zero]
  go_big_quiet_step (exact Calls.regrown_of (C2.out _))
  repeat (go_big_quiet_step (fail))
  refine wpQuiet_nil ?_
  rintro _ ⟨p, rfl⟩
  have hb := below_regrown ((w.alloc (.cells #[.int .u64 a0, .int .u64 a1, .int .u64 a2, .int .u64 a3, .int .u64 a4] 27)).alloc (.cells #[.int .u64 b0, .int .u64 b1, .int .u64 b2, .int .u64 b3, .int .u64 b4] 27)) p.d p.os
  generalize grow (redrawn ((w.alloc (.cells #[.int .u64 a0, .int .u64 a1, .int .u64 a2, .int .u64 a3, .int .u64 a4] 27)).alloc (.cells #[.int .u64 b0, .int .u64 b1, .int .u64 b2, .int .u64 b3, .int .u64 b4] 27)) p.d) p.os = W1 at *
  go_wp2
  go_ret
  exact ⟨rfl, (((Below.refl _ _).alloc (Nat.le_refl _) _).alloc (by simp) _).trans (hb.mono (by simp; omega))⟩

set_option maxHeartbeats 1000000 in
theorem isZero_any (a0 a1 a2 a3 a4 : Int) (la0 : 0 ≤ a0) (ua0 : a0 < 4503599627370496) (la1 : 0 ≤ a1) (ua1 : a1 < 4503599627370496) (la2 : 0 ≤ a2) (ua2 : a2 < 4503599627370496) (la3 : 0 ≤ a3) (ua3 : a3 < 4503599627370496) (la4 : 0 ≤ a4) (ua4 : a4 < 4503599627370496) (w : World) :
    Calls Tryd.prog 56 #[.agg #[.int .u64 a0, .int .u64 a1, .int .u64 a2, .int .u64 a3, .int .u64 a4]] w fun e w' => e = .returned (.bool (decide (v5 a0 a1 a2 a3 a4 % prm = 0))) ∧ Below w.heap.size w w' := by
  have c1 := fun W => bytes_any a0 a1 a2 a3 a4 la0 ua0 la1 ua1 la2 ua2 la3 ua3 la4 ua4 W
  have m0 := prm_bd (v5 a0 a1 a2 a3 a4)
  generalize v5 a0 a1 a2 a3 a4 % prm = m at *
  have hz : ∀ W, (Op.equalIn 10000 23 (.agg #[.int .u8 (byt (m) 0), .int .u8 (byt (m) 1), .int .u8 (byt (m) 2), .int .u8 (byt (m) 3), .int .u8 (byt (m) 4), .int .u8 (byt (m) 5), .int .u8 (byt (m) 6), .int .u8 (byt (m) 7), .int .u8 (byt (m) 8), .int .u8 (byt (m) 9), .int .u8 (byt (m) 10), .int .u8 (byt (m) 11), .int .u8 (byt (m) 12), .int .u8 (byt (m) 13), .int .u8 (byt (m) 14), .int .u8 (byt (m) 15), .int .u8 (byt (m) 16), .int .u8 (byt (m) 17), .int .u8 (byt (m) 18), .int .u8 (byt (m) 19), .int .u8 (byt (m) 20), .int .u8 (byt (m) 21), .int .u8 (byt (m) 22), .int .u8 (byt (m) 23), .int .u8 (byt (m) 24), .int .u8 (byt (m) 25), .int .u8 (byt (m) 26), .int .u8 (byt (m) 27), .int .u8 (byt (m) 28), .int .u8 (byt (m) 29), .int .u8 (byt (m) 30), .int .u8 (byt (m) 31)]) (.agg #[.int .u8 0, .int .u8 0, .int .u8 0, .int .u8 0, .int .u8 0, .int .u8 0, .int .u8 0, .int .u8 0, .int .u8 0, .int .u8 0, .int .u8 0, .int .u8 0, .int .u8 0, .int .u8 0, .int .u8 0, .int .u8 0, .int .u8 0, .int .u8 0, .int .u8 0, .int .u8 0, .int .u8 0, .int .u8 0, .int .u8 0, .int .u8 0, .int .u8 0, .int .u8 0, .int .u8 0, .int .u8 0, .int .u8 0, .int .u8 0, .int .u8 0, .int .u8 0])).run Tryd.prog W = .ok (decide (m = 0)) W := fun W => by
    have := keys_eq m 0 m0.1 m0.2 (by decide) (by decide) W
    simpa [byt] using this
  have C1 := hide c1
  clear c1 m0 la0 ua0 la1 ua1 la2 ua2 la3 ua3 la4 ua4
  go_enter Tryd.func56, Tryd.ntmps56
  go_wp2_with (first | (refine wpList_load_row rfl 27 _ rfl w.heap.size rfl 27 #[.int .u64 a0, .int .u64 a1, .int .u64 a2, .int .u64 a3, .int .u64 a4] (0, 0) _ (hp1_0 w _) Tryd.underlying27 rfl (by kernel_rfl) ?_) | fail)
  refine (C1.out _).mono ?_
  rintro e w1 ⟨rfl, hb⟩
  go_wp2
  go_ret
  exact ⟨rfl, ((Below.refl _ _).alloc (Nat.le_refl _) _).trans (hb.mono (by simp))⟩



end Go.Proofs.YtgfhoabgbgddbaaDoor

