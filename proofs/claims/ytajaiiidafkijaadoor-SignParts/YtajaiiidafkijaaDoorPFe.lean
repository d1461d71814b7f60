import Derived.Test.YtajaiiidafkijaaDoorProg
import Derived.WalkKit
import Derived.WalkSpells
import Derived.WalkLawsBesides
import Derived.Lib.QuietBelow
import Derived.BigQuiet
import Derived.Test.YtajaiiidafkijaaDoorPKa
import Derived.Test.YtajaiiidafkijaaDoorPMa
import Derived.Test.YtajaiiidafkijaaDoorPFc
import Derived.Test.YtajaiiidafkijaaDoorPGa
namespace Go.Proofs.YtajaiiidafkijaaDoor
set_option maxRecDepth 100000
open Go.RowKit Go.Sort
attribute [local go_sem] setCell_drewN alloc_drewN
set_option maxHeartbeats 2000000 in
theorem times_any (a0 a1 a2 a3 a4 m : Int) (la0 : 0 ≤ a0) (ua0 : a0 < 4503599627370496) (la1 : 0 ≤ a1) (ua1 : a1 < 4503599627370496) (la2 : 0 ≤ a2) (ua2 : a2 < 4503599627370496) (la3 : 0 ≤ a3) (ua3 : a3 < 4503599627370496) (la4 : 0 ≤ a4) (ua4 : a4 < 4503599627370496) (lm : 0 ≤ m) (um : m < 4294967296) (w : World) :
 Calls Tryd.prog 124 #[.agg #[.int .u64 a0, .int .u64 a1, .int .u64 a2, .int .u64 a3, .int .u64 a4], .int .u32 m] w fun e w' => e = .returned (.agg #[.int .u64 (jn 0 (a0 * m) (a1 * m) (a2 * m) (a3 * m) (a4 * m)), .int .u64 (jn 1 (a0 * m) (a1 * m) (a2 * m) (a3 * m) (a4 * m)), .int .u64 (jn 2 (a0 * m) (a1 * m) (a2 * m) (a3 * m) (a4 * m)), .int .u64 (jn 3 (a0 * m) (a1 * m) (a2 * m) (a3 * m) (a4 * m)), .int .u64 (jn 4 (a0 * m) (a1 * m) (a2 * m) (a3 * m) (a4 * m))]) ∧ Below w.heap.size w w' := by
 have p0 := mul_bd a0 m 4503599627370496 4294967296 la0 (Int.le_of_lt ua0) lm (Int.le_of_lt um); have p1 := mul_bd a1 m 4503599627370496 4294967296 la1 (Int.le_of_lt ua1) lm (Int.le_of_lt um); have p2 := mul_bd a2 m 4503599627370496 4294967296 la2 (Int.le_of_lt ua2) lm (Int.le_of_lt um); have p3 := mul_bd a3 m 4503599627370496 4294967296 la3 (Int.le_of_lt ua3) lm (Int.le_of_lt um); have p4 := mul_bd a4 m 4503599627370496 4294967296 la4 (Int.le_of_lt ua4) lm (Int.le_of_lt um)
 have e0 := fun W => product_any a0 m la0 (by omega) lm (by omega) W; have e1 := fun W => product_any a1 m la1 (by omega) lm (by omega) W; have e2 := fun W => product_any a2 m la2 (by omega) lm (by omega) W; have e3 := fun W => product_any a3 m la3 (by omega) lm (by omega) W; have e4 := fun W => product_any a4 m la4 (by omega) lm (by omega) W
 have e5 := fun W => joined_any (a0 * m) (a1 * m) (a2 * m) (a3 * m) (a4 * m) p0.1 (by have := p0.2; omega) p1.1 (by have := p1.2; omega) p2.1 (by have := p2.2; omega) p3.1 (by have := p3.2; omega) p4.1 (by have := p4.2; omega) W
 have E0 := hide e0; have E1 := hide e1; have E2 := hide e2; have E3 := hide e3; have E4 := hide e4; have E5 := hide e5
 clear e0 e1 e2 e3 e4 e5 p0 p1 p2 p3 p4
 have k0 : ∀ p : Regrown, (grow (redrawn ((w.alloc (.cells #[.int .u64 a0, .int .u64 a1, .int .u64 a2, .int .u64 a3, .int .u64 a4] 43)).alloc (.cells #[.int .u64 0, .int .u64 0, .int .u64 0, .int .u64 0, .int .u64 0] 43)) p.d) p.os).cell? ⟨w.heap.size, 0, none⟩ = some (.int .u64 a0) := fun p => cell_regrown (by simp [go_sem]) p.d p.os; have k1 : ∀ p : Regrown, (grow (redrawn ((w.alloc (.cells #[.int .u64 a0, .int .u64 a1, .int .u64 a2, .int .u64 a3, .int .u64 a4] 43)).alloc (.cells #[.int .u64 0, .int .u64 0, .int .u64 0, .int .u64 0, .int .u64 0] 43)) p.d) p.os).cell? ⟨w.heap.size, 1, none⟩ = some (.int .u64 a1) := fun p => cell_regrown (by simp [go_sem]) p.d p.os; have k2 : ∀ p : Regrown, (grow (redrawn ((w.alloc (.cells #[.int .u64 a0, .int .u64 a1, .int .u64 a2, .int .u64 a3, .int .u64 a4] 43)).alloc (.cells #[.int .u64 0, .int .u64 0, .int .u64 0, .int .u64 0, .int .u64 0] 43)) p.d) p.os).cell? ⟨w.heap.size, 2, none⟩ = some (.int .u64 a2) := fun p => cell_regrown (by simp [go_sem]) p.d p.os; have k3 : ∀ p : Regrown, (grow (redrawn ((w.alloc (.cells #[.int .u64 a0, .int .u64 a1, .int .u64 a2, .int .u64 a3, .int .u64 a4] 43)).alloc (.cells #[.int .u64 0, .int .u64 0, .int .u64 0, .int .u64 0, .int .u64 0] 43)) p.d) p.os).cell? ⟨w.heap.size, 3, none⟩ = some (.int .u64 a3) := fun p => cell_regrown (by simp [go_sem]) p.d p.os; have k4 : ∀ p : Regrown, (grow (redrawn ((w.alloc (.cells #[.int .u64 a0, .int .u64 a1, .int .u64 a2, .int .u64 a3, .int .u64 a4] 43)).alloc (.cells #[.int .u64 0, .int .u64 0, .int .u64 0, .int .u64 0, .int .u64 0] 43)) p.d) p.os).cell? ⟨w.heap.size, 4, none⟩ = some (.int .u64 a4) := fun p => cell_regrown (by simp [go_sem]) p.d p.os
 have uc : ∀ W, (Below ((w.alloc (.cells #[.int .u64 a0, .int .u64 a1, .int .u64 a2, .int .u64 a3, .int .u64 a4] 43)).alloc (.cells #[.int .u64 0, .int .u64 0, .int .u64 0, .int .u64 0, .int .u64 0] 43)).heap.size ((w.alloc (.cells #[.int .u64 a0, .int .u64 a1, .int .u64 a2, .int .u64 a3, .int .u64 a4] 43)).alloc (.cells #[.int .u64 0, .int .u64 0, .int .u64 0, .int .u64 0, .int .u64 0] 43)) W) → W.heap[w.heap.size + 1]? = some (.cells #[.int .u64 0, .int .u64 0, .int .u64 0, .int .u64 0, .int .u64 0] 43 (0, 0)) := fun W hW => (hW.block _ (by simp)).trans (hp2_1 w _ _)
 go_enter Tryd.func124, Tryd.ntmps124
 go_wp2
 refine wp_region_tail (C := fun w' => ∃ p : Regrown, w' = grow (redrawn ((w.alloc (.cells #[.int .u64 a0, .int .u64 a1, .int .u64 a2, .int .u64 a3, .int .u64 a4] 43)).alloc (.cells #[.int .u64 0, .int .u64 0, .int .u64 0, .int .u64 0, .int .u64 0] 43)) p.d) p.os) 26 _ rfl rfl rfl (by kernel_rfl) (by kernel_rfl) (by kernel_rfl) (by kernel_rfl) ⟨⟨((w.alloc (.cells #[.int .u64 a0, .int .u64 a1, .int .u64 a2, .int .u64 a3, .int .u64 a4] 43)).alloc (.cells #[.int .u64 0, .int .u64 0, .int .u64 0, .int .u64 0, .int .u64 0] 43)).drawn + 1, #[]⟩, by rw [grow_empty]; rfl⟩ ?_
 dsimp only [List.set, idle]
 go_big_quiet_step (fail)
 go_big_quiet_step (fail)
 go_big_quiet_step (fail)
 go_big_quiet_step (fail)
 go_big_quiet_step (exact Calls.regrown_of (E0.out _))
 go_big_quiet_step (fail)
 go_big_quiet_step (fail)
 go_big_quiet_step (fail)
 go_big_quiet_step (fail)
 go_big_quiet_step (exact Calls.regrown_of (E1.out _))
 go_big_quiet_step (fail)
 go_big_quiet_step (fail)
 go_big_quiet_step (fail)
 go_big_quiet_step (fail)
 go_big_quiet_step (exact Calls.regrown_of (E2.out _))
 go_big_quiet_step (fail)
 go_big_quiet_step (fail)
 go_big_quiet_step (fail)
 go_big_quiet_step (fail)
 go_big_quiet_step (exact Calls.regrown_of (E3.out _))
 go_big_quiet_step (fail)
 go_big_quiet_step (fail)
 go_big_quiet_step (fail)
 go_big_quiet_step (fail)
 go_big_quiet_step (exact Calls.regrown_of (E4.out _))
 go_big_quiet_step (exact Calls.regrown_of (E5.out _))
 refine wpQuiet_idle rfl rfl rfl ?_
 rintro _ ⟨p, rfl⟩
 have hB := below_regrown ((w.alloc (.cells #[.int .u64 a0, .int .u64 a1, .int .u64 a2, .int .u64 a3, .int .u64 a4] 43)).alloc (.cells #[.int .u64 0, .int .u64 0, .int .u64 0, .int .u64 0, .int .u64 0] 43)) p.d p.os
 clear k0 k1 k2 k3 k4
 generalize grow (redrawn ((w.alloc (.cells #[.int .u64 a0, .int .u64 a1, .int .u64 a2, .int .u64 a3, .int .u64 a4] 43)).alloc (.cells #[.int .u64 0, .int .u64 0, .int .u64 0, .int .u64 0, .int .u64 0] 43)) p.d) p.os = W1 at *
 have rZ := uc W1 hB
 have hbw : Below w.heap.size w W1 := (((Below.refl _ _).alloc (Nat.le_refl _) _).alloc (by simp) _).trans (hB.mono (by simp; omega))
 clear uc hB
 go_wp2_with (first | (refine wpList_store_row rfl 43 _ _ rfl (w.heap.size + 1) #[.int .u64 (jn 0 (a0 * m) (a1 * m) (a2 * m) (a3 * m) (a4 * m)), .int .u64 (jn 1 (a0 * m) (a1 * m) (a2 * m) (a3 * m) (a4 * m)), .int .u64 (jn 2 (a0 * m) (a1 * m) (a2 * m) (a3 * m) (a4 * m)), .int .u64 (jn 3 (a0 * m) (a1 * m) (a2 * m) (a3 * m) (a4 * m)), .int .u64 (jn 4 (a0 * m) (a1 * m) (a2 * m) (a3 * m) (a4 * m))] rfl rfl 43 _ rZ (by kernel_rfl) rfl (by kernel_rfl) ?_) | fail)
 exact bodyPost_ret (v := .agg #[.int .u64 (jn 0 (a0 * m) (a1 * m) (a2 * m) (a3 * m) (a4 * m)), .int .u64 (jn 1 (a0 * m) (a1 * m) (a2 * m) (a3 * m) (a4 * m)), .int .u64 (jn 2 (a0 * m) (a1 * m) (a2 * m) (a3 * m) (a4 * m)), .int .u64 (jn 3 (a0 * m) (a1 * m) (a2 * m) (a3 * m) (a4 * m)), .int .u64 (jn 4 (a0 * m) (a1 * m) (a2 * m) (a3 * m) (a4 * m))]) (results_cell_row Tryd.results124 _ _ (w.heap.size + 1) _ #[.int .u64 (jn 0 (a0 * m) (a1 * m) (a2 * m) (a3 * m) (a4 * m)), .int .u64 (jn 1 (a0 * m) (a1 * m) (a2 * m) (a3 * m) (a4 * m)), .int .u64 (jn 2 (a0 * m) (a1 * m) (a2 * m) (a3 * m) (a4 * m)), .int .u64 (jn 3 (a0 * m) (a1 * m) (a2 * m) (a3 * m) (a4 * m)), .int .u64 (jn 4 (a0 * m) (a1 * m) (a2 * m) (a3 * m) (a4 * m))] _ _ rfl (setRow_heap _ _ _ _ _ _ rZ) Tryd.underlying43 rfl (by kernel_rfl)) rfl ⟨rfl, below_setRow hbw (by omega) _⟩
set_option maxHeartbeats 4000000 in
theorem mul_any (a0 a1 a2 a3 a4 b0 b1 b2 b3 b4 : Int) (la0 : 0 ≤ a0) (ua0 : a0 < 4503599627370496) (la1 : 0 ≤ a1) (ua1 : a1 < 4503599627370496) (la2 : 0 ≤ a2) (ua2 : a2 < 4503599627370496) (la3 : 0 ≤ a3) (ua3 : a3 < 4503599627370496) (la4 : 0 ≤ a4) (ua4 : a4 < 4503599627370496) (lb0 : 0 ≤ b0) (ub0 : b0 < 4503599627370496) (lb1 : 0 ≤ b1) (ub1 : b1 < 4503599627370496) (lb2 : 0 ≤ b2) (ub2 : b2 < 4503599627370496) (lb3 : 0 ≤ b3) (ub3 : b3 < 4503599627370496) (lb4 : 0 ≤ b4) (ub4 : b4 < 4503599627370496) (w : World) :
 Calls Tryd.prog 71 #[.agg #[.int .u64 a0, .int .u64 a1, .int .u64 a2, .int .u64 a3, .int .u64 a4], .agg #[.int .u64 b0, .int .u64 b1, .int .u64 b2, .int .u64 b3, .int .u64 b4]] w fun e w' => e = .returned (.agg #[.int .u64 (jn 0 (a0 * b0 + (19 * a1) * b4 + (19 * a2) * b3 + (19 * a3) * b2 + (19 * a4) * b1) (a0 * b1 + a1 * b0 + (19 * a2) * b4 + (19 * a3) * b3 + (19 * a4) * b2) (a0 * b2 + a1 * b1 + a2 * b0 + (19 * a3) * b4 + (19 * a4) * b3) (a0 * b3 + a1 * b2 + a2 * b1 + a3 * b0 + (19 * a4) * b4) (a0 * b4 + a1 * b3 + a2 * b2 + a3 * b1 + a4 * b0)), .int .u64 (jn 1 (a0 * b0 + (19 * a1) * b4 + (19 * a2) * b3 + (19 * a3) * b2 + (19 * a4) * b1) (a0 * b1 + a1 * b0 + (19 * a2) * b4 + (19 * a3) * b3 + (19 * a4) * b2) (a0 * b2 + a1 * b1 + a2 * b0 + (19 * a3) * b4 + (19 * a4) * b3) (a0 * b3 + a1 * b2 + a2 * b1 + a3 * b0 + (19 * a4) * b4) (a0 * b4 + a1 * b3 + a2 * b2 + a3 * b1 + a4 * b0)), .int .u64 (jn 2 (a0 * b0 + (19 * a1) * b4 + (19 * a2) * b3 + (19 * a3) * b2 + (19 * a4) * b1) (a0 * b1 + a1 * b0 + (19 * a2) * b4 + (19 * a3) * b3 + (19 * a4) * b2) (a0 * b2 + a1 * b1 + a2 * b0 + (19 * a3) * b4 + (19 * a4) * b3) (a0 * b3 + a1 * b2 + a2 * b1 + a3 * b0 + (19 * a4) * b4) (a0 * b4 + a1 * b3 + a2 * b2 + a3 * b1 + a4 * b0)), .int .u64 (jn 3 (a0 * b0 + (19 * a1) * b4 + (19 * a2) * b3 + (19 * a3) * b2 + (19 * a4) * b1) (a0 * b1 + a1 * b0 + (19 * a2) * b4 + (19 * a3) * b3 + (19 * a4) * b2) (a0 * b2 + a1 * b1 + a2 * b0 + (19 * a3) * b4 + (19 * a4) * b3) (a0 * b3 + a1 * b2 + a2 * b1 + a3 * b0 + (19 * a4) * b4) (a0 * b4 + a1 * b3 + a2 * b2 + a3 * b1 + a4 * b0)), .int .u64 (jn 4 (a0 * b0 + (19 * a1) * b4 + (19 * a2) * b3 + (19 * a3) * b2 + (19 * a4) * b1) (a0 * b1 + a1 * b0 + (19 * a2) * b4 + (19 * a3) * b3 + (19 * a4) * b2) (a0 * b2 + a1 * b1 + a2 * b0 + (19 * a3) * b4 + (19 * a4) * b3) (a0 * b3 + a1 * b2 + a2 * b1 + a3 * b0 + (19 * a4) * b4) (a0 * b4 + a1 * b3 + a2 * b2 + a3 * b1 + a4 * b0))]) ∧ Below w.heap.size w w' := by
 have p00 := mul_bd a0 b0 4503599627370495 4503599627370495 (by omega) (by omega) (by omega) (by omega)
 have p01 := mul_bd (19 * a1) b4 85568392920039405 4503599627370495 (by omega) (by omega) (by omega) (by omega)
 have p02 := mul_bd (19 * a2) b3 85568392920039405 4503599627370495 (by omega) (by omega) (by omega) (by omega)
 have p03 := mul_bd (19 * a3) b2 85568392920039405 4503599627370495 (by omega) (by omega) (by omega) (by omega)
 have p04 := mul_bd (19 * a4) b1 85568392920039405 4503599627370495 (by omega) (by omega) (by omega) (by omega)
 have p10 := mul_bd a0 b1 4503599627370495 4503599627370495 (by omega) (by omega) (by omega) (by omega)
 have p11 := mul_bd a1 b0 4503599627370495 4503599627370495 (by omega) (by omega) (by omega) (by omega)
 have p12 := mul_bd (19 * a2) b4 85568392920039405 4503599627370495 (by omega) (by omega) (by omega) (by omega)
 have p13 := mul_bd (19 * a3) b3 85568392920039405 4503599627370495 (by omega) (by omega) (by omega) (by omega)
 have p14 := mul_bd (19 * a4) b2 85568392920039405 4503599627370495 (by omega) (by omega) (by omega) (by omega)
 have p20 := mul_bd a0 b2 4503599627370495 4503599627370495 (by omega) (by omega) (by omega) (by omega)
 have p21 := mul_bd a1 b1 4503599627370495 4503599627370495 (by omega) (by omega) (by omega) (by omega)
 have p22 := mul_bd a2 b0 4503599627370495 4503599627370495 (by omega) (by omega) (by omega) (by omega)
 have p23 := mul_bd (19 * a3) b4 85568392920039405 4503599627370495 (by omega) (by omega) (by omega) (by omega)
 have p24 := mul_bd (19 * a4) b3 85568392920039405 4503599627370495 (by omega) (by omega) (by omega) (by omega)
 have p30 := mul_bd a0 b3 4503599627370495 4503599627370495 (by omega) (by omega) (by omega) (by omega)
 have p31 := mul_bd a1 b2 4503599627370495 4503599627370495 (by omega) (by omega) (by omega) (by omega)
 have p32 := mul_bd a2 b1 4503599627370495 4503599627370495 (by omega) (by omega) (by omega) (by omega)
 have p33 := mul_bd a3 b0 4503599627370495 4503599627370495 (by omega) (by omega) (by omega) (by omega)
 have p34 := mul_bd (19 * a4) b4 85568392920039405 4503599627370495 (by omega) (by omega) (by omega) (by omega)
 have p40 := mul_bd a0 b4 4503599627370495 4503599627370495 (by omega) (by omega) (by omega) (by omega)
 have p41 := mul_bd a1 b3 4503599627370495 4503599627370495 (by omega) (by omega) (by omega) (by omega)
 have p42 := mul_bd a2 b2 4503599627370495 4503599627370495 (by omega) (by omega) (by omega) (by omega)
 have p43 := mul_bd a3 b1 4503599627370495 4503599627370495 (by omega) (by omega) (by omega) (by omega)
 have p44 := mul_bd a4 b0 4503599627370495 4503599627370495 (by omega) (by omega) (by omega) (by omega)
 have e00 := fun W => product_any a0 b0 (by omega) (by omega) (by omega) (by omega) W
 have e01 := fun W => plus_any (a0 * b0) (19 * a1) b4 (by omega) (by omega) (by omega) (by omega) (by omega) (by omega) W
 have e02 := fun W => plus_any (a0 * b0 + (19 * a1) * b4) (19 * a2) b3 (by omega) (by omega) (by omega) (by omega) (by omega) (by omega) W
 have e03 := fun W => plus_any (a0 * b0 + (19 * a1) * b4 + (19 * a2) * b3) (19 * a3) b2 (by omega) (by omega) (by omega) (by omega) (by omega) (by omega) W
 have e04 := fun W => plus_any (a0 * b0 + (19 * a1) * b4 + (19 * a2) * b3 + (19 * a3) * b2) (19 * a4) b1 (by omega) (by omega) (by omega) (by omega) (by omega) (by omega) W
 have e10 := fun W => product_any a0 b1 (by omega) (by omega) (by omega) (by omega) W
 have e11 := fun W => plus_any (a0 * b1) a1 b0 (by omega) (by omega) (by omega) (by omega) (by omega) (by omega) W
 have e12 := fun W => plus_any (a0 * b1 + a1 * b0) (19 * a2) b4 (by omega) (by omega) (by omega) (by omega) (by omega) (by omega) W
 have e13 := fun W => plus_any (a0 * b1 + a1 * b0 + (19 * a2) * b4) (19 * a3) b3 (by omega) (by omega) (by omega) (by omega) (by omega) (by omega) W
 have e14 := fun W => plus_any (a0 * b1 + a1 * b0 + (19 * a2) * b4 + (19 * a3) * b3) (19 * a4) b2 (by omega) (by omega) (by omega) (by omega) (by omega) (by omega) W
 have e20 := fun W => product_any a0 b2 (by omega) (by omega) (by omega) (by omega) W
 have e21 := fun W => plus_any (a0 * b2) a1 b1 (by omega) (by omega) (by omega) (by omega) (by omega) (by omega) W
 have e22 := fun W => plus_any (a0 * b2 + a1 * b1) a2 b0 (by omega) (by omega) (by omega) (by omega) (by omega) (by omega) W
 have e23 := fun W => plus_any (a0 * b2 + a1 * b1 + a2 * b0) (19 * a3) b4 (by omega) (by omega) (by omega) (by omega) (by omega) (by omega) W
 have e24 := fun W => plus_any (a0 * b2 + a1 * b1 + a2 * b0 + (19 * a3) * b4) (19 * a4) b3 (by omega) (by omega) (by omega) (by omega) (by omega) (by omega) W
 have e30 := fun W => product_any a0 b3 (by omega) (by omega) (by omega) (by omega) W
 have e31 := fun W => plus_any (a0 * b3) a1 b2 (by omega) (by omega) (by omega) (by omega) (by omega) (by omega) W
 have e32 := fun W => plus_any (a0 * b3 + a1 * b2) a2 b1 (by omega) (by omega) (by omega) (by omega) (by omega) (by omega) W
 have e33 := fun W => plus_any (a0 * b3 + a1 * b2 + a2 * b1) a3 b0 (by omega) (by omega) (by omega) (by omega) (by omega) (by omega) W
 have e34 := fun W => plus_any (a0 * b3 + a1 * b2 + a2 * b1 + a3 * b0) (19 * a4) b4 (by omega) (by omega) (by omega) (by omega) (by omega) (by omega) W
 have e40 := fun W => product_any a0 b4 (by omega) (by omega) (by omega) (by omega) W
 have e41 := fun W => plus_any (a0 * b4) a1 b3 (by omega) (by omega) (by omega) (by omega) (by omega) (by omega) W
 have e42 := fun W => plus_any (a0 * b4 + a1 * b3) a2 b2 (by omega) (by omega) (by omega) (by omega) (by omega) (by omega) W
 have e43 := fun W => plus_any (a0 * b4 + a1 * b3 + a2 * b2) a3 b1 (by omega) (by omega) (by omega) (by omega) (by omega) (by omega) W
 have e44 := fun W => plus_any (a0 * b4 + a1 * b3 + a2 * b2 + a3 * b1) a4 b0 (by omega) (by omega) (by omega) (by omega) (by omega) (by omega) W
 have ej := fun W => joined_any (a0 * b0 + (19 * a1) * b4 + (19 * a2) * b3 + (19 * a3) * b2 + (19 * a4) * b1) (a0 * b1 + a1 * b0 + (19 * a2) * b4 + (19 * a3) * b3 + (19 * a4) * b2) (a0 * b2 + a1 * b1 + a2 * b0 + (19 * a3) * b4 + (19 * a4) * b3) (a0 * b3 + a1 * b2 + a2 * b1 + a3 * b0 + (19 * a4) * b4) (a0 * b4 + a1 * b3 + a2 * b2 + a3 * b1 + a4 * b0) (by omega) (by omega) (by omega) (by omega) (by omega) (by omega) (by omega) (by omega) (by omega) (by omega) W
 have E00 := hide e00; have E01 := hide e01; have E02 := hide e02; have E03 := hide e03; have E04 := hide e04; have E10 := hide e10; have E11 := hide e11; have E12 := hide e12; have E13 := hide e13; have E14 := hide e14; have E20 := hide e20; have E21 := hide e21; have E22 := hide e22; have E23 := hide e23; have E24 := hide e24; have E30 := hide e30; have E31 := hide e31; have E32 := hide e32; have E33 := hide e33; have E34 := hide e34; have E40 := hide e40; have E41 := hide e41; have E42 := hide e42; have E43 := hide e43; have E44 := hide e44; have Ej := hide ej
 clear e00 e01 e02 e03 e04 e10 e11 e12 e13 e14 e20 e21 e22 e23 e24 e30 e31 e32 e33 e34 e40 e41 e42 e43 e44 ej p00 p01 p02 p03 p04 p10 p11 p12 p13 p14 p20 p21 p22 p23 p24 p30 p31 p32 p33 p34 p40 p41 p42 p43 p44
 go_enter Tryd.func71, Tryd.ntmps71
 go_wp2
 go_quiet (fail)
 go_wp2_with fail
 go_quiet (fail)
 go_wp2_with fail
 refine (lift_calls (Below.refl _ _) (E00.out _)).mono ?_
 rintro e X0 ⟨rfl, h0⟩
 go_wp2_with fail
 refine (lift_calls h0 (E01.out _)).mono ?_
 rintro e X1 ⟨rfl, h1⟩
 clear h0
 go_wp2_with fail
 refine (lift_calls h1 (E02.out _)).mono ?_
 rintro e X2 ⟨rfl, h2⟩
 clear h1
 go_wp2_with fail
 refine (lift_calls h2 (E03.out _)).mono ?_
 rintro e X3 ⟨rfl, h3⟩
 clear h2
 go_wp2_with fail
 refine (lift_calls h3 (E04.out _)).mono ?_
 rintro e X4 ⟨rfl, h4⟩
 clear h3
 go_wp2_with fail
 refine (lift_calls h4 (E10.out _)).mono ?_
 rintro e X5 ⟨rfl, h5⟩
 clear h4
 go_wp2_with fail
 refine (lift_calls h5 (E11.out _)).mono ?_
 rintro e X6 ⟨rfl, h6⟩
 clear h5
 go_wp2_with fail
 refine (lift_calls h6 (E12.out _)).mono ?_
 rintro e X7 ⟨rfl, h7⟩
 clear h6
 go_wp2_with fail
 refine (lift_calls h7 (E13.out _)).mono ?_
 rintro e X8 ⟨rfl, h8⟩
 clear h7
 go_wp2_with fail
 refine (lift_calls h8 (E14.out _)).mono ?_
 rintro e X9 ⟨rfl, h9⟩
 clear h8
 go_wp2_with fail
 refine (lift_calls h9 (E20.out _)).mono ?_
 rintro e X10 ⟨rfl, h10⟩
 clear h9
 go_wp2_with fail
 refine (lift_calls h10 (E21.out _)).mono ?_
 rintro e X11 ⟨rfl, h11⟩
 clear h10
 go_wp2_with fail
 refine (lift_calls h11 (E22.out _)).mono ?_
 rintro e X12 ⟨rfl, h12⟩
 clear h11
 go_wp2_with fail
 refine (lift_calls h12 (E23.out _)).mono ?_
 rintro e X13 ⟨rfl, h13⟩
 clear h12
 go_wp2_with fail
 refine (lift_calls h13 (E24.out _)).mono ?_
 rintro e X14 ⟨rfl, h14⟩
 clear h13
 go_wp2_with fail
 refine (lift_calls h14 (E30.out _)).mono ?_
 rintro e X15 ⟨rfl, h15⟩
 clear h14
 go_wp2_with fail
 refine (lift_calls h15 (E31.out _)).mono ?_
 rintro e X16 ⟨rfl, h16⟩
 clear h15
 go_wp2_with fail
 refine (lift_calls h16 (E32.out _)).mono ?_
 rintro e X17 ⟨rfl, h17⟩
 clear h16
 go_wp2_with fail
 refine (lift_calls h17 (E33.out _)).mono ?_
 rintro e X18 ⟨rfl, h18⟩
 clear h17
 go_wp2_with fail
 refine (lift_calls h18 (E34.out _)).mono ?_
 rintro e X19 ⟨rfl, h19⟩
 clear h18
 go_wp2_with fail
 refine (lift_calls h19 (E40.out _)).mono ?_
 rintro e X20 ⟨rfl, h20⟩
 clear h19
 go_wp2_with fail
 refine (lift_calls h20 (E41.out _)).mono ?_
 rintro e X21 ⟨rfl, h21⟩
 clear h20
 go_wp2_with fail
 refine (lift_calls h21 (E42.out _)).mono ?_
 rintro e X22 ⟨rfl, h22⟩
 clear h21
 go_wp2_with fail
 refine (lift_calls h22 (E43.out _)).mono ?_
 rintro e X23 ⟨rfl, h23⟩
 clear h22
 go_wp2_with fail
 refine (lift_calls h23 (E44.out _)).mono ?_
 rintro e X24 ⟨rfl, h24⟩
 clear h23
 go_wp2_with fail
 refine (lift_calls h24 (Ej.out _)).mono ?_
 rintro e X25 ⟨rfl, h25⟩
 clear h24
 have hs := h25.size
 rw [World.heap_drewN] at hs
 have rZ : X25.heap[w.heap.size + 1 + 1]? = some (.cells #[.int .u64 0, .int .u64 0, .int .u64 0, .int .u64 0, .int .u64 0] 43 (0, 0)) := (h25.block _ (by simp)).trans (by rw [World.heap_drewN, hp3_2])
 have hbw : Below w.heap.size w X25 := (below_drN ((((Below.refl _ _).alloc (Nat.le_refl _) _).alloc (by simp) _).alloc (by simp; omega) _) _).trans (h25.mono (by simp; omega))
 clear h25 hs
 go_wp2_with (first | (refine wpList_store_row rfl 43 _ _ rfl (w.heap.size + 1 + 1) #[.int .u64 (jn 0 (a0 * b0 + (19 * a1) * b4 + (19 * a2) * b3 + (19 * a3) * b2 + (19 * a4) * b1) (a0 * b1 + a1 * b0 + (19 * a2) * b4 + (19 * a3) * b3 + (19 * a4) * b2) (a0 * b2 + a1 * b1 + a2 * b0 + (19 * a3) * b4 + (19 * a4) * b3) (a0 * b3 + a1 * b2 + a2 * b1 + a3 * b0 + (19 * a4) * b4) (a0 * b4 + a1 * b3 + a2 * b2 + a3 * b1 + a4 * b0)), .int .u64 (jn 1 (a0 * b0 + (19 * a1) * b4 + (19 * a2) * b3 + (19 * a3) * b2 + (19 * a4) * b1) (a0 * b1 + a1 * b0 + (19 * a2) * b4 + (19 * a3) * b3 + (19 * a4) * b2) (a0 * b2 + a1 * b1 + a2 * b0 + (19 * a3) * b4 + (19 * a4) * b3) (a0 * b3 + a1 * b2 + a2 * b1 + a3 * b0 + (19 * a4) * b4) (a0 * b4 + a1 * b3 + a2 * b2 + a3 * b1 + a4 * b0)), .int .u64 (jn 2 (a0 * b0 + (19 * a1) * b4 + (19 * a2) * b3 + (19 * a3) * b2 + (19 * a4) * b1) (a0 * b1 + a1 * b0 + (19 * a2) * b4 + (19 * a3) * b3 + (19 * a4) * b2) (a0 * b2 + a1 * b1 + a2 * b0 + (19 * a3) * b4 + (19 * a4) * b3) (a0 * b3 + a1 * b2 + a2 * b1 + a3 * b0 + (19 * a4) * b4) (a0 * b4 + a1 * b3 + a2 * b2 + a3 * b1 + a4 * b0)), .int .u64 (jn 3 (a0 * b0 + (19 * a1) * b4 + (19 * a2) * b3 + (19 * a3) * b2 + (19 * a4) * b1) (a0 * b1 + a1 * b0 + (19 * a2) * b4 + (19 * a3) * b3 + (19 * a4) * b2) (a0 * b2 + a1 * b1 + a2 * b0 + (19 * a3) * b4 + (19 * a4) * b3) (a0 * b3 + a1 * b2 + a2 * b1 + a3 * b0 + (19 * a4) * b4) (a0 * b4 + a1 * b3 + a2 * b2 + a3 * b1 + a4 * b0)), .int .u64 (jn 4 (a0 * b0 + (19 * a1) * b4 + (19 * a2) * b3 + (19 * a3) * b2 + (19 * a4) * b1) (a0 * b1 + a1 * b0 + (19 * a2) * b4 + (19 * a3) * b3 + (19 * a4) * b2) (a0 * b2 + a1 * b1 + a2 * b0 + (19 * a3) * b4 + (19 * a4) * b3) (a0 * b3 + a1 * b2 + a2 * b1 + a3 * b0 + (19 * a4) * b4) (a0 * b4 + a1 * b3 + a2 * b2 + a3 * b1 + a4 * b0))] rfl rfl 43 _ rZ (by kernel_rfl) rfl (by kernel_rfl) ?_) | fail)
 exact bodyPost_ret (v := .agg #[.int .u64 (jn 0 (a0 * b0 + (19 * a1) * b4 + (19 * a2) * b3 + (19 * a3) * b2 + (19 * a4) * b1) (a0 * b1 + a1 * b0 + (19 * a2) * b4 + (19 * a3) * b3 + (19 * a4) * b2) (a0 * b2 + a1 * b1 + a2 * b0 + (19 * a3) * b4 + (19 * a4) * b3) (a0 * b3 + a1 * b2 + a2 * b1 + a3 * b0 + (19 * a4) * b4) (a0 * b4 + a1 * b3 + a2 * b2 + a3 * b1 + a4 * b0)), .int .u64 (jn 1 (a0 * b0 + (19 * a1) * b4 + (19 * a2) * b3 + (19 * a3) * b2 + (19 * a4) * b1) (a0 * b1 + a1 * b0 + (19 * a2) * b4 + (19 * a3) * b3 + (19 * a4) * b2) (a0 * b2 + a1 * b1 + a2 * b0 + (19 * a3) * b4 + (19 * a4) * b3) (a0 * b3 + a1 * b2 + a2 * b1 + a3 * b0 + (19 * a4) * b4) (a0 * b4 + a1 * b3 + a2 * b2 + a3 * b1 + a4 * b0)), .int .u64 (jn 2 (a0 * b0 + (19 * a1) * b4 + (19 * a2) * b3 + (19 * a3) * b2 + (19 * a4) * b1) (a0 * b1 + a1 * b0 + (19 * a2) * b4 + (19 * a3) * b3 + (19 * a4) * b2) (a0 * b2 + a1 * b1 + a2 * b0 + (19 * a3) * b4 + (19 * a4) * b3) (a0 * b3 + a1 * b2 + a2 * b1 + a3 * b0 + (19 * a4) * b4) (a0 * b4 + a1 * b3 + a2 * b2 + a3 * b1 + a4 * b0)), .int .u64 (jn 3 (a0 * b0 + (19 * a1) * b4 + (19 * a2) * b3 + (19 * a3) * b2 + (19 * a4) * b1) (a0 * b1 + a1 * b0 + (19 * a2) * b4 + (19 * a3) * b3 + (19 * a4) * b2) (a0 * b2 + a1 * b1 + a2 * b0 + (19 * a3) * b4 + (19 * a4) * b3) (a0 * b3 + a1 * b2 + a2 * b1 + a3 * b0 + (19 * a4) * b4) (a0 * b4 + a1 * b3 + a2 * b2 + a3 * b1 + a4 * b0)), .int .u64 (jn 4 (a0 * b0 + (19 * a1) * b4 + (19 * a2) * b3 + (19 * a3) * b2 + (19 * a4) * b1) (a0 * b1 + a1 * b0 + (19 * a2) * b4 + (19 * a3) * b3 + (19 * a4) * b2) (a0 * b2 + a1 * b1 + a2 * b0 + (19 * a3) * b4 + (19 * a4) * b3) (a0 * b3 + a1 * b2 + a2 * b1 + a3 * b0 + (19 * a4) * b4) (a0 * b4 + a1 * b3 + a2 * b2 + a3 * b1 + a4 * b0))]) (results_cell_row Tryd.results71 _ _ (w.heap.size + 1 + 1) _ #[.int .u64 (jn 0 (a0 * b0 + (19 * a1) * b4 + (19 * a2) * b3 + (19 * a3) * b2 + (19 * a4) * b1) (a0 * b1 + a1 * b0 + (19 * a2) * b4 + (19 * a3) * b3 + (19 * a4) * b2) (a0 * b2 + a1 * b1 + a2 * b0 + (19 * a3) * b4 + (19 * a4) * b3) (a0 * b3 + a1 * b2 + a2 * b1 + a3 * b0 + (19 * a4) * b4) (a0 * b4 + a1 * b3 + a2 * b2 + a3 * b1 + a4 * b0)), .int .u64 (jn 1 (a0 * b0 + (19 * a1) * b4 + (19 * a2) * b3 + (19 * a3) * b2 + (19 * a4) * b1) (a0 * b1 + a1 * b0 + (19 * a2) * b4 + (19 * a3) * b3 + (19 * a4) * b2) (a0 * b2 + a1 * b1 + a2 * b0 + (19 * a3) * b4 + (19 * a4) * b3) (a0 * b3 + a1 * b2 + a2 * b1 + a3 * b0 + (19 * a4) * b4) (a0 * b4 + a1 * b3 + a2 * b2 + a3 * b1 + a4 * b0)), .int .u64 (jn 2 (a0 * b0 + (19 * a1) * b4 + (19 * a2) * b3 + (19 * a3) * b2 + (19 * a4) * b1) (a0 * b1 + a1 * b0 + (19 * a2) * b4 + (19 * a3) * b3 + (19 * a4) * b2) (a0 * b2 + a1 * b1 + a2 * b0 + (19 * a3) * b4 + (19 * a4) * b3) (a0 * b3 + a1 * b2 + a2 * b1 + a3 * b0 + (19 * a4) * b4) (a0 * b4 + a1 * b3 + a2 * b2 + a3 * b1 + a4 * b0)), .int .u64 (jn 3 (a0 * b0 + (19 * a1) * b4 + (19 * a2) * b3 + (19 * a3) * b2 + (19 * a4) * b1) (a0 * b1 + a1 * b0 + (19 * a2) * b4 + (19 * a3) * b3 + (19 * a4) * b2) (a0 * b2 + a1 * b1 + a2 * b0 + (19 * a3) * b4 + (19 * a4) * b3) (a0 * b3 + a1 * b2 + a2 * b1 + a3 * b0 + (19 * a4) * b4) (a0 * b4 + a1 * b3 + a2 * b2 + a3 * b1 + a4 * b0)), .int .u64 (jn 4 (a0 * b0 + (19 * a1) * b4 + (19 * a2) * b3 + (19 * a3) * b2 + (19 * a4) * b1) (a0 * b1 + a1 * b0 + (19 * a2) * b4 + (19 * a3) * b3 + (19 * a4) * b2) (a0 * b2 + a1 * b1 + a2 * b0 + (19 * a3) * b4 + (19 * a4) * b3) (a0 * b3 + a1 * b2 + a2 * b1 + a3 * b0 + (19 * a4) * b4) (a0 * b4 + a1 * b3 + a2 * b2 + a3 * b1 + a4 * b0))] _ _ rfl (setRow_heap _ _ _ _ _ _ rZ) Tryd.underlying43 rfl (by kernel_rfl)) rfl ⟨rfl, below_setRow hbw (by omega) _⟩
set_option maxHeartbeats 4000000 in
theorem square_any (a0 a1 a2 a3 a4 : Int) (la0 : 0 ≤ a0) (ua0 : a0 < 4503599627370496) (la1 : 0 ≤ a1) (ua1 : a1 < 4503599627370496) (la2 : 0 ≤ a2) (ua2 : a2 < 4503599627370496) (la3 : 0 ≤ a3) (ua3 : a3 < 4503599627370496) (la4 : 0 ≤ a4) (ua4 : a4 < 4503599627370496)  (w : World) :
 Calls Tryd.prog 140 #[.agg #[.int .u64 a0, .int .u64 a1, .int .u64 a2, .int .u64 a3, .int .u64 a4]] w fun e w' => e = .returned (.agg #[.int .u64 (jn 0 (a0 * a0 + (2 * a1) * (19 * a4) + (2 * a2) * (19 * a3)) ((2 * a0) * a1 + (2 * a2) * (19 * a4) + a3 * (19 * a3)) ((2 * a0) * a2 + a1 * a1 + (2 * a3) * (19 * a4)) ((2 * a0) * a3 + (2 * a1) * a2 + a4 * (19 * a4)) ((2 * a0) * a4 + (2 * a1) * a3 + a2 * a2)), .int .u64 (jn 1 (a0 * a0 + (2 * a1) * (19 * a4) + (2 * a2) * (19 * a3)) ((2 * a0) * a1 + (2 * a2) * (19 * a4) + a3 * (19 * a3)) ((2 * a0) * a2 + a1 * a1 + (2 * a3) * (19 * a4)) ((2 * a0) * a3 + (2 * a1) * a2 + a4 * (19 * a4)) ((2 * a0) * a4 + (2 * a1) * a3 + a2 * a2)), .int .u64 (jn 2 (a0 * a0 + (2 * a1) * (19 * a4) + (2 * a2) * (19 * a3)) ((2 * a0) * a1 + (2 * a2) * (19 * a4) + a3 * (19 * a3)) ((2 * a0) * a2 + a1 * a1 + (2 * a3) * (19 * a4)) ((2 * a0) * a3 + (2 * a1) * a2 + a4 * (19 * a4)) ((2 * a0) * a4 + (2 * a1) * a3 + a2 * a2)), .int .u64 (jn 3 (a0 * a0 + (2 * a1) * (19 * a4) + (2 * a2) * (19 * a3)) ((2 * a0) * a1 + (2 * a2) * (19 * a4) + a3 * (19 * a3)) ((2 * a0) * a2 + a1 * a1 + (2 * a3) * (19 * a4)) ((2 * a0) * a3 + (2 * a1) * a2 + a4 * (19 * a4)) ((2 * a0) * a4 + (2 * a1) * a3 + a2 * a2)), .int .u64 (jn 4 (a0 * a0 + (2 * a1) * (19 * a4) + (2 * a2) * (19 * a3)) ((2 * a0) * a1 + (2 * a2) * (19 * a4) + a3 * (19 * a3)) ((2 * a0) * a2 + a1 * a1 + (2 * a3) * (19 * a4)) ((2 * a0) * a3 + (2 * a1) * a2 + a4 * (19 * a4)) ((2 * a0) * a4 + (2 * a1) * a3 + a2 * a2))]) ∧ Below w.heap.size w w' := by
 have p00 := mul_bd a0 a0 4503599627370495 4503599627370495 (by omega) (by omega) (by omega) (by omega)
 have p01 := mul_bd (2 * a1) (19 * a4) 9007199254740990 85568392920039405 (by omega) (by omega) (by omega) (by omega)
 have p02 := mul_bd (2 * a2) (19 * a3) 9007199254740990 85568392920039405 (by omega) (by omega) (by omega) (by omega)
 have p10 := mul_bd (2 * a0) a1 9007199254740990 4503599627370495 (by omega) (by omega) (by omega) (by omega)
 have p11 := mul_bd (2 * a2) (19 * a4) 9007199254740990 85568392920039405 (by omega) (by omega) (by omega) (by omega)
 have p12 := mul_bd a3 (19 * a3) 4503599627370495 85568392920039405 (by omega) (by omega) (by omega) (by omega)
 have p20 := mul_bd (2 * a0) a2 9007199254740990 4503599627370495 (by omega) (by omega) (by omega) (by omega)
 have p21 := mul_bd a1 a1 4503599627370495 4503599627370495 (by omega) (by omega) (by omega) (by omega)
 have p22 := mul_bd (2 * a3) (19 * a4) 9007199254740990 85568392920039405 (by omega) (by omega) (by omega) (by omega)
 have p30 := mul_bd (2 * a0) a3 9007199254740990 4503599627370495 (by omega) (by omega) (by omega) (by omega)
 have p31 := mul_bd (2 * a1) a2 9007199254740990 4503599627370495 (by omega) (by omega) (by omega) (by omega)
 have p32 := mul_bd a4 (19 * a4) 4503599627370495 85568392920039405 (by omega) (by omega) (by omega) (by omega)
 have p40 := mul_bd (2 * a0) a4 9007199254740990 4503599627370495 (by omega) (by omega) (by omega) (by omega)
 have p41 := mul_bd (2 * a1) a3 9007199254740990 4503599627370495 (by omega) (by omega) (by omega) (by omega)
 have p42 := mul_bd a2 a2 4503599627370495 4503599627370495 (by omega) (by omega) (by omega) (by omega)
 have e00 := fun W => product_any a0 a0 (by omega) (by omega) (by omega) (by omega) W
 have e01 := fun W => plus_any (a0 * a0) (2 * a1) (19 * a4) (by omega) (by omega) (by omega) (by omega) (by omega) (by omega) W
 have e02 := fun W => plus_any (a0 * a0 + (2 * a1) * (19 * a4)) (2 * a2) (19 * a3) (by omega) (by omega) (by omega) (by omega) (by omega) (by omega) W
 have e10 := fun W => product_any (2 * a0) a1 (by omega) (by omega) (by omega) (by omega) W
 have e11 := fun W => plus_any ((2 * a0) * a1) (2 * a2) (19 * a4) (by omega) (by omega) (by omega) (by omega) (by omega) (by omega) W
 have e12 := fun W => plus_any ((2 * a0) * a1 + (2 * a2) * (19 * a4)) a3 (19 * a3) (by omega) (by omega) (by omega) (by omega) (by omega) (by omega) W
 have e20 := fun W => product_any (2 * a0) a2 (by omega) (by omega) (by omega) (by omega) W
 have e21 := fun W => plus_any ((2 * a0) * a2) a1 a1 (by omega) (by omega) (by omega) (by omega) (by omega) (by omega) W
 have e22 := fun W => plus_any ((2 * a0) * a2 + a1 * a1) (2 * a3) (19 * a4) (by omega) (by omega) (by omega) (by omega) (by omega) (by omega) W
 have e30 := fun W => product_any (2 * a0) a3 (by omega) (by omega) (by omega) (by omega) W
 have e31 := fun W => plus_any ((2 * a0) * a3) (2 * a1) a2 (by omega) (by omega) (by omega) (by omega) (by omega) (by omega) W
 have e32 := fun W => plus_any ((2 * a0) * a3 + (2 * a1) * a2) a4 (19 * a4) (by omega) (by omega) (by omega) (by omega) (by omega) (by omega) W
 have e40 := fun W => product_any (2 * a0) a4 (by omega) (by omega) (by omega) (by omega) W
 have e41 := fun W => plus_any ((2 * a0) * a4) (2 * a1) a3 (by omega) (by omega) (by omega) (by omega) (by omega) (by omega) W
 have e42 := fun W => plus_any ((2 * a0) * a4 + (2 * a1) * a3) a2 a2 (by omega) (by omega) (by omega) (by omega) (by omega) (by omega) W
 have ej := fun W => joined_any (a0 * a0 + (2 * a1) * (19 * a4) + (2 * a2) * (19 * a3)) ((2 * a0) * a1 + (2 * a2) * (19 * a4) + a3 * (19 * a3)) ((2 * a0) * a2 + a1 * a1 + (2 * a3) * (19 * a4)) ((2 * a0) * a3 + (2 * a1) * a2 + a4 * (19 * a4)) ((2 * a0) * a4 + (2 * a1) * a3 + a2 * a2) (by omega) (by omega) (by omega) (by omega) (by omega) (by omega) (by omega) (by omega) (by omega) (by omega) W
 have E00 := hide e00; have E01 := hide e01; have E02 := hide e02; have E10 := hide e10; have E11 := hide e11; have E12 := hide e12; have E20 := hide e20; have E21 := hide e21; have E22 := hide e22; have E30 := hide e30; have E31 := hide e31; have E32 := hide e32; have E40 := hide e40; have E41 := hide e41; have E42 := hide e42; have Ej := hide ej
 clear e00 e01 e02 e10 e11 e12 e20 e21 e22 e30 e31 e32 e40 e41 e42 ej p00 p01 p02 p10 p11 p12 p20 p21 p22 p30 p31 p32 p40 p41 p42
 go_enter Tryd.func140, Tryd.ntmps140
 go_wp2
 go_quiet (fail)
 go_wp2_with fail
 refine (lift_calls (Below.refl _ _) (E00.out _)).mono ?_
 rintro e X0 ⟨rfl, h0⟩
 go_wp2_with fail
 refine (lift_calls h0 (E01.out _)).mono ?_
 rintro e X1 ⟨rfl, h1⟩
 clear h0
 go_wp2_with fail
 refine (lift_calls h1 (E02.out _)).mono ?_
 rintro e X2 ⟨rfl, h2⟩
 clear h1
 go_wp2_with fail
 refine (lift_calls h2 (E10.out _)).mono ?_
 rintro e X3 ⟨rfl, h3⟩
 clear h2
 go_wp2_with fail
 refine (lift_calls h3 (E11.out _)).mono ?_
 rintro e X4 ⟨rfl, h4⟩
 clear h3
 go_wp2_with fail
 refine (lift_calls h4 (E12.out _)).mono ?_
 rintro e X5 ⟨rfl, h5⟩
 clear h4
 go_wp2_with fail
 refine (lift_calls h5 (E20.out _)).mono ?_
 rintro e X6 ⟨rfl, h6⟩
 clear h5
 go_wp2_with fail
 refine (lift_calls h6 (E21.out _)).mono ?_
 rintro e X7 ⟨rfl, h7⟩
 clear h6
 go_wp2_with fail
 refine (lift_calls h7 (E22.out _)).mono ?_
 rintro e X8 ⟨rfl, h8⟩
 clear h7
 go_wp2_with fail
 refine (lift_calls h8 (E30.out _)).mono ?_
 rintro e X9 ⟨rfl, h9⟩
 clear h8
 go_wp2_with fail
 refine (lift_calls h9 (E31.out _)).mono ?_
 rintro e X10 ⟨rfl, h10⟩
 clear h9
 go_wp2_with fail
 refine (lift_calls h10 (E32.out _)).mono ?_
 rintro e X11 ⟨rfl, h11⟩
 clear h10
 go_wp2_with fail
 refine (lift_calls h11 (E40.out _)).mono ?_
 rintro e X12 ⟨rfl, h12⟩
 clear h11
 go_wp2_with fail
 refine (lift_calls h12 (E41.out _)).mono ?_
 rintro e X13 ⟨rfl, h13⟩
 clear h12
 go_wp2_with fail
 refine (lift_calls h13 (E42.out _)).mono ?_
 rintro e X14 ⟨rfl, h14⟩
 clear h13
 go_wp2_with fail
 refine (lift_calls h14 (Ej.out _)).mono ?_
 rintro e X15 ⟨rfl, h15⟩
 clear h14
 have hs := h15.size
 rw [World.heap_drewN] at hs
 have rZ : X15.heap[w.heap.size + 1]? = some (.cells #[.int .u64 0, .int .u64 0, .int .u64 0, .int .u64 0, .int .u64 0] 43 (0, 0)) := (h15.block _ (by simp)).trans (by rw [World.heap_drewN, hp2_1])
 have hbw : Below w.heap.size w X15 := (below_drN (((Below.refl _ _).alloc (Nat.le_refl _) _).alloc (by simp) _) _).trans (h15.mono (by simp; omega))
 clear h15 hs
 go_wp2_with (first | (refine wpList_store_row rfl 43 _ _ rfl (w.heap.size + 1) #[.int .u64 (jn 0 (a0 * a0 + (2 * a1) * (19 * a4) + (2 * a2) * (19 * a3)) ((2 * a0) * a1 + (2 * a2) * (19 * a4) + a3 * (19 * a3)) ((2 * a0) * a2 + a1 * a1 + (2 * a3) * (19 * a4)) ((2 * a0) * a3 + (2 * a1) * a2 + a4 * (19 * a4)) ((2 * a0) * a4 + (2 * a1) * a3 + a2 * a2)), .int .u64 (jn 1 (a0 * a0 + (2 * a1) * (19 * a4) + (2 * a2) * (19 * a3)) ((2 * a0) * a1 + (2 * a2) * (19 * a4) + a3 * (19 * a3)) ((2 * a0) * a2 + a1 * a1 + (2 * a3) * (19 * a4)) ((2 * a0) * a3 + (2 * a1) * a2 + a4 * (19 * a4)) ((2 * a0) * a4 + (2 * a1) * a3 + a2 * a2)), .int .u64 (jn 2 (a0 * a0 + (2 * a1) * (19 * a4) + (2 * a2) * (19 * a3)) ((2 * a0) * a1 + (2 * a2) * (19 * a4) + a3 * (19 * a3)) ((2 * a0) * a2 + a1 * a1 + (2 * a3) * (19 * a4)) ((2 * a0) * a3 + (2 * a1) * a2 + a4 * (19 * a4)) ((2 * a0) * a4 + (2 * a1) * a3 + a2 * a2)), .int .u64 (jn 3 (a0 * a0 + (2 * a1) * (19 * a4) + (2 * a2) * (19 * a3)) ((2 * a0) * a1 + (2 * a2) * (19 * a4) + a3 * (19 * a3)) ((2 * a0) * a2 + a1 * a1 + (2 * a3) * (19 * a4)) ((2 * a0) * a3 + (2 * a1) * a2 + a4 * (19 * a4)) ((2 * a0) * a4 + (2 * a1) * a3 + a2 * a2)), .int .u64 (jn 4 (a0 * a0 + (2 * a1) * (19 * a4) + (2 * a2) * (19 * a3)) ((2 * a0) * a1 + (2 * a2) * (19 * a4) + a3 * (19 * a3)) ((2 * a0) * a2 + a1 * a1 + (2 * a3) * (19 * a4)) ((2 * a0) * a3 + (2 * a1) * a2 + a4 * (19 * a4)) ((2 * a0) * a4 + (2 * a1) * a3 + a2 * a2))] rfl rfl 43 _ rZ (by kernel_rfl) rfl (by kernel_rfl) ?_) | fail)
 exact bodyPost_ret (v := .agg #[.int .u64 (jn 0 (a0 * a0 + (2 * a1) * (19 * a4) + (2 * a2) * (19 * a3)) ((2 * a0) * a1 + (2 * a2) * (19 * a4) + a3 * (19 * a3)) ((2 * a0) * a2 + a1 * a1 + (2 * a3) * (19 * a4)) ((2 * a0) * a3 + (2 * a1) * a2 + a4 * (19 * a4)) ((2 * a0) * a4 + (2 * a1) * a3 + a2 * a2)), .int .u64 (jn 1 (a0 * a0 + (2 * a1) * (19 * a4) + (2 * a2) * (19 * a3)) ((2 * a0) * a1 + (2 * a2) * (19 * a4) + a3 * (19 * a3)) ((2 * a0) * a2 + a1 * a1 + (2 * a3) * (19 * a4)) ((2 * a0) * a3 + (2 * a1) * a2 + a4 * (19 * a4)) ((2 * a0) * a4 + (2 * a1) * a3 + a2 * a2)), .int .u64 (jn 2 (a0 * a0 + (2 * a1) * (19 * a4) + (2 * a2) * (19 * a3)) ((2 * a0) * a1 + (2 * a2) * (19 * a4) + a3 * (19 * a3)) ((2 * a0) * a2 + a1 * a1 + (2 * a3) * (19 * a4)) ((2 * a0) * a3 + (2 * a1) * a2 + a4 * (19 * a4)) ((2 * a0) * a4 + (2 * a1) * a3 + a2 * a2)), .int .u64 (jn 3 (a0 * a0 + (2 * a1) * (19 * a4) + (2 * a2) * (19 * a3)) ((2 * a0) * a1 + (2 * a2) * (19 * a4) + a3 * (19 * a3)) ((2 * a0) * a2 + a1 * a1 + (2 * a3) * (19 * a4)) ((2 * a0) * a3 + (2 * a1) * a2 + a4 * (19 * a4)) ((2 * a0) * a4 + (2 * a1) * a3 + a2 * a2)), .int .u64 (jn 4 (a0 * a0 + (2 * a1) * (19 * a4) + (2 * a2) * (19 * a3)) ((2 * a0) * a1 + (2 * a2) * (19 * a4) + a3 * (19 * a3)) ((2 * a0) * a2 + a1 * a1 + (2 * a3) * (19 * a4)) ((2 * a0) * a3 + (2 * a1) * a2 + a4 * (19 * a4)) ((2 * a0) * a4 + (2 * a1) * a3 + a2 * a2))]) (results_cell_row Tryd.results140 _ _ (w.heap.size + 1) _ #[.int .u64 (jn 0 (a0 * a0 + (2 * a1) * (19 * a4) + (2 * a2) * (19 * a3)) ((2 * a0) * a1 + (2 * a2) * (19 * a4) + a3 * (19 * a3)) ((2 * a0) * a2 + a1 * a1 + (2 * a3) * (19 * a4)) ((2 * a0) * a3 + (2 * a1) * a2 + a4 * (19 * a4)) ((2 * a0) * a4 + (2 * a1) * a3 + a2 * a2)), .int .u64 (jn 1 (a0 * a0 + (2 * a1) * (19 * a4) + (2 * a2) * (19 * a3)) ((2 * a0) * a1 + (2 * a2) * (19 * a4) + a3 * (19 * a3)) ((2 * a0) * a2 + a1 * a1 + (2 * a3) * (19 * a4)) ((2 * a0) * a3 + (2 * a1) * a2 + a4 * (19 * a4)) ((2 * a0) * a4 + (2 * a1) * a3 + a2 * a2)), .int .u64 (jn 2 (a0 * a0 + (2 * a1) * (19 * a4) + (2 * a2) * (19 * a3)) ((2 * a0) * a1 + (2 * a2) * (19 * a4) + a3 * (19 * a3)) ((2 * a0) * a2 + a1 * a1 + (2 * a3) * (19 * a4)) ((2 * a0) * a3 + (2 * a1) * a2 + a4 * (19 * a4)) ((2 * a0) * a4 + (2 * a1) * a3 + a2 * a2)), .int .u64 (jn 3 (a0 * a0 + (2 * a1) * (19 * a4) + (2 * a2) * (19 * a3)) ((2 * a0) * a1 + (2 * a2) * (19 * a4) + a3 * (19 * a3)) ((2 * a0) * a2 + a1 * a1 + (2 * a3) * (19 * a4)) ((2 * a0) * a3 + (2 * a1) * a2 + a4 * (19 * a4)) ((2 * a0) * a4 + (2 * a1) * a3 + a2 * a2)), .int .u64 (jn 4 (a0 * a0 + (2 * a1) * (19 * a4) + (2 * a2) * (19 * a3)) ((2 * a0) * a1 + (2 * a2) * (19 * a4) + a3 * (19 * a3)) ((2 * a0) * a2 + a1 * a1 + (2 * a3) * (19 * a4)) ((2 * a0) * a3 + (2 * a1) * a2 + a4 * (19 * a4)) ((2 * a0) * a4 + (2 * a1) * a3 + a2 * a2))] _ _ rfl (setRow_heap _ _ _ _ _ _ rZ) Tryd.underlying43 rfl (by kernel_rfl)) rfl ⟨rfl, below_setRow hbw (by omega) _⟩
end Go.Proofs.YtajaiiidafkijaaDoor
namespace Go.Proofs.YtajaiiidafkijaaDoor
set_option maxRecDepth 100000
open Go.RowKit Go.Sort
attribute [local go_sem] setCell_drewN alloc_drewN
end Go.Proofs.YtajaiiidafkijaaDoor
namespace Go.Proofs.YtajaiiidafkijaaDoor
set_option maxRecDepth 100000
open Go.RowKit Go.Sort
attribute [local go_sem] setCell_drewN alloc_drewN
end Go.Proofs.YtajaiiidafkijaaDoor
namespace Go.Proofs.YtajaiiidafkijaaDoor
set_option maxRecDepth 100000
open Go.RowKit Go.Sort
attribute [local go_sem] setCell_drewN alloc_drewN
end Go.Proofs.YtajaiiidafkijaaDoor
namespace Go.Proofs.YtajaiiidafkijaaDoor
set_option maxRecDepth 100000
open Go.RowKit Go.Sort
attribute [local go_sem] setCell_drewN alloc_drewN
structure Row (g : Nat → Int) (D : Array Value) : Prop where
 size : D.size = 16
 cell : ∀ i, i < 16 → D[i]? = some (.int .u64 (g i))
theorem Row.lit {g : Nat → Int} {D : Array Value} (h : Row g D) : D = #[.int .u64 (g 0), .int .u64 (g 1), .int .u64 (g 2), .int .u64 (g 3), .int .u64 (g 4), .int .u64 (g 5), .int .u64 (g 6), .int .u64 (g 7), .int .u64 (g 8), .int .u64 (g 9), .int .u64 (g 10), .int .u64 (g 11), .int .u64 (g 12), .int .u64 (g 13), .int .u64 (g 14), .int .u64 (g 15)] := by
 apply Array.ext_getElem?
 intro i
 by_cases hi : i < 16
 ·rw [h.cell i hi]
  rcases (by omega : i = 0 ∨ i = 1 ∨ i = 2 ∨ i = 3 ∨ i = 4 ∨ i = 5 ∨ i = 6 ∨ i = 7 ∨ i = 8 ∨ i = 9 ∨ i = 10 ∨ i = 11 ∨ i = 12 ∨ i = 13 ∨ i = 14 ∨ i = 15) with rfl | rfl | rfl | rfl | rfl | rfl | rfl | rfl | rfl | rfl | rfl | rfl | rfl | rfl | rfl | rfl <;> rfl
 ·rw [Array.getElem?_eq_none (by rw [h.size]; omega), Array.getElem?_eq_none (by simp; omega)]
theorem Row.zero : Row (fun _ => 0) #[.int .u64 0, .int .u64 0, .int .u64 0, .int .u64 0, .int .u64 0, .int .u64 0, .int .u64 0, .int .u64 0, .int .u64 0, .int .u64 0, .int .u64 0, .int .u64 0, .int .u64 0, .int .u64 0, .int .u64 0, .int .u64 0] := by
 refine ⟨rfl, fun i hi => ?_⟩
 rcases (by omega : i = 0 ∨ i = 1 ∨ i = 2 ∨ i = 3 ∨ i = 4 ∨ i = 5 ∨ i = 6 ∨ i = 7 ∨ i = 8 ∨ i = 9 ∨ i = 10 ∨ i = 11 ∨ i = 12 ∨ i = 13 ∨ i = 14 ∨ i = 15) with rfl | rfl | rfl | rfl | rfl | rfl | rfl | rfl | rfl | rfl | rfl | rfl | rfl | rfl | rfl | rfl <;> rfl
theorem Row.set {g : Nat → Int} {D : Array Value} (h : Row g D) (k : Nat) (v : Int) (hk : k < 16) : Row (upd g k v) (D.setIfInBounds k (.int .u64 (g k + v))) := by
 refine ⟨by simp [h.size], fun i hi => ?_⟩
 rw [Array.getElem?_setIfInBounds]
 by_cases e : k = i
 ·subst e; rw [if_pos rfl, if_pos (by rw [h.size]; exact hk)]; simp [upd]
 ·rw [if_neg e, h.cell i hi]; simp only [upd]; rw [if_neg (fun h => e h.symm)]
end Go.Proofs.YtajaiiidafkijaaDoor
namespace Go.Proofs.YtajaiiidafkijaaDoor
set_option maxRecDepth 100000
open Go.RowKit Go.Sort
attribute [local go_sem] setCell_drewN alloc_drewN
set_option maxHeartbeats 1000000 in
theorem small_any (k : Int) (h0 : 0 ≤ k) (h1 : k < 18446744073709551616) (w : World) :
 Calls Tryd.prog 79 #[.int .u64 k] w fun e w' => e = .returned (.agg #[.int .u64 (k % 2251799813685248), .int .u64 (k / 2251799813685248), .int .u64 0, .int .u64 0, .int .u64 0]) ∧ Below w.heap.size w w' := by
 go_enter Tryd.func79, Tryd.ntmps79
 go_wp2
 rw [and51 k h0 h1]
 exact bodyPost_ret (v := .agg #[.int .u64 (k % 2251799813685248), .int .u64 (k / 2251799813685248), .int .u64 0, .int .u64 0, .int .u64 0]) (results_cell_row Tryd.results79 _ _ w.heap.size _ #[.int .u64 (k % 2251799813685248), .int .u64 (k / 2251799813685248), .int .u64 0, .int .u64 0, .int .u64 0] _ _ rfl (hp1_0 w _) Tryd.underlying43 rfl (by kernel_rfl)) rfl ⟨rfl, (Below.refl _ _).alloc (Nat.le_refl _) _⟩
theorem small_val (k : Int) : v5 (k % 2251799813685248) (k / 2251799813685248) 0 0 0 = k := by unfold v5; omega
end Go.Proofs.YtajaiiidafkijaaDoor
namespace Go.Proofs.YtajaiiidafkijaaDoor
set_option maxRecDepth 100000
open Go.RowKit Go.Sort
attribute [local go_sem] setCell_drewN alloc_drewN
theorem valB_byt (m : Int) (h0 : 0 ≤ m) (h1 : m < 115792089237316195423570985008687907853269984665640564039457584007913129639936) : valB [byt (m) 0, byt (m) 1, byt (m) 2, byt (m) 3, byt (m) 4, byt (m) 5, byt (m) 6, byt (m) 7, byt (m) 8, byt (m) 9, byt (m) 10, byt (m) 11, byt (m) 12, byt (m) 13, byt (m) 14, byt (m) 15, byt (m) 16, byt (m) 17, byt (m) 18, byt (m) 19, byt (m) 20, byt (m) 21, byt (m) 22, byt (m) 23, byt (m) 24, byt (m) 25, byt (m) 26, byt (m) 27, byt (m) 28, byt (m) 29, byt (m) 30, byt (m) 31] = m := by
 simp only [valB, byt, Int.pow_zero, Int.pow_succ, Int.one_mul, Int.ediv_one]
 omega
theorem byts_inj (m k : Int) (h0 : 0 ≤ m) (h1 : m < 115792089237316195423570985008687907853269984665640564039457584007913129639936) (h2 : 0 ≤ k) (h3 : k < 115792089237316195423570985008687907853269984665640564039457584007913129639936) : ([byt (m) 0, byt (m) 1, byt (m) 2, byt (m) 3, byt (m) 4, byt (m) 5, byt (m) 6, byt (m) 7, byt (m) 8, byt (m) 9, byt (m) 10, byt (m) 11, byt (m) 12, byt (m) 13, byt (m) 14, byt (m) 15, byt (m) 16, byt (m) 17, byt (m) 18, byt (m) 19, byt (m) 20, byt (m) 21, byt (m) 22, byt (m) 23, byt (m) 24, byt (m) 25, byt (m) 26, byt (m) 27, byt (m) 28, byt (m) 29, byt (m) 30, byt (m) 31] = [byt (k) 0, byt (k) 1, byt (k) 2, byt (k) 3, byt (k) 4, byt (k) 5, byt (k) 6, byt (k) 7, byt (k) 8, byt (k) 9, byt (k) 10, byt (k) 11, byt (k) 12, byt (k) 13, byt (k) 14, byt (k) 15, byt (k) 16, byt (k) 17, byt (k) 18, byt (k) 19, byt (k) 20, byt (k) 21, byt (k) 22, byt (k) 23, byt (k) 24, byt (k) 25, byt (k) 26, byt (k) 27, byt (k) 28, byt (k) 29, byt (k) 30, byt (k) 31]) ↔ m = k := by
 constructor
 ·intro h
  have e := congrArg valB h
  rw [valB_byt m h0 h1, valB_byt k h2 h3] at e
  exact e
 ·rintro rfl; rfl
theorem prm_bd (x : Int) : 0 ≤ x % prm ∧ x % prm < 115792089237316195423570985008687907853269984665640564039457584007913129639936 := by unfold prm; omega
theorem keys_eq (m k : Int) (h0 : 0 ≤ m) (h1 : m < 115792089237316195423570985008687907853269984665640564039457584007913129639936) (h2 : 0 ≤ k) (h3 : k < 115792089237316195423570985008687907853269984665640564039457584007913129639936) (W : World) : (Op.equalIn 10000 25 (.agg #[.int .u8 (byt (m) 0), .int .u8 (byt (m) 1), .int .u8 (byt (m) 2), .int .u8 (byt (m) 3), .int .u8 (byt (m) 4), .int .u8 (byt (m) 5), .int .u8 (byt (m) 6), .int .u8 (byt (m) 7), .int .u8 (byt (m) 8), .int .u8 (byt (m) 9), .int .u8 (byt (m) 10), .int .u8 (byt (m) 11), .int .u8 (byt (m) 12), .int .u8 (byt (m) 13), .int .u8 (byt (m) 14), .int .u8 (byt (m) 15), .int .u8 (byt (m) 16), .int .u8 (byt (m) 17), .int .u8 (byt (m) 18), .int .u8 (byt (m) 19), .int .u8 (byt (m) 20), .int .u8 (byt (m) 21), .int .u8 (byt (m) 22), .int .u8 (byt (m) 23), .int .u8 (byt (m) 24), .int .u8 (byt (m) 25), .int .u8 (byt (m) 26), .int .u8 (byt (m) 27), .int .u8 (byt (m) 28), .int .u8 (byt (m) 29), .int .u8 (byt (m) 30), .int .u8 (byt (m) 31)]) (.agg #[.int .u8 (byt (k) 0), .int .u8 (byt (k) 1), .int .u8 (byt (k) 2), .int .u8 (byt (k) 3), .int .u8 (byt (k) 4), .int .u8 (byt (k) 5), .int .u8 (byt (k) 6), .int .u8 (byt (k) 7), .int .u8 (byt (k) 8), .int .u8 (byt (k) 9), .int .u8 (byt (k) 10), .int .u8 (byt (k) 11), .int .u8 (byt (k) 12), .int .u8 (byt (k) 13), .int .u8 (byt (k) 14), .int .u8 (byt (k) 15), .int .u8 (byt (k) 16), .int .u8 (byt (k) 17), .int .u8 (byt (k) 18), .int .u8 (byt (k) 19), .int .u8 (byt (k) 20), .int .u8 (byt (k) 21), .int .u8 (byt (k) 22), .int .u8 (byt (k) 23), .int .u8 (byt (k) 24), .int .u8 (byt (k) 25), .int .u8 (byt (k) 26), .int .u8 (byt (k) 27), .int .u8 (byt (k) 28), .int .u8 (byt (k) 29), .int .u8 (byt (k) 30), .int .u8 (byt (k) 31)])).run Tryd.prog W = .ok (decide (m = k)) W := by
 rw [keys_equal]
 exact congrArg (fun b => Result.ok b W) (decide_eq_decide.2 (byts_inj m k h0 h1 h2 h3))
set_option maxHeartbeats 1000000 in
theorem equal_any (a0 a1 a2 a3 a4 b0 b1 b2 b3 b4 : Int) (la0 : 0 ≤ a0) (ua0 : a0 < 4503599627370496) (la1 : 0 ≤ a1) (ua1 : a1 < 4503599627370496) (la2 : 0 ≤ a2) (ua2 : a2 < 4503599627370496) (la3 : 0 ≤ a3) (ua3 : a3 < 4503599627370496) (la4 : 0 ≤ a4) (ua4 : a4 < 4503599627370496) (lb0 : 0 ≤ b0) (ub0 : b0 < 4503599627370496) (lb1 : 0 ≤ b1) (ub1 : b1 < 4503599627370496) (lb2 : 0 ≤ b2) (ub2 : b2 < 4503599627370496) (lb3 : 0 ≤ b3) (ub3 : b3 < 4503599627370496) (lb4 : 0 ≤ b4) (ub4 : b4 < 4503599627370496) (w : World) :
 Calls Tryd.prog 122 #[.agg #[.int .u64 a0, .int .u64 a1, .int .u64 a2, .int .u64 a3, .int .u64 a4], .agg #[.int .u64 b0, .int .u64 b1, .int .u64 b2, .int .u64 b3, .int .u64 b4]] w fun e w' => e = .returned (.bool (decide (v5 a0 a1 a2 a3 a4 % prm = v5 b0 b1 b2 b3 b4 % prm))) ∧ Below w.heap.size w w' := by
 have c1 := fun W => bytes_any a0 a1 a2 a3 a4 la0 ua0 la1 ua1 la2 ua2 la3 ua3 la4 ua4 W
 have c2 := fun W => bytes_any b0 b1 b2 b3 b4 lb0 ub0 lb1 ub1 lb2 ub2 lb3 ub3 lb4 ub4 W
 have m0 := prm_bd (v5 a0 a1 a2 a3 a4); have k0 := prm_bd (v5 b0 b1 b2 b3 b4)
 generalize v5 a0 a1 a2 a3 a4 % prm = m at *
 generalize v5 b0 b1 b2 b3 b4 % prm = k at *
 have heq := fun W => keys_eq m k m0.1 m0.2 k0.1 k0.2 W
 have C1 := hide c1; have C2 := hide c2
 clear c1 c2 m0 k0 la0 ua0 la1 ua1 la2 ua2 la3 ua3 la4 ua4 lb0 ub0 lb1 ub1 lb2 ub2 lb3 ub3 lb4 ub4
 have h2 : Hid (∀ W, (∃ p : Regrown, W = grow (redrawn ((w.alloc (.cells #[.int .u64 a0, .int .u64 a1, .int .u64 a2, .int .u64 a3, .int .u64 a4] 43)).alloc (.cells #[.int .u64 b0, .int .u64 b1, .int .u64 b2, .int .u64 b3, .int .u64 b4] 43)) p.d) p.os) → W.heap[w.heap.size]? = some (.cells #[.int .u64 a0, .int .u64 a1, .int .u64 a2, .int .u64 a3, .int .u64 a4] 43 (0, 0))) := by
  rintro _ ⟨p, rfl⟩; exact ((below_regrown _ p.d p.os).block _ (by simp; omega)).trans (hp2_0 w _ _)
 have h3 : Hid (∀ W, (∃ p : Regrown, W = grow (redrawn ((w.alloc (.cells #[.int .u64 a0, .int .u64 a1, .int .u64 a2, .int .u64 a3, .int .u64 a4] 43)).alloc (.cells #[.int .u64 b0, .int .u64 b1, .int .u64 b2, .int .u64 b3, .int .u64 b4] 43)) p.d) p.os) → W.heap[w.heap.size + 1]? = some (.cells #[.int .u64 b0, .int .u64 b1, .int .u64 b2, .int .u64 b3, .int .u64 b4] 43 (0, 0))) := by
  rintro _ ⟨p, rfl⟩; exact ((below_regrown _ p.d p.os).block _ (by simp)).trans (hp2_1 w _ _)
 go_enter Tryd.func122, Tryd.ntmps122
 go_wp2
 refine wp_region_quiet_below (by kernel_rfl) (by kernel_rfl) ?_
 refine wpQuiet_load_row rfl 43 _ rfl w.heap.size rfl 43 #[.int .u64 a0, .int .u64 a1, .int .u64 a2, .int .u64 a3, .int .u64 a4] (0, 0) _ h2.out Tryd.underlying43 rfl (by kernel_rfl) ?_
 simp only [Act.put, ZPd, ZPe, ZPf]
 go_big_quiet_step (exact Calls.regrown_of (C1.out _))
 refine wpQuiet_load_row rfl 43 _ rfl (w.heap.size + 1) rfl 43 #[.int .u64 b0, .int .u64 b1, .int .u64 b2, .int .u64 b3, .int .u64 b4] (0, 0) _ h3.out Tryd.underlying43 rfl (by kernel_rfl) ?_
 simp only [Act.put, ZPd, ZPe, ZPf]
 go_big_quiet_step (exact Calls.regrown_of (C2.out _))
 repeat (go_big_quiet_step (fail))
 refine wpQuiet_nil ?_
 rintro _ ⟨p, rfl⟩
 have hb := below_regrown ((w.alloc (.cells #[.int .u64 a0, .int .u64 a1, .int .u64 a2, .int .u64 a3, .int .u64 a4] 43)).alloc (.cells #[.int .u64 b0, .int .u64 b1, .int .u64 b2, .int .u64 b3, .int .u64 b4] 43)) p.d p.os
 generalize grow (redrawn ((w.alloc (.cells #[.int .u64 a0, .int .u64 a1, .int .u64 a2, .int .u64 a3, .int .u64 a4] 43)).alloc (.cells #[.int .u64 b0, .int .u64 b1, .int .u64 b2, .int .u64 b3, .int .u64 b4] 43)) p.d) p.os = W1 at *
 go_wp2
 go_ret
 exact ⟨rfl, (((Below.refl _ _).alloc (Nat.le_refl _) _).alloc (by simp) _).trans (hb.mono (by simp; omega))⟩
set_option maxHeartbeats 1000000 in
theorem isZero_any (a0 a1 a2 a3 a4 : Int) (la0 : 0 ≤ a0) (ua0 : a0 < 4503599627370496) (la1 : 0 ≤ a1) (ua1 : a1 < 4503599627370496) (la2 : 0 ≤ a2) (ua2 : a2 < 4503599627370496) (la3 : 0 ≤ a3) (ua3 : a3 < 4503599627370496) (la4 : 0 ≤ a4) (ua4 : a4 < 4503599627370496) (w : World) :
 Calls Tryd.prog 81 #[.agg #[.int .u64 a0, .int .u64 a1, .int .u64 a2, .int .u64 a3, .int .u64 a4]] w fun e w' => e = .returned (.bool (decide (v5 a0 a1 a2 a3 a4 % prm = 0))) ∧ Below w.heap.size w w' := by
 have c1 := fun W => bytes_any a0 a1 a2 a3 a4 la0 ua0 la1 ua1 la2 ua2 la3 ua3 la4 ua4 W
 have m0 := prm_bd (v5 a0 a1 a2 a3 a4)
 generalize v5 a0 a1 a2 a3 a4 % prm = m at *
 have hz : ∀ W, (Op.equalIn 10000 25 (.agg #[.int .u8 (byt (m) 0), .int .u8 (byt (m) 1), .int .u8 (byt (m) 2), .int .u8 (byt (m) 3), .int .u8 (byt (m) 4), .int .u8 (byt (m) 5), .int .u8 (byt (m) 6), .int .u8 (byt (m) 7), .int .u8 (byt (m) 8), .int .u8 (byt (m) 9), .int .u8 (byt (m) 10), .int .u8 (byt (m) 11), .int .u8 (byt (m) 12), .int .u8 (byt (m) 13), .int .u8 (byt (m) 14), .int .u8 (byt (m) 15), .int .u8 (byt (m) 16), .int .u8 (byt (m) 17), .int .u8 (byt (m) 18), .int .u8 (byt (m) 19), .int .u8 (byt (m) 20), .int .u8 (byt (m) 21), .int .u8 (byt (m) 22), .int .u8 (byt (m) 23), .int .u8 (byt (m) 24), .int .u8 (byt (m) 25), .int .u8 (byt (m) 26), .int .u8 (byt (m) 27), .int .u8 (byt (m) 28), .int .u8 (byt (m) 29), .int .u8 (byt (m) 30), .int .u8 (byt (m) 31)]) (.agg #[.int .u8 0, .int .u8 0, .int .u8 0, .int .u8 0, .int .u8 0, .int .u8 0, .int .u8 0, .int .u8 0, .int .u8 0, .int .u8 0, .int .u8 0, .int .u8 0, .int .u8 0, .int .u8 0, .int .u8 0, .int .u8 0, .int .u8 0, .int .u8 0, .int .u8 0, .int .u8 0, .int .u8 0, .int .u8 0, .int .u8 0, .int .u8 0, .int .u8 0, .int .u8 0, .int .u8 0, .int .u8 0, .int .u8 0, .int .u8 0, .int .u8 0, .int .u8 0])).run Tryd.prog W = .ok (decide (m = 0)) W := fun W => by
  have := keys_eq m 0 m0.1 m0.2 (by decide) (by decide) W
  simpa [byt] using this
 have C1 := hide c1
 clear c1 m0 la0 ua0 la1 ua1 la2 ua2 la3 ua3 la4 ua4
 go_enter Tryd.func81, Tryd.ntmps81
 go_wp2_with (first | (refine wpList_load_row rfl 43 _ rfl w.heap.size rfl 43 #[.int .u64 a0, .int .u64 a1, .int .u64 a2, .int .u64 a3, .int .u64 a4] (0, 0) _ (hp1_0 w _) Tryd.underlying43 rfl (by kernel_rfl) ?_) | fail)
 refine (C1.out _).mono ?_
 rintro e w1 ⟨rfl, hb⟩
 go_wp2
 go_ret
 exact ⟨rfl, ((Below.refl _ _).alloc (Nat.le_refl _) _).trans (hb.mono (by simp))⟩
end Go.Proofs.YtajaiiidafkijaaDoor
namespace Go.Proofs.YtajaiiidafkijaaDoor
set_option maxRecDepth 100000
open Go.RowKit Go.Sort
attribute [local go_sem] setCell_drewN alloc_drewN
def gl (l : List Int) (i : Nat) : Int := l.getD i 0
structure Row8 (g : Nat → Int) (D : Array Value) : Prop where
 cell : ∀ i, i < 32 → D[i]? = some (.int .u8 (g i))
theorem Row8.lit (b0 b1 b2 b3 b4 b5 b6 b7 b8 b9 b10 b11 b12 b13 b14 b15 b16 b17 b18 b19 b20 b21 b22 b23 b24 b25 b26 b27 b28 b29 b30 b31 : Int) : Row8 (gl [b0, b1, b2, b3, b4, b5, b6, b7, b8, b9, b10, b11, b12, b13, b14, b15, b16, b17, b18, b19, b20, b21, b22, b23, b24, b25, b26, b27, b28, b29, b30, b31]) #[.int .u8 b0, .int .u8 b1, .int .u8 b2, .int .u8 b3, .int .u8 b4, .int .u8 b5, .int .u8 b6, .int .u8 b7, .int .u8 b8, .int .u8 b9, .int .u8 b10, .int .u8 b11, .int .u8 b12, .int .u8 b13, .int .u8 b14, .int .u8 b15, .int .u8 b16, .int .u8 b17, .int .u8 b18, .int .u8 b19, .int .u8 b20, .int .u8 b21, .int .u8 b22, .int .u8 b23, .int .u8 b24, .int .u8 b25, .int .u8 b26, .int .u8 b27, .int .u8 b28, .int .u8 b29, .int .u8 b30, .int .u8 b31] := by
 refine ⟨fun i hi => ?_⟩
 rcases (by omega : i = 0 ∨ i = 1 ∨ i = 2 ∨ i = 3 ∨ i = 4 ∨ i = 5 ∨ i = 6 ∨ i = 7 ∨ i = 8 ∨ i = 9 ∨ i = 10 ∨ i = 11 ∨ i = 12 ∨ i = 13 ∨ i = 14 ∨ i = 15 ∨ i = 16 ∨ i = 17 ∨ i = 18 ∨ i = 19 ∨ i = 20 ∨ i = 21 ∨ i = 22 ∨ i = 23 ∨ i = 24 ∨ i = 25 ∨ i = 26 ∨ i = 27 ∨ i = 28 ∨ i = 29 ∨ i = 30 ∨ i = 31) with rfl | rfl | rfl | rfl | rfl | rfl | rfl | rfl | rfl | rfl | rfl | rfl | rfl | rfl | rfl | rfl | rfl | rfl | rfl | rfl | rfl | rfl | rfl | rfl | rfl | rfl | rfl | rfl | rfl | rfl | rfl | rfl <;> rfl
end Go.Proofs.YtajaiiidafkijaaDoor
namespace Go.Proofs.YtajaiiidafkijaaDoor
set_option maxRecDepth 100000
open Go.RowKit Go.Sort
attribute [local go_sem] setCell_drewN alloc_drewN
end Go.Proofs.YtajaiiidafkijaaDoor

