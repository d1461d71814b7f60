import Derived.Test.YtcjdglckbkdheaaDoorProg
import Derived.WalkKit
import Derived.WalkSpells
import Derived.WalkLawsBesides
import Derived.Lib.QuietBelow
import Derived.BigQuiet
import Derived.Test.YtcjdglckbkdheaaDoorKa
import Derived.Test.YtcjdglckbkdheaaDoorKeq
import Derived.Test.YtcjdglckbkdheaaDoorFa
import Derived.Test.YtcjdglckbkdheaaDoorFc
import Derived.Test.YtcjdglckbkdheaaDoorFf
import Derived.Test.YtcjdglckbkdheaaDoorGb
import Derived.Test.YtcjdglckbkdheaaDoorGc
namespace Go.Proofs.YtcjdglckbkdheaaDoor
open Go.RowKit Go.Sort
attribute [local go_sem] setCell_drewN alloc_drewN


theorem small_one (w : World) : Calls Tryd.prog 17 #[.int .u64 1] w fun e w' => e = .returned (.agg #[.int .u64 1, .int .u64 0, .int .u64 0, .int .u64 0, .int .u64 0]) ∧ Below w.heap.size w w' := by
  have h := small_any 1 (by decide) (by decide) w
  have e1 : (1 : Int) % 2251799813685248 = 1 := by decide
  have e2 : (1 : Int) / 2251799813685248 = 0 := by decide
  rw [e1, e2] at h
  exact h
theorem one_mod : v5 1 0 0 0 0 % prm = 1 := by decide
theorem none_mod : v5 0 0 0 0 0 % prm = 0 := by decide

set_option maxHeartbeats 2000000 in
theorem lives_any (b0 b1 b2 b3 b4 b5 b6 b7 b8 b9 b10 b11 b12 b13 b14 b15 b16 b17 b18 b19 b20 b21 b22 b23 b24 b25 b26 b27 b28 b29 b30 b31 : Int) (lo0 : 0 ≤ b0) (hi0 : b0 < 256) (lo1 : 0 ≤ b1) (hi1 : b1 < 256) (lo2 : 0 ≤ b2) (hi2 : b2 < 256) (lo3 : 0 ≤ b3) (hi3 : b3 < 256) (lo4 : 0 ≤ b4) (hi4 : b4 < 256) (lo5 : 0 ≤ b5) (hi5 : b5 < 256) (lo6 : 0 ≤ b6) (hi6 : b6 < 256) (lo7 : 0 ≤ b7) (hi7 : b7 < 256) (lo8 : 0 ≤ b8) (hi8 : b8 < 256) (lo9 : 0 ≤ b9) (hi9 : b9 < 256) (lo10 : 0 ≤ b10) (hi10 : b10 < 256) (lo11 : 0 ≤ b11) (hi11 : b11 < 256) (lo12 : 0 ≤ b12) (hi12 : b12 < 256) (lo13 : 0 ≤ b13) (hi13 : b13 < 256) (lo14 : 0 ≤ b14) (hi14 : b14 < 256) (lo15 : 0 ≤ b15) (hi15 : b15 < 256) (lo16 : 0 ≤ b16) (hi16 : b16 < 256) (lo17 : 0 ≤ b17) (hi17 : b17 < 256) (lo18 : 0 ≤ b18) (hi18 : b18 < 256) (lo19 : 0 ≤ b19) (hi19 : b19 < 256) (lo20 : 0 ≤ b20) (hi20 : b20 < 256) (lo21 : 0 ≤ b21) (hi21 : b21 < 256) (lo22 : 0 ≤ b22) (hi22 : b22 < 256) (lo23 : 0 ≤ b23) (hi23 : b23 < 256) (lo24 : 0 ≤ b24) (hi24 : b24 < 256) (lo25 : 0 ≤ b25) (hi25 : b25 < 256) (lo26 : 0 ≤ b26) (hi26 : b26 < 256) (lo27 : 0 ≤ b27) (hi27 : b27 < 256) (lo28 : 0 ≤ b28) (hi28 : b28 < 256) (lo29 : 0 ≤ b29) (hi29 : b29 < 256) (lo30 : 0 ≤ b30) (hi30 : b30 < 256) (lo31 : 0 ≤ b31) (hi31 : b31 < 256) (w : World) :
    Calls Tryd.prog 35 #[.agg #[.int .u8 b0, .int .u8 b1, .int .u8 b2, .int .u8 b3, .int .u8 b4, .int .u8 b5, .int .u8 b6, .int .u8 b7, .int .u8 b8, .int .u8 b9, .int .u8 b10, .int .u8 b11, .int .u8 b12, .int .u8 b13, .int .u8 b14, .int .u8 b15, .int .u8 b16, .int .u8 b17, .int .u8 b18, .int .u8 b19, .int .u8 b20, .int .u8 b21, .int .u8 b22, .int .u8 b23, .int .u8 b24, .int .u8 b25, .int .u8 b26, .int .u8 b27, .int .u8 b28, .int .u8 b29, .int .u8 b30, .int .u8 b31]] w fun e w' => e = .returned (.bool true) ∧ Below w.heap.size w w' := by
  have c1 := fun W => from_any b0 b1 b2 b3 b4 b5 b6 b7 b8 b9 b10 b11 b12 b13 b14 b15 b16 b17 b18 b19 b20 b21 b22 b23 b24 b25 b26 b27 b28 b29 b30 b31 lo0 hi0 lo1 hi1 lo2 hi2 lo3 hi3 lo4 hi4 lo5 hi5 lo6 hi6 lo7 hi7 lo8 hi8 lo9 hi9 lo10 hi10 lo11 hi11 lo12 hi12 lo13 hi13 lo14 hi14 lo15 hi15 lo16 hi16 lo17 hi17 lo18 hi18 lo19 hi19 lo20 hi20 lo21 hi21 lo22 hi22 lo23 hi23 lo24 hi24 lo25 hi25 lo26 hi26 lo27 hi27 lo28 hi28 lo29 hi29 lo30 hi30 lo31 hi31 W
  have c2 := fun W => bytes_any (lb (kv b0 b1 b2 b3 b4 b5 b6 b7 b8 b9 b10 b11 b12 b13 b14 b15 b16 b17 b18 b19 b20 b21 b22 b23 b24 b25 b26 b27 b28 b29 b30 b31) 0) (lb (kv b0 b1 b2 b3 b4 b5 b6 b7 b8 b9 b10 b11 b12 b13 b14 b15 b16 b17 b18 b19 b20 b21 b22 b23 b24 b25 b26 b27 b28 b29 b30 b31) 1) (lb (kv b0 b1 b2 b3 b4 b5 b6 b7 b8 b9 b10 b11 b12 b13 b14 b15 b16 b17 b18 b19 b20 b21 b22 b23 b24 b25 b26 b27 b28 b29 b30 b31) 2) (lb (kv b0 b1 b2 b3 b4 b5 b6 b7 b8 b9 b10 b11 b12 b13 b14 b15 b16 b17 b18 b19 b20 b21 b22 b23 b24 b25 b26 b27 b28 b29 b30 b31) 3) (lb (kv b0 b1 b2 b3 b4 b5 b6 b7 b8 b9 b10 b11 b12 b13 b14 b15 b16 b17 b18 b19 b20 b21 b22 b23 b24 b25 b26 b27 b28 b29 b30 b31) 4) (lb_bd (kv b0 b1 b2 b3 b4 b5 b6 b7 b8 b9 b10 b11 b12 b13 b14 b15 b16 b17 b18 b19 b20 b21 b22 b23 b24 b25 b26 b27 b28 b29 b30 b31) 0).1 (Int.lt_trans (lb_bd (kv b0 b1 b2 b3 b4 b5 b6 b7 b8 b9 b10 b11 b12 b13 b14 b15 b16 b17 b18 b19 b20 b21 b22 b23 b24 b25 b26 b27 b28 b29 b30 b31) 0).2 (by decide)) (lb_bd (kv b0 b1 b2 b3 b4 b5 b6 b7 b8 b9 b10 b11 b12 b13 b14 b15 b16 b17 b18 b19 b20 b21 b22 b23 b24 b25 b26 b27 b28 b29 b30 b31) 1).1 (Int.lt_trans (lb_bd (kv b0 b1 b2 b3 b4 b5 b6 b7 b8 b9 b10 b11 b12 b13 b14 b15 b16 b17 b18 b19 b20 b21 b22 b23 b24 b25 b26 b27 b28 b29 b30 b31) 1).2 (by decide)) (lb_bd (kv b0 b1 b2 b3 b4 b5 b6 b7 b8 b9 b10 b11 b12 b13 b14 b15 b16 b17 b18 b19 b20 b21 b22 b23 b24 b25 b26 b27 b28 b29 b30 b31) 2).1 (Int.lt_trans (lb_bd (kv b0 b1 b2 b3 b4 b5 b6 b7 b8 b9 b10 b11 b12 b13 b14 b15 b16 b17 b18 b19 b20 b21 b22 b23 b24 b25 b26 b27 b28 b29 b30 b31) 2).2 (by decide)) (lb_bd (kv b0 b1 b2 b3 b4 b5 b6 b7 b8 b9 b10 b11 b12 b13 b14 b15 b16 b17 b18 b19 b20 b21 b22 b23 b24 b25 b26 b27 b28 b29 b30 b31) 3).1 (Int.lt_trans (lb_bd (kv b0 b1 b2 b3 b4 b5 b6 b7 b8 b9 b10 b11 b12 b13 b14 b15 b16 b17 b18 b19 b20 b21 b22 b23 b24 b25 b26 b27 b28 b29 b30 b31) 3).2 (by decide)) (lb_bd (kv b0 b1 b2 b3 b4 b5 b6 b7 b8 b9 b10 b11 b12 b13 b14 b15 b16 b17 b18 b19 b20 b21 b22 b23 b24 b25 b26 b27 b28 b29 b30 b31) 4).1 (Int.lt_trans (lb_bd (kv b0 b1 b2 b3 b4 b5 b6 b7 b8 b9 b10 b11 b12 b13 b14 b15 b16 b17 b18 b19 b20 b21 b22 b23 b24 b25 b26 b27 b28 b29 b30 b31) 4).2 (by decide)) W
  simp only [v5_lb_mod] at c2
  have c3 := fun W => below_row b0 b1 b2 b3 b4 b5 b6 b7 b8 b9 b10 b11 b12 b13 b14 b15 b16 b17 b18 b19 b20 b21 b22 b23 b24 b25 b26 b27 b28 b29 b30 b31 lo0 hi0 lo1 hi1 lo2 hi2 lo3 hi3 lo4 hi4 lo5 hi5 lo6 hi6 lo7 hi7 lo8 hi8 lo9 hi9 lo10 hi10 lo11 hi11 lo12 hi12 lo13 hi13 lo14 hi14 lo15 hi15 lo16 hi16 lo17 hi17 lo18 hi18 lo19 hi19 lo20 hi20 lo21 hi21 lo22 hi22 lo23 hi23 lo24 hi24 lo25 hi25 lo26 hi26 lo27 hi27 lo28 hi28 lo29 hi29 lo30 hi30 lo31 hi31 W
  generalize kv b0 b1 b2 b3 b4 b5 b6 b7 b8 b9 b10 b11 b12 b13 b14 b15 b16 b17 b18 b19 b20 b21 b22 b23 b24 b25 b26 b27 b28 b29 b30 b31 = N at *
  generalize N % 57896044618658097711785492504343953926634992332820282019728792003956564819968 % prm = m at *
  have c4 := fun W => bytes_any 1 0 0 0 0 (by decide) (by decide) (by decide) (by decide) (by decide) (by decide) (by decide) (by decide) (by decide) (by decide) W
  have c5 := fun W => isZero_any 1 0 0 0 0 (by decide) (by decide) (by decide) (by decide) (by decide) (by decide) (by decide) (by decide) (by decide) (by decide) W
  have c6 := fun W => equal_any 1 0 0 0 0 0 0 0 0 0 (by decide) (by decide) (by decide) (by decide) (by decide) (by decide) (by decide) (by decide) (by decide) (by decide) (by decide) (by decide) (by decide) (by decide) (by decide) (by decide) (by decide) (by decide) (by decide) (by decide) W
  rw [one_mod] at c4 c5 c6
  rw [none_mod] at c6
  have d5 : decide ((1 : Int) = 0) = false := by decide
  rw [d5] at c5 c6
  have C1 := hide c1; have C2 := hide c2; have C3 := hide c3; have C4 := hide c4; have C5 := hide c5; have C6 := hide c6
  clear c1 c2 c3 c4 c5 c6 d5 lo0 hi0 lo1 hi1 lo2 hi2 lo3 hi3 lo4 hi4 lo5 hi5 lo6 hi6 lo7 hi7 lo8 hi8 lo9 hi9 lo10 hi10 lo11 hi11 lo12 hi12 lo13 hi13 lo14 hi14 lo15 hi15 lo16 hi16 lo17 hi17 lo18 hi18 lo19 hi19 lo20 hi20 lo21 hi21 lo22 hi22 lo23 hi23 lo24 hi24 lo25 hi25 lo26 hi26 lo27 hi27 lo28 hi28 lo29 hi29 lo30 hi30 lo31 hi31
  have heq : ∀ W, (Op.equalIn 10000 34 (.agg #[.int .u8 (byt (m) 0), .int .u8 (byt (m) 1), .int .u8 (byt (m) 2), .int .u8 (byt (m) 3), .int .u8 (byt (m) 4), .int .u8 (byt (m) 5), .int .u8 (byt (m) 6), .int .u8 (byt (m) 7), .int .u8 (byt (m) 8), .int .u8 (byt (m) 9), .int .u8 (byt (m) 10), .int .u8 (byt (m) 11), .int .u8 (byt (m) 12), .int .u8 (byt (m) 13), .int .u8 (byt (m) 14), .int .u8 (byt (m) 15), .int .u8 (byt (m) 16), .int .u8 (byt (m) 17), .int .u8 (byt (m) 18), .int .u8 (byt (m) 19), .int .u8 (byt (m) 20), .int .u8 (byt (m) 21), .int .u8 (byt (m) 22), .int .u8 (byt (m) 23), .int .u8 (byt (m) 24), .int .u8 (byt (m) 25), .int .u8 (byt (m) 26), .int .u8 (byt (m) 27), .int .u8 (byt (m) 28), .int .u8 (byt (m) 29), .int .u8 (byt (m) 30), .int .u8 (byt (m) 31)]) (.agg #[.int .u8 (byt (m) 0), .int .u8 (byt (m) 1), .int .u8 (byt (m) 2), .int .u8 (byt (m) 3), .int .u8 (byt (m) 4), .int .u8 (byt (m) 5), .int .u8 (byt (m) 6), .int .u8 (byt (m) 7), .int .u8 (byt (m) 8), .int .u8 (byt (m) 9), .int .u8 (byt (m) 10), .int .u8 (byt (m) 11), .int .u8 (byt (m) 12), .int .u8 (byt (m) 13), .int .u8 (byt (m) 14), .int .u8 (byt (m) 15), .int .u8 (byt (m) 16), .int .u8 (byt (m) 17), .int .u8 (byt (m) 18), .int .u8 (byt (m) 19), .int .u8 (byt (m) 20), .int .u8 (byt (m) 21), .int .u8 (byt (m) 22), .int .u8 (byt (m) 23), .int .u8 (byt (m) 24), .int .u8 (byt (m) 25), .int .u8 (byt (m) 26), .int .u8 (byt (m) 27), .int .u8 (byt (m) 28), .int .u8 (byt (m) 29), .int .u8 (byt (m) 30), .int .u8 (byt (m) 31)])).run Tryd.prog W = .ok true W := fun W => by rw [keys_equal]; simp
  have heq1 : ∀ W, (Op.equalIn 10000 34 (.agg #[.int .u8 (byt (1) 0), .int .u8 (byt (1) 1), .int .u8 (byt (1) 2), .int .u8 (byt (1) 3), .int .u8 (byt (1) 4), .int .u8 (byt (1) 5), .int .u8 (byt (1) 6), .int .u8 (byt (1) 7), .int .u8 (byt (1) 8), .int .u8 (byt (1) 9), .int .u8 (byt (1) 10), .int .u8 (byt (1) 11), .int .u8 (byt (1) 12), .int .u8 (byt (1) 13), .int .u8 (byt (1) 14), .int .u8 (byt (1) 15), .int .u8 (byt (1) 16), .int .u8 (byt (1) 17), .int .u8 (byt (1) 18), .int .u8 (byt (1) 19), .int .u8 (byt (1) 20), .int .u8 (byt (1) 21), .int .u8 (byt (1) 22), .int .u8 (byt (1) 23), .int .u8 (byt (1) 24), .int .u8 (byt (1) 25), .int .u8 (byt (1) 26), .int .u8 (byt (1) 27), .int .u8 (byt (1) 28), .int .u8 (byt (1) 29), .int .u8 (byt (1) 30), .int .u8 (byt (1) 31)]) (.agg #[.int .u8 1, .int .u8 0, .int .u8 0, .int .u8 0, .int .u8 0, .int .u8 0, .int .u8 0, .int .u8 0, .int .u8 0, .int .u8 0, .int .u8 0, .int .u8 0, .int .u8 0, .int .u8 0, .int .u8 0, .int .u8 0, .int .u8 0, .int .u8 0, .int .u8 0, .int .u8 0, .int .u8 0, .int .u8 0, .int .u8 0, .int .u8 0, .int .u8 0, .int .u8 0, .int .u8 0, .int .u8 0, .int .u8 0, .int .u8 0, .int .u8 0, .int .u8 0])).run Tryd.prog W = .ok true W := fun W => by rw [keys_equal]; simp [byt]
  go_enter Tryd.func35, Tryd.ntmps35
  go_wp2_with fail
  refine (small_one _).mono ?_
  rintro e w1 ⟨rfl, hb1⟩
  have r1 : w1.heap[w.heap.size]? = some (.cells #[.int .u8 b0, .int .u8 b1, .int .u8 b2, .int .u8 b3, .int .u8 b4, .int .u8 b5, .int .u8 b6, .int .u8 b7, .int .u8 b8, .int .u8 b9, .int .u8 b10, .int .u8 b11, .int .u8 b12, .int .u8 b13, .int .u8 b14, .int .u8 b15, .int .u8 b16, .int .u8 b17, .int .u8 b18, .int .u8 b19, .int .u8 b20, .int .u8 b21, .int .u8 b22, .int .u8 b23, .int .u8 b24, .int .u8 b25, .int .u8 b26, .int .u8 b27, .int .u8 b28, .int .u8 b29, .int .u8 b30, .int .u8 b31] 34 (0, 0)) := (hb1.block _ (by simp)).trans (hp1_0 w _)
  have hbw : Below w.heap.size w w1 := ((Below.refl _ _).alloc (Nat.le_refl _) _).trans (hb1.mono (by simp))
  have hs1 := hb1.size
  simp only [World.size_alloc] at hs1
  clear hb1
  go_wp2_with (first | (refine wpList_store_row rfl 26 _ _ rfl w1.heap.size #[.int .u64 1, .int .u64 0, .int .u64 0, .int .u64 0, .int .u64 0] rfl rfl 26 _ (hp1_0 w1 _) (by kernel_rfl) rfl (by kernel_rfl) ?_; rw [setRow_alloc_new _ _ _ _ _ _ rfl]) | fail)
  have h1 : Hid (∀ W, (∃ p : Regrown, W = grow (redrawn ((w1.alloc (.cells #[.int .u64 1, .int .u64 0, .int .u64 0, .int .u64 0, .int .u64 0] 26)).alloc (.cells #[.int .u8 1, .int .u8 0, .int .u8 0, .int .u8 0, .int .u8 0, .int .u8 0, .int .u8 0, .int .u8 0, .int .u8 0, .int .u8 0, .int .u8 0, .int .u8 0, .int .u8 0, .int .u8 0, .int .u8 0, .int .u8 0, .int .u8 0, .int .u8 0, .int .u8 0, .int .u8 0, .int .u8 0, .int .u8 0, .int .u8 0, .int .u8 0, .int .u8 0, .int .u8 0, .int .u8 0, .int .u8 0, .int .u8 0, .int .u8 0, .int .u8 0, .int .u8 0] 34)) p.d) p.os) → W.heap[w.heap.size]? = some (.cells #[.int .u8 b0, .int .u8 b1, .int .u8 b2, .int .u8 b3, .int .u8 b4, .int .u8 b5, .int .u8 b6, .int .u8 b7, .int .u8 b8, .int .u8 b9, .int .u8 b10, .int .u8 b11, .int .u8 b12, .int .u8 b13, .int .u8 b14, .int .u8 b15, .int .u8 b16, .int .u8 b17, .int .u8 b18, .int .u8 b19, .int .u8 b20, .int .u8 b21, .int .u8 b22, .int .u8 b23, .int .u8 b24, .int .u8 b25, .int .u8 b26, .int .u8 b27, .int .u8 b28, .int .u8 b29, .int .u8 b30, .int .u8 b31] 34 (0, 0))) := by
    rintro _ ⟨p, rfl⟩; exact ((below_regrown _ p.d p.os).block _ (by simp; omega)).trans ((Go.heap_alloc_old _ _ (by simp; omega)).trans ((Go.heap_alloc_old _ _ (by omega)).trans r1))
  have h3 : Hid (∀ W, (∃ p : Regrown, W = grow (redrawn ((w1.alloc (.cells #[.int .u64 1, .int .u64 0, .int .u64 0, .int .u64 0, .int .u64 0] 26)).alloc (.cells #[.int .u8 1, .int .u8 0, .int .u8 0, .int .u8 0, .int .u8 0, .int .u8 0, .int .u8 0, .int .u8 0, .int .u8 0, .int .u8 0, .int .u8 0, .int .u8 0, .int .u8 0, .int .u8 0, .int .u8 0, .int .u8 0, .int .u8 0, .int .u8 0, .int .u8 0, .int .u8 0, .int .u8 0, .int .u8 0, .int .u8 0, .int .u8 0, .int .u8 0, .int .u8 0, .int .u8 0, .int .u8 0, .int .u8 0, .int .u8 0, .int .u8 0, .int .u8 0] 34)) p.d) p.os) → W.heap[w1.heap.size]? = some (.cells #[.int .u64 1, .int .u64 0, .int .u64 0, .int .u64 0, .int .u64 0] 26 (0, 0))) := by
    rintro _ ⟨p, rfl⟩; exact ((below_regrown _ p.d p.os).block _ (by simp; omega)).trans (hp2_0 w1 _ _)
  have h4 : Hid (∀ W, (∃ p : Regrown, W = grow (redrawn ((w1.alloc (.cells #[.int .u64 1, .int .u64 0, .int .u64 0, .int .u64 0, .int .u64 0] 26)).alloc (.cells #[.int .u8 1, .int .u8 0, .int .u8 0, .int .u8 0, .int .u8 0, .int .u8 0, .int .u8 0, .int .u8 0, .int .u8 0, .int .u8 0, .int .u8 0, .int .u8 0, .int .u8 0, .int .u8 0, .int .u8 0, .int .u8 0, .int .u8 0, .int .u8 0, .int .u8 0, .int .u8 0, .int .u8 0, .int .u8 0, .int .u8 0, .int .u8 0, .int .u8 0, .int .u8 0, .int .u8 0, .int .u8 0, .int .u8 0, .int .u8 0, .int .u8 0, .int .u8 0] 34)) p.d) p.os) → W.heap[w1.heap.size + 1]? = some (.cells #[.int .u8 1, .int .u8 0, .int .u8 0, .int .u8 0, .int .u8 0, .int .u8 0, .int .u8 0, .int .u8 0, .int .u8 0, .int .u8 0, .int .u8 0, .int .u8 0, .int .u8 0, .int .u8 0, .int .u8 0, .int .u8 0, .int .u8 0, .int .u8 0, .int .u8 0, .int .u8 0, .int .u8 0, .int .u8 0, .int .u8 0, .int .u8 0, .int .u8 0, .int .u8 0, .int .u8 0, .int .u8 0, .int .u8 0, .int .u8 0, .int .u8 0, .int .u8 0] 34 (0, 0))) := by
    rintro _ ⟨p, rfl⟩; exact ((below_regrown _ p.d p.os).block _ (by simp)).trans (hp2_1 w1 _ _)
  refine wp_region_quiet_below (by kernel_rfl) (by kernel_rfl) ?_
  refine wpQuiet_load_row rfl 34 _ rfl w.heap.size rfl 34 #[.int .u8 b0, .int .u8 b1, .int .u8 b2, .int .u8 b3, .int .u8 b4, .int .u8 b5, .int .u8 b6, .int .u8 b7, .int .u8 b8, .int .u8 b9, .int .u8 b10, .int .u8 b11, .int .u8 b12, .int .u8 b13, .int .u8 b14, .int .u8 b15, .int .u8 b16, .int .u8 b17, .int .u8 b18, .int .u8 b19, .int .u8 b20, .int .u8 b21, .int .u8 b22, .int .u8 b23, .int .u8 b24, .int .u8 b25, .int .u8 b26, .int .u8 b27, .int .u8 b28, .int .u8 b29, .int .u8 b30, .int .u8 b31] (0, 0) _ h1.out Tryd.underlying34 rfl (by kernel_rfl) ?_
  simp only [Act.put, List.setIfInBounds_toArray, List.set_cons_succ, List.set_cons_zero]
  go_big_quiet_step (exact Calls.regrown_of (C1.out _))
  go_big_quiet_step (exact Calls.regrown_of (C2.out _))
  refine wpQuiet_load_row rfl 34 _ rfl w.heap.size rfl 34 #[.int .u8 b0, .int .u8 b1, .int .u8 b2, .int .u8 b3, .int .u8 b4, .int .u8 b5, .int .u8 b6, .int .u8 b7, .int .u8 b8, .int .u8 b9, .int .u8 b10, .int .u8 b11, .int .u8 b12, .int .u8 b13, .int .u8 b14, .int .u8 b15, .int .u8 b16, .int .u8 b17, .int .u8 b18, .int .u8 b19, .int .u8 b20, .int .u8 b21, .int .u8 b22, .int .u8 b23, .int .u8 b24, .int .u8 b25, .int .u8 b26, .int .u8 b27, .int .u8 b28, .int .u8 b29, .int .u8 b30, .int .u8 b31] (0, 0) _ h1.out Tryd.underlying34 rfl (by kernel_rfl) ?_
  simp only [Act.put, List.setIfInBounds_toArray, List.set_cons_succ, List.set_cons_zero]
  go_big_quiet_step (exact Calls.regrown_of (C3.out _))
  go_big_quiet_step (fail)
  go_big_quiet_step (fail)
  refine wpQuiet_load_want rfl 26 _ rfl w1.heap.size rfl 26 #[.int .u64 1, .int .u64 0, .int .u64 0, .int .u64 0, .int .u64 0] (0, 0) _ h3.out Tryd.underlying26 rfl (by kernel_rfl) ?_
  simp only [Act.put, List.setIfInBounds_toArray, List.set_cons_succ, List.set_cons_zero]
  go_big_quiet_step (exact Calls.regrown_of (C4.out _))
  refine wpQuiet_load_want rfl 34 _ rfl (w1.heap.size + 1) rfl 34 #[.int .u8 1, .int .u8 0, .int .u8 0, .int .u8 0, .int .u8 0, .int .u8 0, .int .u8 0, .int .u8 0, .int .u8 0, .int .u8 0, .int .u8 0, .int .u8 0, .int .u8 0, .int .u8 0, .int .u8 0, .int .u8 0, .int .u8 0, .int .u8 0, .int .u8 0, .int .u8 0, .int .u8 0, .int .u8 0, .int .u8 0, .int .u8 0, .int .u8 0, .int .u8 0, .int .u8 0, .int .u8 0, .int .u8 0, .int .u8 0, .int .u8 0, .int .u8 0] (0, 0) _ h4.out Tryd.underlying34 rfl (by kernel_rfl) ?_
  simp only [Act.put, List.setIfInBounds_toArray, List.set_cons_succ, List.set_cons_zero]
  go_big_quiet_step (fail)
  go_big_quiet_step (fail)
  go_big_quiet_step (fail)
  refine wpQuiet_load_want rfl 26 _ rfl w1.heap.size rfl 26 #[.int .u64 1, .int .u64 0, .int .u64 0, .int .u64 0, .int .u64 0] (0, 0) _ h3.out Tryd.underlying26 rfl (by kernel_rfl) ?_
  simp only [Act.put, List.setIfInBounds_toArray, List.set_cons_succ, List.set_cons_zero]
  go_big_quiet_step (exact Calls.regrown_of (C5.out _))
  go_big_quiet_step (fail)
  go_big_quiet_step (fail)
  go_big_quiet_step (fail)
  refine wpQuiet_load_want rfl 26 _ rfl w1.heap.size rfl 26 #[.int .u64 1, .int .u64 0, .int .u64 0, .int .u64 0, .int .u64 0] (0, 0) _ h3.out Tryd.underlying26 rfl (by kernel_rfl) ?_
  simp only [Act.put, List.setIfInBounds_toArray, List.set_cons_succ, List.set_cons_zero]
  go_big_quiet_step (fail)
  go_big_quiet_step (exact Calls.regrown_of (C6.out _))
  repeat (go_big_quiet_step (fail))
  refine wpQuiet_nil ?_
  rintro _ ⟨p, rfl⟩
  have hb := below_regrown ((w1.alloc (.cells #[.int .u64 1, .int .u64 0, .int .u64 0, .int .u64 0, .int .u64 0] 26)).alloc (.cells #[.int .u8 1, .int .u8 0, .int .u8 0, .int .u8 0, .int .u8 0, .int .u8 0, .int .u8 0, .int .u8 0, .int .u8 0, .int .u8 0, .int .u8 0, .int .u8 0, .int .u8 0, .int .u8 0, .int .u8 0, .int .u8 0, .int .u8 0, .int .u8 0, .int .u8 0, .int .u8 0, .int .u8 0, .int .u8 0, .int .u8 0, .int .u8 0, .int .u8 0, .int .u8 0, .int .u8 0, .int .u8 0, .int .u8 0, .int .u8 0, .int .u8 0, .int .u8 0] 34)) p.d p.os
  generalize grow (redrawn ((w1.alloc (.cells #[.int .u64 1, .int .u64 0, .int .u64 0, .int .u64 0, .int .u64 0] 26)).alloc (.cells #[.int .u8 1, .int .u8 0, .int .u8 0, .int .u8 0, .int .u8 0, .int .u8 0, .int .u8 0, .int .u8 0, .int .u8 0, .int .u8 0, .int .u8 0, .int .u8 0, .int .u8 0, .int .u8 0, .int .u8 0, .int .u8 0, .int .u8 0, .int .u8 0, .int .u8 0, .int .u8 0, .int .u8 0, .int .u8 0, .int .u8 0, .int .u8 0, .int .u8 0, .int .u8 0, .int .u8 0, .int .u8 0, .int .u8 0, .int .u8 0, .int .u8 0, .int .u8 0] 34)) p.d) p.os = W1 at *
  go_wp2
  go_ret
  exact ⟨rfl, hbw.trans ((((Below.refl _ _).alloc (by omega) _).alloc (by simp; omega) _).trans (hb.mono (by simp; omega)))⟩

end Go.Proofs.YtcjdglckbkdheaaDoor

