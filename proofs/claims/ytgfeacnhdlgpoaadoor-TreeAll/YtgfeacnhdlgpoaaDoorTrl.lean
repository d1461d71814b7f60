import Derived.Test.YtgfeacnhdlgpoaaDoorProg
import Derived.WalkKit
import Derived.WalkSpells
import Derived.WalkLawsBesides
import Derived.Lib.QuietBelow
import Derived.Lib.Tables
import Derived.BigQuiet
import Derived.Test.YtgfeacnhdlgpoaaDoorKa
import Derived.Laws.BitsAllLaws
import Derived.WalkMore
import Derived.Test.YtgfeacnhdlgpoaaDoorHk
import Derived.Test.YtgfeacnhdlgpoaaDoorTra
namespace Go.Proofs.YtgfeacnhdlgpoaaDoor
set_option maxRecDepth 100000
open Go Go.RowKit Go.Sort
attribute [local go_sem] setCell_drewN alloc_drewN

theorem len8_ok : ∀ y : Fin 256, 0 < y.val → 0 < (Go.Lib.len8 (y.val : Int)).toNat ∧ (Go.Lib.len8 (y.val : Int)).toNat ≤ 8 ∧ 2 ^ ((Go.Lib.len8 (y.val : Int)).toNat - 1) ≤ y.val ∧ y.val < 2 ^ (Go.Lib.len8 (y.val : Int)).toNat ∧ Go.Lib.len8 (y.val : Int) = ((Go.Lib.len8 (y.val : Int)).toNat : Int) := by decide +kernel
theorem len8_at (y : Nat) (h : y < 256) (h0 : 0 < y) : ∃ t : Nat, 0 < t ∧ t ≤ 8 ∧ 2 ^ (t - 1) ≤ y ∧ y < 2 ^ t ∧ Go.Lib.len8 (y : Int) = (t : Int) := by
  obtain ⟨h1, h2, h3, h4, h5⟩ := len8_ok ⟨y, h⟩ h0
  exact ⟨_, h1, h2, h3, h4, h5⟩
theorem len_up {x y s t : Nat} (hy : y = x / 2 ^ s) (h1 : 2 ^ (t - 1) ≤ y) (h2 : y < 2 ^ t) (h0 : 0 < t) : 2 ^ (s + t - 1) ≤ x ∧ x < 2 ^ (s + t) := by
  have hp : 0 < 2 ^ s := Nat.pow_pos (by decide)
  subst hy
  refine ⟨?_, ?_⟩
  · rw [show s + t - 1 = (t - 1) + s by omega, Nat.pow_add]
    exact (Nat.le_div_iff_mul_le hp).1 h1
  · rw [Nat.add_comm, Nat.pow_add]
    exact (Nat.div_lt_iff_lt_mul hp).1 h2
set_option maxRecDepth 100000 in
set_option maxHeartbeats 4000000 in
theorem a_len64_0 (x : Nat) (h0 : 1 ≤ x) (hx : x < 256) : ∃ L : Nat, 0 < L ∧ L ≤ 64 ∧ 2 ^ (L - 1) ≤ x ∧ x < 2 ^ L ∧ Gives 70 #[.int .u64 (x : Int)] (.int .i64 (L : Int)) := by
  obtain ⟨t, h1, h2, h3, h4, h5⟩ := len8_at (x / 2 ^ 0) (by omega) (by omega)
  obtain ⟨h6, h7⟩ := len_up (x := x) rfl h3 h4 h1
  refine ⟨0 + t, by omega, by omega, h6, h7, fun w => ?_⟩
  clear h3 h4 h6 h7
  have d1 : decide ((x : Int) ≥ 4294967296) = false := by simp; omega
  have d2 : decide ((x : Int) ≥ 65536) = false := by simp; omega
  have d3 : decide ((x : Int) ≥ 256) = false := by simp; omega
  have e1 : (x : Int) = ((x / 2 ^ 0 : Nat) : Int) := by omega
  have hix : ∀ W : World, (Instr.index 9 (.string Go.Lib.len8tab) (.int .u8 ((x : Int)))).run Tryd.prog W = .ok (.int .u8 (t : Int)) W := fun W => by
    rw [e1, Go.Lib.run_index_len8tab W _ _ _ Tryd.underlying9 (by omega) (by omega), h5]
  clear e1 h5
  go_enter Tryd.func70, Tryd.ntmps70
  go_wp2
  go_ret
  refine ⟨?_, Below.refl _ _⟩
  rw [Nat.zero_add]; rfl
set_option maxRecDepth 100000 in
set_option maxHeartbeats 4000000 in
theorem a_len64_8 (x : Nat) (h0 : 256 ≤ x) (hx : x < 65536) : ∃ L : Nat, 0 < L ∧ L ≤ 64 ∧ 2 ^ (L - 1) ≤ x ∧ x < 2 ^ L ∧ Gives 70 #[.int .u64 (x : Int)] (.int .i64 (L : Int)) := by
  obtain ⟨t, h1, h2, h3, h4, h5⟩ := len8_at (x / 2 ^ 8) (by omega) (by omega)
  obtain ⟨h6, h7⟩ := len_up (x := x) rfl h3 h4 h1
  refine ⟨8 + t, by omega, by omega, h6, h7, fun w => ?_⟩
  clear h3 h4 h6 h7
  have d1 : decide ((x : Int) ≥ 4294967296) = false := by simp; omega
  have d2 : decide ((x : Int) ≥ 65536) = false := by simp; omega
  have d3 : decide ((x : Int) ≥ 256) = true := by simp; omega
  have e1 : ((x : Int) / 256) = ((x / 2 ^ 8 : Nat) : Int) := by omega
  have hix : ∀ W : World, (Instr.index 9 (.string Go.Lib.len8tab) (.int .u8 (((x : Int) / 256)))).run Tryd.prog W = .ok (.int .u8 (t : Int)) W := fun W => by
    rw [e1, Go.Lib.run_index_len8tab W _ _ _ Tryd.underlying9 (by omega) (by omega), h5]
  clear e1 h5
  go_enter Tryd.func70, Tryd.ntmps70
  go_wp2
  go_ret
  refine ⟨?_, Below.refl _ _⟩
  congr 2
set_option maxRecDepth 100000 in
set_option maxHeartbeats 4000000 in
theorem a_len64_16 (x : Nat) (h0 : 65536 ≤ x) (hx : x < 16777216) : ∃ L : Nat, 0 < L ∧ L ≤ 64 ∧ 2 ^ (L - 1) ≤ x ∧ x < 2 ^ L ∧ Gives 70 #[.int .u64 (x : Int)] (.int .i64 (L : Int)) := by
  obtain ⟨t, h1, h2, h3, h4, h5⟩ := len8_at (x / 2 ^ 16) (by omega) (by omega)
  obtain ⟨h6, h7⟩ := len_up (x := x) rfl h3 h4 h1
  refine ⟨16 + t, by omega, by omega, h6, h7, fun w => ?_⟩
  clear h3 h4 h6 h7
  have d1 : decide ((x : Int) ≥ 4294967296) = false := by simp; omega
  have d2 : decide ((x : Int) ≥ 65536) = true := by simp; omega
  have d3 : decide (((x : Int) / 65536) ≥ 256) = false := by simp; omega
  have e1 : ((x : Int) / 65536) = ((x / 2 ^ 16 : Nat) : Int) := by omega
  have hix : ∀ W : World, (Instr.index 9 (.string Go.Lib.len8tab) (.int .u8 (((x : Int) / 65536)))).run Tryd.prog W = .ok (.int .u8 (t : Int)) W := fun W => by
    rw [e1, Go.Lib.run_index_len8tab W _ _ _ Tryd.underlying9 (by omega) (by omega), h5]
  clear e1 h5
  go_enter Tryd.func70, Tryd.ntmps70
  go_wp2
  go_ret
  refine ⟨?_, Below.refl _ _⟩
  congr 2
set_option maxRecDepth 100000 in
set_option maxHeartbeats 4000000 in
theorem a_len64_24 (x : Nat) (h0 : 16777216 ≤ x) (hx : x < 4294967296) : ∃ L : Nat, 0 < L ∧ L ≤ 64 ∧ 2 ^ (L - 1) ≤ x ∧ x < 2 ^ L ∧ Gives 70 #[.int .u64 (x : Int)] (.int .i64 (L : Int)) := by
  obtain ⟨t, h1, h2, h3, h4, h5⟩ := len8_at (x / 2 ^ 24) (by omega) (by omega)
  obtain ⟨h6, h7⟩ := len_up (x := x) rfl h3 h4 h1
  refine ⟨24 + t, by omega, by omega, h6, h7, fun w => ?_⟩
  clear h3 h4 h6 h7
  have d1 : decide ((x : Int) ≥ 4294967296) = false := by simp; omega
  have d2 : decide ((x : Int) ≥ 65536) = true := by simp; omega
  have d3 : decide (((x : Int) / 65536) ≥ 256) = true := by simp; omega
  have e1 : (((x : Int) / 65536) / 256) = ((x / 2 ^ 24 : Nat) : Int) := by omega
  have hix : ∀ W : World, (Instr.index 9 (.string Go.Lib.len8tab) (.int .u8 ((((x : Int) / 65536) / 256)))).run Tryd.prog W = .ok (.int .u8 (t : Int)) W := fun W => by
    rw [e1, Go.Lib.run_index_len8tab W _ _ _ Tryd.underlying9 (by omega) (by omega), h5]
  clear e1 h5
  go_enter Tryd.func70, Tryd.ntmps70
  go_wp2
  go_ret
  refine ⟨?_, Below.refl _ _⟩
  congr 2
set_option maxRecDepth 100000 in
set_option maxHeartbeats 4000000 in
theorem a_len64_32 (x : Nat) (h0 : 4294967296 ≤ x) (hx : x < 1099511627776) : ∃ L : Nat, 0 < L ∧ L ≤ 64 ∧ 2 ^ (L - 1) ≤ x ∧ x < 2 ^ L ∧ Gives 70 #[.int .u64 (x : Int)] (.int .i64 (L : Int)) := by
  obtain ⟨t, h1, h2, h3, h4, h5⟩ := len8_at (x / 2 ^ 32) (by omega) (by omega)
  obtain ⟨h6, h7⟩ := len_up (x := x) rfl h3 h4 h1
  refine ⟨32 + t, by omega, by omega, h6, h7, fun w => ?_⟩
  clear h3 h4 h6 h7
  have d1 : decide ((x : Int) ≥ 4294967296) = true := by simp; omega
  have d2 : decide (((x : Int) / 4294967296) ≥ 65536) = false := by simp; omega
  have d3 : decide (((x : Int) / 4294967296) ≥ 256) = false := by simp; omega
  have e1 : ((x : Int) / 4294967296) = ((x / 2 ^ 32 : Nat) : Int) := by omega
  have hix : ∀ W : World, (Instr.index 9 (.string Go.Lib.len8tab) (.int .u8 (((x : Int) / 4294967296)))).run Tryd.prog W = .ok (.int .u8 (t : Int)) W := fun W => by
    rw [e1, Go.Lib.run_index_len8tab W _ _ _ Tryd.underlying9 (by omega) (by omega), h5]
  clear e1 h5
  go_enter Tryd.func70, Tryd.ntmps70
  go_wp2
  go_ret
  refine ⟨?_, Below.refl _ _⟩
  congr 2
set_option maxRecDepth 100000 in
set_option maxHeartbeats 4000000 in
theorem a_len64_40 (x : Nat) (h0 : 1099511627776 ≤ x) (hx : x < 281474976710656) : ∃ L : Nat, 0 < L ∧ L ≤ 64 ∧ 2 ^ (L - 1) ≤ x ∧ x < 2 ^ L ∧ Gives 70 #[.int .u64 (x : Int)] (.int .i64 (L : Int)) := by
  obtain ⟨t, h1, h2, h3, h4, h5⟩ := len8_at (x / 2 ^ 40) (by omega) (by omega)
  obtain ⟨h6, h7⟩ := len_up (x := x) rfl h3 h4 h1
  refine ⟨40 + t, by omega, by omega, h6, h7, fun w => ?_⟩
  clear h3 h4 h6 h7
  have d1 : decide ((x : Int) ≥ 4294967296) = true := by simp; omega
  have d2 : decide (((x : Int) / 4294967296) ≥ 65536) = false := by simp; omega
  have d3 : decide (((x : Int) / 4294967296) ≥ 256) = true := by simp; omega
  have e1 : (((x : Int) / 4294967296) / 256) = ((x / 2 ^ 40 : Nat) : Int) := by omega
  have hix : ∀ W : World, (Instr.index 9 (.string Go.Lib.len8tab) (.int .u8 ((((x : Int) / 4294967296) / 256)))).run Tryd.prog W = .ok (.int .u8 (t : Int)) W := fun W => by
    rw [e1, Go.Lib.run_index_len8tab W _ _ _ Tryd.underlying9 (by omega) (by omega), h5]
  clear e1 h5
  go_enter Tryd.func70, Tryd.ntmps70
  go_wp2
  go_ret
  refine ⟨?_, Below.refl _ _⟩
  congr 2
set_option maxRecDepth 100000 in
set_option maxHeartbeats 4000000 in
theorem a_len64_48 (x : Nat) (h0 : 281474976710656 ≤ x) (hx : x < 72057594037927936) : ∃ L : Nat, 0 < L ∧ L ≤ 64 ∧ 2 ^ (L - 1) ≤ x ∧ x < 2 ^ L ∧ Gives 70 #[.int .u64 (x : Int)] (.int .i64 (L : Int)) := by
  obtain ⟨t, h1, h2, h3, h4, h5⟩ := len8_at (x / 2 ^ 48) (by omega) (by omega)
  obtain ⟨h6, h7⟩ := len_up (x := x) rfl h3 h4 h1
  refine ⟨48 + t, by omega, by omega, h6, h7, fun w => ?_⟩
  clear h3 h4 h6 h7
  have d1 : decide ((x : Int) ≥ 4294967296) = true := by simp; omega
  have d2 : decide (((x : Int) / 4294967296) ≥ 65536) = true := by simp; omega
  have d3 : decide ((((x : Int) / 4294967296) / 65536) ≥ 256) = false := by simp; omega
  have e1 : (((x : Int) / 4294967296) / 65536) = ((x / 2 ^ 48 : Nat) : Int) := by omega
  have hix : ∀ W : World, (Instr.index 9 (.string Go.Lib.len8tab) (.int .u8 ((((x : Int) / 4294967296) / 65536)))).run Tryd.prog W = .ok (.int .u8 (t : Int)) W := fun W => by
    rw [e1, Go.Lib.run_index_len8tab W _ _ _ Tryd.underlying9 (by omega) (by omega), h5]
  clear e1 h5
  go_enter Tryd.func70, Tryd.ntmps70
  go_wp2
  go_ret
  refine ⟨?_, Below.refl _ _⟩
  congr 2
set_option maxRecDepth 100000 in
set_option maxHeartbeats 4000000 in
theorem a_len64_56 (x : Nat) (h0 : 72057594037927936 ≤ x) (hx : x < 18446744073709551616) : ∃ L : Nat, 0 < L ∧ L ≤ 64 ∧ 2 ^ (L - 1) ≤ x ∧ x < 2 ^ L ∧ Gives 70 #[.int .u64 (x : Int)] (.int .i64 (L : Int)) := by
  obtain ⟨t, h1, h2, h3, h4, h5⟩ := len8_at (x / 2 ^ 56) (by omega) (by omega)
  obtain ⟨h6, h7⟩ := len_up (x := x) rfl h3 h4 h1
  refine ⟨56 + t, by omega, by omega, h6, h7, fun w => ?_⟩
  clear h3 h4 h6 h7
  have d1 : decide ((x : Int) ≥ 4294967296) = true := by simp; omega
  have d2 : decide (((x : Int) / 4294967296) ≥ 65536) = true := by simp; omega
  have d3 : decide ((((x : Int) / 4294967296) / 65536) ≥ 256) = true := by simp; omega
  have e1 : ((((x : Int) / 4294967296) / 65536) / 256) = ((x / 2 ^ 56 : Nat) : Int) := by omega
  have hix : ∀ W : World, (Instr.index 9 (.string Go.Lib.len8tab) (.int .u8 (((((x : Int) / 4294967296) / 65536) / 256)))).run Tryd.prog W = .ok (.int .u8 (t : Int)) W := fun W => by
    rw [e1, Go.Lib.run_index_len8tab W _ _ _ Tryd.underlying9 (by omega) (by omega), h5]
  clear e1 h5
  go_enter Tryd.func70, Tryd.ntmps70
  go_wp2
  go_ret
  refine ⟨?_, Below.refl _ _⟩
  congr 2
theorem a_len64 (x : Nat) (h0 : 0 < x) (hx : x < 18446744073709551616) : ∃ L : Nat, 0 < L ∧ L ≤ 64 ∧ 2 ^ (L - 1) ≤ x ∧ x < 2 ^ L ∧ Gives 70 #[.int .u64 (x : Int)] (.int .i64 (L : Int)) := by
  rcases (by omega : x < 256 ∨ (256 ≤ x ∧ x < 65536) ∨ (65536 ≤ x ∧ x < 16777216) ∨ (16777216 ≤ x ∧ x < 4294967296) ∨ (4294967296 ≤ x ∧ x < 1099511627776) ∨ (1099511627776 ≤ x ∧ x < 281474976710656) ∨ (281474976710656 ≤ x ∧ x < 72057594037927936) ∨ (72057594037927936 ≤ x ∧ x < 18446744073709551616)) with h | h | h | h | h | h | h | h
  · exact a_len64_0 x (by omega) h
  · exact a_len64_8 x h.1 h.2
  · exact a_len64_16 x h.1 h.2
  · exact a_len64_24 x h.1 h.2
  · exact a_len64_32 x h.1 h.2
  · exact a_len64_40 x h.1 h.2
  · exact a_len64_48 x h.1 h.2
  · exact a_len64_56 x h.1 h.2
set_option maxRecDepth 100000 in
set_option maxHeartbeats 4000000 in
theorem a_len (x : Nat) (h0 : 1 ≤ x) (hx : x < 18446744073709551616) : ∃ L : Nat, 0 < L ∧ L ≤ 64 ∧ 2 ^ (L - 1) ≤ x ∧ x < 2 ^ L ∧ Gives 63 #[.int .u64 (x : Int)] (.int .i64 (L : Int)) := by
  obtain ⟨L, g0, g1, g2, g3, g4⟩ := a_len64 x h0 hx
  refine ⟨L, g0, g1, g2, g3, fun w => ?_⟩
  clear g2 g3
  go_enter Tryd.func63, Tryd.ntmps63
  go_wp2_with (fail)
  refine (g4.at _).mono ?_
  rintro e_ w1 ⟨rfl, hb⟩
  go_wp2
  go_ret
  exact ⟨rfl, hb⟩
set_option maxRecDepth 100000 in
set_option maxHeartbeats 4000000 in
theorem a_cut (n : Nat) (h2 : ¬ n < 2) (hn : n ≤ 4398046511000) : Gives 44 #[.int .i64 (n : Int)] (.int .i64 (ctN n : Int)) := by
  obtain ⟨L, g0, g1, g2, g3, g4⟩ := a_len (n - 1) (by omega) (by omega)
  have e1 : ((n - 1 : Nat) : Int) = (n : Int) - 1 := by omega
  rw [e1] at g4
  have hL : L ≤ 43 := by
    rcases Nat.lt_or_ge 43 L with h | h
    · have := Nat.pow_le_pow_right (n := 2) (by omega) (show 43 ≤ L - 1 by omega)
      omega
    · exact h
  have hc : ctN n = 2 ^ (L - 1) := by
    refine ct_of (by omega) ?_
    have e : 2 * 2 ^ (L - 1) = 2 ^ L := by rw [Nat.mul_comm, ← Nat.pow_succ]; congr 1; omega
    omega
  have hc2 : ctN n ≤ 4398046511104 := by rw [hc]; exact Nat.le_trans (Nat.pow_le_pow_right (by omega) (show L - 1 ≤ 42 by omega)) (by decide)
  have kr : wrap64 ((2 : Int) ^ (L - 1)) = (ctN n : Int) := by
    have : (2 : Int) ^ (L - 1) = (ctN n : Int) := by rw [hc, Int.natCast_pow]; rfl
    rw [this]; unfold wrap64; omega
  intro w
  clear hc g2 g3
  generalize ctN n = k at *
  have q1 : IntKind.u64.wrap ((n : Int) - 1) = (n : Int) - 1 := by rw [IntKind.wrap_u64]; omega
  have q2 : IntKind.i64.wrap ((n : Int) - 1) = (n : Int) - 1 := by rw [IntKind.wrap_i64]; omega
  go_enter Tryd.func44, Tryd.ntmps44
  go_wp2_with (fail)
  refine (g4.at _).mono ?_
  rintro e_ w1 ⟨rfl, hb⟩
  clear g4
  go_wp2
  go_ret
  exact ⟨by rw [kr]; rfl, hb⟩
end Go.Proofs.YtgfeacnhdlgpoaaDoor
