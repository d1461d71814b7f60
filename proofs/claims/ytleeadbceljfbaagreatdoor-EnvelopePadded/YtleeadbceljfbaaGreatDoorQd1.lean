import Derived.Test.YtleeadbceljfbaaGreatDoorProg
import Derived.WalkKit
import Derived.WalkSpells
import Derived.WalkLawsBesides
import Derived.Lib.QuietBelow
import Derived.Laws.BitsAllLaws
import Derived.BigQuiet
import Derived.WalkMore
import Derived.Test.YtleeadbceljfbaaGreatDoorKa
import Derived.Test.YtleeadbceljfbaaGreatDoorQd0
import Derived.Test.YtleeadbceljfbaaGreatDoorQa1
namespace Go.Proofs.YtleeadbceljfbaaGreatDoor
set_option maxRecDepth 100000
open Go Go.RowKit Go.Sort
attribute [local go_sem] setCell_drewN alloc_drewN

theorem quo_big {m i j : Nat} (h8 : 8 ≤ m) (h : i < j) : 15 < m * 2 ^ j / 2 ^ i := by
  have hp : 0 < 2 ^ i := Nat.pow_pos (by decide)
  rw [show j = (j - i) + i by omega, Nat.pow_add, ← Nat.mul_assoc, Nat.mul_div_cancel _ hp]
  have h1 : 2 ^ 1 ≤ 2 ^ (j - i) := Nat.pow_le_pow_right (by decide) (by omega)
  have := Nat.mul_le_mul h8 h1
  omega
theorem bkt_64 (lo : Nat) (h : lo = 1 ∨ lo = 8) : Bkt lo 64 := by
  rcases h with rfl | rfl
  · exact ⟨by decide, 1, 6, by decide, by decide, by decide⟩
  · exact ⟨by decide, 8, 3, by decide, by decide, by decide⟩
end Go.Proofs.YtleeadbceljfbaaGreatDoor

namespace Go.Proofs.YtleeadbceljfbaaGreatDoor
set_option maxRecDepth 100000
open Go Go.RowKit Go.Sort
attribute [local go_sem] setCell_drewN alloc_drewN

/-- A version's number, in 64 bits. -/
theorem ver_known (ver : Int) (v : Nat) (hv : IntKind.wrap .u64 ver = (v : Int)) (h1 : -9223372036854775808 ≤ ver) (h2 : ver ≤ 9223372036854775807) : (ver == 1 || ver == 2) = known10 v ∧ (known10 v = true → ver = (v : Int) ∧ (v = 1 ∨ v = 2)) := by
  have e : IntKind.wrap .u64 ver = ver % 18446744073709551616 := rfl
  rw [e] at hv
  unfold known10
  rcases Int.decEq ver 1 with q1 | rfl
  · rcases Int.decEq ver 2 with q2 | rfl
    · have c1 : ¬ v = 1 := by omega
      have c2 : ¬ v = 2 := by omega
      have d1 : (ver == 1) = false := by simpa using q1
      have d2 : (ver == 2) = false := by simpa using q2
      have d3 : (v == 1) = false := by simpa using c1
      have d4 : (v == 2) = false := by simpa using c2
      rw [d1, d2, d3, d4]
      simp
    · obtain rfl : v = 2 := by omega
      simp
  · obtain rfl : v = 1 := by omega
    simp
/-- What Length answers. -/
def lno (v : Nat) (n : Int) : Int := if bke v n = 0 then 83 + ((en (bkd (dg v) (4 + n.toNat) + 16)).length : Int) + ((bkd (dg v) (4 + n.toNat) : Int) + 16) else 0
theorem bke_ok {v : Nat} {n : Int} (h : bke v n = 0) : known10 v = true ∧ 0 ≤ n ∧ n ≤ 1048576 := by
  unfold bke at h
  split at h
  · rename_i q
    refine ⟨q, ?_⟩
    split at h
    · cases h
    · split at h
      · cases h
      · omega
  · cases h
theorem bkd_bd (v : Nat) (n : Int) (h0 : 0 ≤ n) (h : n ≤ 1048576) : bkd (dg v) (4 + n.toNat) ≤ 2097160 := by
  have := bkd_le (dg v) (4 + n.toNat) (dg_pos v)
  have : max (4 + n.toNat) 64 ≤ 1048580 := Nat.max_le.2 ⟨by omega, by decide⟩
  omega
theorem ne_dec (v : Nat) (n : Int) (h : ¬ bke v n = 0) : (bke v n == 0) = false := by simp [h]
set_option maxRecDepth 100000 in
set_option maxHeartbeats 4000000 in
theorem a_Length (ver : Int) (v : Nat) (hv : IntKind.wrap .u64 ver = (v : Int)) (hv2 : v < 18446744073709551616) (n : Int) : Gives 27 #[.int .i64 ver, .int .i64 n] (.tuple #[.int .i64 (lno v n), .int .i64 (bke v n)]) := by
  intro w
  have c1 := a_Bucket ver v hv hv2 n
  by_cases hz : bke v n = 0
  · obtain ⟨hk, q1, q2⟩ := bke_ok hz
    have hbd := bkd_bd v n q1 q2
    have e2 : bko v n = (bkd (dg v) (4 + n.toNat) : Int) := by unfold bko; simp [hz]
    have e3 : lno v n = 83 + ((en (bkd (dg v) (4 + n.toNat) + 16)).length : Int) + ((bkd (dg v) (4 + n.toNat) : Int) + 16) := by unfold lno; simp [hz]
    rw [e2, hz] at c1
    rw [e3, hz]
    have c2 := a_size (bkd (dg v) (4 + n.toNat) + 16) (by omega)
    have hl := en_ten (n := bkd (dg v) (4 + n.toNat) + 16) (by omega)
    generalize (en (bkd (dg v) (4 + n.toNat) + 16)).length = len at *
    generalize bkd (dg v) (4 + n.toNat) = b at *
    rw [show ((b + 16 : Nat) : Int) = (b : Int) + 16 by omega] at c2
    clear e2 e3 hz hk
    go_enter Tryz.func27, Tryz.ntmps27
    go_wp2_with (fail)
    refine (c1.at _).mono ?_
    rintro e_ w1 ⟨rfl, hb⟩
    clear c1
    go_wp2_with (fail)
    refine (c2.at _).mono ?_
    rintro e_ w2 ⟨rfl, hb2⟩
    replace hb := Below.after hb hb2
    clear hb2 c2
    go_wp2
    go_ret2
    exact ⟨rfl, hb⟩
  · have e2 : bko v n = 0 := by unfold bko; simp [hz]
    have e3 : lno v n = 0 := by unfold lno; simp [hz]
    have e4 := ne_dec v n hz
    rw [e2] at c1
    rw [e3]
    generalize bke v n = e at *
    clear e2 e3
    go_enter Tryz.func27, Tryz.ntmps27
    go_wp2_with (fail)
    refine (c1.at _).mono ?_
    rintro e_ w1 ⟨rfl, hb⟩
    clear c1
    go_wp2
    go_ret2
    exact ⟨rfl, hb⟩
end Go.Proofs.YtleeadbceljfbaaGreatDoor
