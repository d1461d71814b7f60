import Derived.Test.YtmiljapieehmgaaProg
import Derived.WalkKit
import Derived.WalkSpells
import Derived.WalkLawsBesides
import Derived.Lib.QuietBelow
import Derived.Laws.BitsAllLaws
import Derived.BigQuiet
import Derived.WalkMore
import Derived.Test.YtmiljapieehmgaaKit
import Derived.Test.YtmiljapieehmgaaIe
namespace Go.Proofs.Ytmiljapieehmgaa
open Go Go.RowKit Go.Sort
attribute [local go_sem] setCell_drewN alloc_drewN

theorem r_known (ver : Int) : Gives 21 #[.int .i64 ver] (.bool (ver == 1 || ver == 2)) := by
  intro w
  go_enter Try.func21, Try.ntmps21
  rcases h1 : (ver == 1)
  · rcases h2 : (ver == 2)
    all_goals
      go_wp2
      go_ret
      exact ⟨rfl, Below.refl _ _⟩
  · go_wp2
    go_ret
    exact ⟨rfl, Below.refl _ _⟩
/-- A version's number, in 64 bits. -/
theorem ver_known (ver : Int) (v : Nat) (hv : IntKind.wrap .u64 ver = (v : Int)) (h1 : -9223372036854775808 ≤ ver) (h2 : ver ≤ 9223372036854775807) : (ver == 1 || ver == 2) = known v ∧ (known v = true → ver = (v : Int) ∧ (v = 1 ∨ v = 2)) := by
  have e : IntKind.wrap .u64 ver = ver % 18446744073709551616 := rfl
  rw [e] at hv
  unfold known
  rcases Int.decEq ver 1 with q1 | rfl
  · rcases Int.decEq ver 2 with q2 | rfl
    · have c1 : ¬ v = 1 := by omega
      have c2 : ¬ v = 2 := by omega
      have d1 : (ver == 1) = false := by simpa using q1
      have d2 : (ver == 2) = false := by simpa using q2
      have d3 : (v == 1) = false := by simpa using c1
      have d4 : (v == 2) = false := by simpa using c2
      rw [d1, d2, d3, d4]
      simp
    · obtain rfl : v = 2 := by omega
      simp
  · obtain rfl : v = 1 := by omega
    simp
set_option maxRecDepth 100000 in
set_option maxHeartbeats 4000000 in
theorem r_Bucket (ver : Int) (v : Nat) (hv : IntKind.wrap .u64 ver = (v : Int)) (n : Int) (h1 : -9223372036854775808 ≤ ver) (h2 : ver ≤ 9223372036854775807) : Gives 7 #[.int .i64 ver, .int .i64 n] (.tuple #[.int .i64 (bko v n), .int .i64 (bke v n)]) := by
  intro w
  obtain ⟨k1, k2⟩ := ver_known ver v hv h1 h2
  have c1 := r_known ver
  rw [k1] at c1
  rcases hk : known v
  · rw [hk] at c1
    have e1 : bke v n = 100 := by unfold bke; simp [hk]
    have e2 : bko v n = 0 := by unfold bko; simp [e1]
    rw [e1, e2]
    clear e1 e2 hk k1 k2
    go_enter Try.func7, Try.ntmps7
    go_wp2_with (fail)
    refine (c1.at _).mono ?_
    rintro e_ w1 ⟨rfl, hb⟩
    clear c1
    go_wp2
    go_ret2
    exact ⟨rfl, hb⟩
  · rw [hk] at c1
    obtain ⟨rfl, hv12⟩ := k2 hk
    rcases Int.lt_or_le n 0 with q | q
    · have e1 : bke v n = 1 := by unfold bke; simp [hk, q]
      have e2 : bko v n = 0 := by unfold bko; simp [e1]
      rw [e1, e2]
      clear e1 e2 hk k1 k2
      go_enter Try.func7, Try.ntmps7
      go_wp2_with (fail)
      refine (c1.at _).mono ?_
      rintro e_ w1 ⟨rfl, hb⟩
      clear c1
      go_wp2
      go_ret2
      exact ⟨rfl, hb⟩
    · rcases Int.lt_or_le 1048576 n with q2 | q2
      · have e1 : bke v n = 2 := by unfold bke; simp [hk, q2]; omega
        have e2 : bko v n = 0 := by unfold bko; simp [e1]
        rw [e1, e2]
        clear e1 e2 hk k1 k2
        go_enter Try.func7, Try.ntmps7
        go_wp2_with (fail)
        refine (c1.at _).mono ?_
        rintro e_ w1 ⟨rfl, hb⟩
        clear c1
        go_wp2
        go_ret2
        exact ⟨rfl, hb⟩
      · obtain ⟨m, rfl⟩ : ∃ m : Nat, n = (m : Int) := ⟨n.toNat, by omega⟩
        have e1 : bke v (m : Int) = 0 := by unfold bke; simp [hk]; omega
        have e2 : bko v (m : Int) = (bkd (dg v) (4 + m) : Int) := by unfold bko; simp [e1]
        have c2 := r_least v hv12 (4 + m) (by omega)
        rw [e1, e2]
        generalize bkd (dg v) (4 + m) = b at *
        rw [show ((4 + m : Nat) : Int) = (m : Int) + 4 by omega] at c2
        clear e1 e2 hk k1 k2 hv12
        go_enter Try.func7, Try.ntmps7
        go_wp2_with (fail)
        refine (c1.at _).mono ?_
        rintro e_ w1 ⟨rfl, hb⟩
        clear c1
        go_wp2_with (fail)
        refine (c2.at _).mono ?_
        rintro e_ w2 ⟨rfl, hb2⟩
        replace hb := Below.after hb hb2
        clear hb2 c2
        go_wp2
        go_ret2
        exact ⟨rfl, hb⟩
/-- What Length answers. -/
def lno (v : Nat) (n : Int) : Int := if bke v n = 0 then 83 + ((en (bkd (dg v) (4 + n.toNat) + 16)).length : Int) + ((bkd (dg v) (4 + n.toNat) : Int) + 16) else 0
theorem bke_ok {v : Nat} {n : Int} (h : bke v n = 0) : known v = true ∧ 0 ≤ n ∧ n ≤ 1048576 := by
  unfold bke at h
  split at h
  · rename_i q
    refine ⟨q, ?_⟩
    split at h
    · cases h
    · split at h
      · cases h
      · omega
  · cases h
theorem bkd_bd (v : Nat) (n : Int) (h0 : 0 ≤ n) (h : n ≤ 1048576) : bkd (dg v) (4 + n.toNat) ≤ 2097160 := by
  have := bkd_le (dg v) (4 + n.toNat) (dg_pos v)
  have : max (4 + n.toNat) 64 ≤ 1048580 := Nat.max_le.2 ⟨by omega, by decide⟩
  omega
theorem ne_dec (v : Nat) (n : Int) (h : ¬ bke v n = 0) : (bke v n == 0) = false := by simp [h]
set_option maxRecDepth 100000 in
set_option maxHeartbeats 4000000 in
theorem a_Length (ver : Int) (v : Nat) (hv : IntKind.wrap .u64 ver = (v : Int)) (hv2 : v < 18446744073709551616) (n : Int) : Gives 8 #[.int .i64 ver, .int .i64 n] (.tuple #[.int .i64 (lno v n), .int .i64 (bke v n)]) := by
  intro w
  have c1 := a_Bucket ver v hv hv2 n
  by_cases hz : bke v n = 0
  · obtain ⟨hk, q1, q2⟩ := bke_ok hz
    have hbd := bkd_bd v n q1 q2
    have e2 : bko v n = (bkd (dg v) (4 + n.toNat) : Int) := by unfold bko; simp [hz]
    have e3 : lno v n = 83 + ((en (bkd (dg v) (4 + n.toNat) + 16)).length : Int) + ((bkd (dg v) (4 + n.toNat) : Int) + 16) := by unfold lno; simp [hz]
    rw [e2, hz] at c1
    rw [e3, hz]
    have c2 := a_size (bkd (dg v) (4 + n.toNat) + 16) (by omega)
    have hl := en_ten (n := bkd (dg v) (4 + n.toNat) + 16) (by omega)
    generalize (en (bkd (dg v) (4 + n.toNat) + 16)).length = len at *
    generalize bkd (dg v) (4 + n.toNat) = b at *
    rw [show ((b + 16 : Nat) : Int) = (b : Int) + 16 by omega] at c2
    clear e2 e3 hz hk
    go_enter Try.func8, Try.ntmps8
    go_wp2_with (fail)
    refine (c1.at _).mono ?_
    rintro e_ w1 ⟨rfl, hb⟩
    clear c1
    go_wp2_with (fail)
    refine (c2.at _).mono ?_
    rintro e_ w2 ⟨rfl, hb2⟩
    replace hb := Below.after hb hb2
    clear hb2 c2
    go_wp2
    go_ret2
    exact ⟨rfl, hb⟩
  · have e2 : bko v n = 0 := by unfold bko; simp [hz]
    have e3 : lno v n = 0 := by unfold lno; simp [hz]
    have e4 := ne_dec v n hz
    rw [e2] at c1
    rw [e3]
    generalize bke v n = e at *
    clear e2 e3
    go_enter Try.func8, Try.ntmps8
    go_wp2_with (fail)
    refine (c1.at _).mono ?_
    rintro e_ w1 ⟨rfl, hb⟩
    clear c1
    go_wp2
    go_ret2
    exact ⟨rfl, hb⟩
set_option maxRecDepth 100000 in
set_option maxHeartbeats 4000000 in
theorem r_Length (ver : Int) (v : Nat) (hv : IntKind.wrap .u64 ver = (v : Int)) (n : Int) (h1 : -9223372036854775808 ≤ ver) (h2 : ver ≤ 9223372036854775807) : Gives 9 #[.int .i64 ver, .int .i64 n] (.tuple #[.int .i64 (lno v n), .int .i64 (bke v n)]) := by
  intro w
  have c1 := r_Bucket ver v hv n h1 h2
  by_cases hz : bke v n = 0
  · obtain ⟨hk, q1, q2⟩ := bke_ok hz
    have hbd := bkd_bd v n q1 q2
    have e2 : bko v n = (bkd (dg v) (4 + n.toNat) : Int) := by unfold bko; simp [hz]
    have e3 : lno v n = 83 + ((en (bkd (dg v) (4 + n.toNat) + 16)).length : Int) + ((bkd (dg v) (4 + n.toNat) : Int) + 16) := by unfold lno; simp [hz]
    rw [e2, hz] at c1
    rw [e3, hz]
    have c2 := r_size (bkd (dg v) (4 + n.toNat) + 16) (by omega)
    have hl := en_ten (n := bkd (dg v) (4 + n.toNat) + 16) (by omega)
    generalize (en (bkd (dg v) (4 + n.toNat) + 16)).length = len at *
    generalize bkd (dg v) (4 + n.toNat) = b at *
    rw [show ((b + 16 : Nat) : Int) = (b : Int) + 16 by omega] at c2
    clear e2 e3 hz hk
    go_enter Try.func9, Try.ntmps9
    go_wp2_with (fail)
    refine (c1.at _).mono ?_
    rintro e_ w1 ⟨rfl, hb⟩
    clear c1
    go_wp2_with (fail)
    refine (c2.at _).mono ?_
    rintro e_ w2 ⟨rfl, hb2⟩
    replace hb := Below.after hb hb2
    clear hb2 c2
    go_wp2
    go_ret2
    exact ⟨rfl, hb⟩
  · have e2 : bko v n = 0 := by unfold bko; simp [hz]
    have e3 : lno v n = 0 := by unfold lno; simp [hz]
    have e4 := ne_dec v n hz
    rw [e2] at c1
    rw [e3]
    generalize bke v n = e at *
    clear e2 e3
    go_enter Try.func9, Try.ntmps9
    go_wp2_with (fail)
    refine (c1.at _).mono ?_
    rintro e_ w1 ⟨rfl, hb⟩
    clear c1
    go_wp2
    go_ret2
    exact ⟨rfl, hb⟩
set_option maxRecDepth 100000 in
set_option maxHeartbeats 4000000 in
/-- P10.1, P10.2: every Bucket and Length. -/
theorem buckets_any (ver n : Int) (h1 : -9223372036854775808 ≤ ver) (h2 : ver ≤ 9223372036854775807) : Gives 3 #[.int .i64 ver, .int .i64 n] (.bool true) := by
  intro w
  obtain ⟨v, hv, hv2⟩ := ver_nat ver
  have c1 := a_Bucket ver v hv hv2 n
  have c2 := r_Bucket ver v hv n h1 h2
  have c3 := a_Length ver v hv hv2 n
  have c4 := r_Length ver v hv n h1 h2
  generalize bko v n = a at *
  generalize bke v n = b at *
  generalize lno v n = c at *
  go_enter Try.func3, Try.ntmps3
  go_wp2_with (fail)
  refine (c1.at _).mono ?_
  rintro e_ w1 ⟨rfl, hb⟩
  clear c1
  go_wp2_with (fail)
  refine (c2.at _).mono ?_
  rintro e_ w2 ⟨rfl, hb2⟩
  replace hb := Below.after hb hb2
  clear hb2 c2
  go_wp2_with (fail)
  refine (c3.at _).mono ?_
  rintro e_ w3 ⟨rfl, hb2⟩
  replace hb := Below.after hb hb2
  clear hb2 c3
  go_wp2_with (fail)
  refine (c4.at _).mono ?_
  rintro e_ w4 ⟨rfl, hb2⟩
  replace hb := Below.after hb hb2
  clear hb2 c4
  go_wp2
  go_ret
  exact ⟨rfl, hb⟩
end Go.Proofs.Ytmiljapieehmgaa
