import Derived.Test.YtmiljapieehmgaaProg
import Derived.WalkKit
import Derived.WalkSpells
import Derived.WalkLawsBesides
import Derived.Lib.QuietBelow
import Derived.Laws.BitsAllLaws
import Derived.BigQuiet
import Derived.WalkMore
import Derived.Test.YtmiljapieehmgaaKit
import Derived.Test.YtmiljapieehmgaaIa
import Derived.Test.YtmiljapieehmgaaIb
import Derived.Test.YtmiljapieehmgaaWc
namespace Go.Proofs.Ytmiljapieehmgaa
open Go Go.RowKit Go.Sort
attribute [local go_sem] setCell_drewN alloc_drewN

set_option maxRecDepth 100000 in
set_option maxHeartbeats 4000000 in
theorem a_len (x : Nat) (h0 : 1 ≤ x) (hx : x < 18446744073709551616) : ∃ L : Nat, 0 < L ∧ L ≤ 64 ∧ 2 ^ (L - 1) ≤ x ∧ x < 2 ^ L ∧ Gives 34 #[.int .u64 (x : Int)] (.int .i64 (L : Int)) := by
  obtain ⟨L, g0, g1, g2, g3, g4⟩ := a_len64 x h0 hx
  refine ⟨L, g0, g1, g2, g3, fun w => ?_⟩
  clear g2 g3
  go_enter Try.func34, Try.ntmps34
  go_wp2_with (fail)
  refine (g4.at _).mono ?_
  rintro e_ w1 ⟨rfl, hb⟩
  go_wp2
  go_ret
  exact ⟨rfl, hb⟩
theorem kw (L d k : Nat) (hk : stp d L = k) : (2 : Int) ^ (L - d) = (k : Int) := by rw [← hk, stp, Int.natCast_pow]; rfl
theorem kr (L d k : Nat) (hk : stp d L = k) (hk1 : k ≤ 1152921504606846976) : wrap64 ((2 : Int) ^ (L - d)) = (k : Int) := by
  rw [kw L d k hk]; exact IntWalk.wrap64_in _ ⟨by omega, by omega⟩
theorem stp_le {L d : Nat} (h : L - d ≤ 60) : stp d L ≤ 1152921504606846976 := Nat.le_trans (Nat.pow_le_pow_right (by decide) h) (by decide)
theorem rup_wrap (r k : Nat) (hr : r ≤ 1152921504606846976) (hk1 : k ≤ 1152921504606846976) : wrap64 (wrap64 (((r + k - 1) / k : Nat) : Int) * (k : Int)) = (rup r k : Int) := by
  have h1 : (r + k - 1) / k ≤ r + k - 1 := Nat.div_le_self _ _
  have h2 := Nat.div_mul_le_self (r + k - 1) k
  unfold rup
  generalize (r + k - 1) / k = q at *
  rw [IntWalk.wrap64_in (q : Int) ⟨by omega, by omega⟩, ← Int.natCast_mul]
  exact IntWalk.wrap64_in _ ⟨by omega, by omega⟩
theorem len_bd {L r : Nat} (h64 : 64 ≤ r) (hr : r ≤ 1152921504606846976) (g2 : 2 ^ (L - 1) ≤ r) (g3 : r < 2 ^ L) : 7 ≤ L ∧ L ≤ 61 := by
  constructor
  · rcases Nat.lt_or_ge L 7 with q | q
    · exfalso
      have : 2 ^ L ≤ 2 ^ 6 := Nat.pow_le_pow_right (by decide) (by omega)
      have : (2 : Nat) ^ 6 = 64 := by decide
      omega
    · exact q
  · rcases Nat.lt_or_ge 61 L with q | q
    · exfalso
      have h : 2 ^ 61 ≤ 2 ^ (L - 1) := Nat.pow_le_pow_right (by decide) (by omega)
      have h' : (2 : Nat) ^ 61 ≤ 1152921504606846976 := Nat.le_trans h (Nat.le_trans g2 hr)
      exact absurd h' (by decide)
    · exact q
set_option maxRecDepth 100000 in
set_option maxHeartbeats 4000000 in
theorem a_roundUp (d n : Nat) (hd : 0 < d) (h7 : d ≤ 7) (hn : n ≤ 1152921504606846976) : Gives 33 #[.int .i64 (n : Int), .int .i64 (d : Int)] (.int .i64 (bkd d n : Int)) := by
  intro w
  have hm : (64 : Nat) ≤ max n 64 := Nat.le_max_right n 64
  have hm2 : max n 64 ≤ 1152921504606846976 := Nat.max_le.2 ⟨hn, by decide⟩
  obtain ⟨L, g0, g1, g2, g3, g4⟩ := a_len (max n 64) (by omega) (by omega)
  obtain ⟨hL, hL2⟩ := len_bd hm hm2 g2 g3
  have key := bkd_of d L n hd (by omega) g2 g3 h7
  obtain ⟨k, hk⟩ : ∃ k, stp d L = k := ⟨_, rfl⟩
  have hk1 : k ≤ 1152921504606846976 := by rw [← hk]; exact stp_le (by omega)
  have hk0 : 0 < k := by rw [← hk]; exact Nat.pow_pos (by decide)
  have hwr := kr L d k hk hk1
  rw [hk] at key
  clear g2 g3 hm hm2 hk
  have hz : ¬ (k : Int) = 0 := by omega
  rcases Nat.lt_or_ge n 64 with q | q
  · rw [Nat.max_eq_right (by omega)] at g4 key
    replace g4 : Gives 34 #[.int .u64 64] (.int .i64 (L : Int)) := g4
    have hq : ¬ (64 : Int) ≤ (n : Int) := by omega
    have fin := rup_wrap 64 k (by decide) hk1
    obtain ⟨z, hz2⟩ : ∃ z : Int, (((64 + k - 1) / k : Nat) : Int) = z := ⟨_, rfl⟩
    have hdv : ((64 : Int) + (k : Int) - 1).tdiv (k : Int) = z := by
      rw [← hz2, Int.tdiv_eq_ediv_of_nonneg (by omega), Int.natCast_ediv]
      congr 1
      omega
    rw [key, hz2] at fin
    clear key hz2 hd
    go_enter Try.func33, Try.ntmps33
    go_wp2_with (fail)
    · refine (g4.at _).mono ?_
      rintro e_ w1 ⟨rfl, hb⟩
      go_wp2
      go_ret
      exact ⟨by rw [fin]; rfl, hb⟩
  · rw [Nat.max_eq_left (by omega)] at g4 key
    have hq : (64 : Int) ≤ (n : Int) := by omega
    have fin := rup_wrap n k hn hk1
    obtain ⟨z, hz2⟩ : ∃ z : Int, (((n + k - 1) / k : Nat) : Int) = z := ⟨_, rfl⟩
    have hdv : ((n : Int) + (k : Int) - 1).tdiv (k : Int) = z := by
      rw [← hz2, Int.tdiv_eq_ediv_of_nonneg (by omega), Int.natCast_ediv]
      congr 1
      omega
    rw [key, hz2] at fin
    clear key hz2 hd
    go_enter Try.func33, Try.ntmps33
    go_wp2_with (fail)
    · refine (g4.at _).mono ?_
      rintro e_ w1 ⟨rfl, hb⟩
      go_wp2
      go_ret
      exact ⟨by rw [fin]; rfl, hb⟩
set_option maxRecDepth 100000 in
set_option maxHeartbeats 4000000 in
theorem a_powers (n : Nat) (hn : n ≤ 1152921504606846976) : Gives 28 #[.int .i64 (n : Int)] (.int .i64 (bkd 1 n : Int)) := by
  intro w
  have g4 : Gives 33 #[.int .i64 (n : Int), .int .i64 1] (.int .i64 (bkd 1 n : Int)) := a_roundUp 1 n (by decide) (by decide) hn
  generalize bkd 1 n = b at *
  go_enter Try.func28, Try.ntmps28
  go_wp2_with (fail)
  refine (g4.at _).mono ?_
  rintro e_ w1 ⟨rfl, hb⟩
  go_wp2
  go_ret
  exact ⟨rfl, hb⟩
set_option maxRecDepth 100000 in
set_option maxHeartbeats 4000000 in
theorem a_eighths (n : Nat) (hn : n ≤ 1152921504606846976) : Gives 29 #[.int .i64 (n : Int)] (.int .i64 (bkd 4 n : Int)) := by
  intro w
  have g4 : Gives 33 #[.int .i64 (n : Int), .int .i64 4] (.int .i64 (bkd 4 n : Int)) := a_roundUp 4 n (by decide) (by decide) hn
  generalize bkd 4 n = b at *
  go_enter Try.func29, Try.ntmps29
  go_wp2_with (fail)
  refine (g4.at _).mono ?_
  rintro e_ w1 ⟨rfl, hb⟩
  go_wp2
  go_ret
  exact ⟨rfl, hb⟩
/-- The function of a version that is known. -/
def bkn (v : Nat) : FuncId := if v = 1 then 28 else 29
theorem bkf_known {v : Nat} (h : known v = true) : bkf v = .func (.func (bkn v)) #[] #[] := by
  unfold known at h
  unfold bkf bkn
  rcases Nat.decEq v 1 with h1 | rfl
  · rcases Nat.decEq v 2 with h2 | rfl
    · simp [h1, h2] at h
    · rfl
  · rfl
theorem a_bkn (v n : Nat) (hn : n ≤ 1152921504606846976) : Gives (bkn v) #[.int .i64 (n : Int)] (.int .i64 (bkd (dg v) n : Int)) := by
  unfold bkn dg
  split
  · exact a_powers n hn
  · exact a_eighths n hn
set_option maxRecDepth 100000 in
set_option maxHeartbeats 4000000 in
theorem a_bucketOf (v n : Nat) (h : known v = true) (hn : n ≤ 1152921504606846000) : Gives 20 #[.agg #[.int .u64 (v : Int), bkf v], .int .i64 (n : Int)] (.int .i64 (bkd (dg v) (4 + n) : Int)) := by
  intro w
  have g4 := a_bkn v (4 + n) (by omega)
  rw [bkf_known h]
  generalize bkd (dg v) (4 + n) = b at *
  rw [show ((4 + n : Nat) : Int) = 4 + (n : Int) by omega] at g4
  obtain ⟨f, hf, hv⟩ : ∃ f, bkn v = f ∧ (f = 28 ∨ f = 29) := ⟨_, rfl, by unfold bkn; split <;> simp⟩
  rw [hf] at g4 ⊢
  clear h hf
  have hbl : ∀ o, Below w.heap.size w (w.alloc o) := fun o => (Below.refl _ _).alloc (Nat.le_refl _) _
  rcases hv with rfl | rfl
  all_goals
    go_enter Try.func20, Try.ntmps20
    go_wp2_with (fail)
    refine (g4.at _).mono ?_
    rintro e_ w1 ⟨rfl, hb⟩
    replace hb := (hbl _).trans (hb.mono (by simp))
    go_wp2
    go_ret
    exact ⟨rfl, hb⟩
/-- What Bucket answers. -/
def bke (v : Nat) (n : Int) : Int := if known v then (if n < 0 then 1 else if 1048576 < n then 2 else 0) else 100
def bko (v : Nat) (n : Int) : Int := if bke v n = 0 then (bkd (dg v) (4 + n.toNat) : Int) else 0
end Go.Proofs.Ytmiljapieehmgaa
