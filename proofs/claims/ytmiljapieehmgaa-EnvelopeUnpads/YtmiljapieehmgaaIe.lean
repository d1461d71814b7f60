import Derived.Test.YtmiljapieehmgaaProg
import Derived.WalkKit
import Derived.WalkSpells
import Derived.WalkLawsBesides
import Derived.Lib.QuietBelow
import Derived.Laws.BitsAllLaws
import Derived.BigQuiet
import Derived.WalkMore
import Derived.Test.YtmiljapieehmgaaKit
import Derived.Test.YtmiljapieehmgaaId
import Derived.Test.YtmiljapieehmgaaWe
namespace Go.Proofs.Ytmiljapieehmgaa
open Go Go.RowKit Go.Sort
attribute [local go_sem] setCell_drewN alloc_drewN

set_option maxRecDepth 100000 in
set_option maxHeartbeats 4000000 in
theorem r_next1 (b : Nat) (hb : b ≤ 1152921504606846976) : Gives 30 #[.int .i64 1, .int .i64 (b : Int)] (.int .i64 (2 * (b : Int))) := by
  intro w
  go_enter Try.func30, Try.ntmps30
  go_wp2
  go_ret
  exact ⟨rfl, Below.refl _ _⟩
theorem quo_big {m i j : Nat} (h8 : 8 ≤ m) (h : i < j) : 15 < m * 2 ^ j / 2 ^ i := by
  have hp : 0 < 2 ^ i := Nat.pow_pos (by decide)
  rw [show j = (j - i) + i by omega, Nat.pow_add, ← Nat.mul_assoc, Nat.mul_div_cancel _ hp]
  have h1 : 2 ^ 1 ≤ 2 ^ (j - i) := Nat.pow_le_pow_right (by decide) (by omega)
  have := Nat.mul_le_mul h8 h1
  omega
set_option maxRecDepth 100000 in
set_option maxHeartbeats 4000000 in
theorem r_next2 (m j : Nat) (h8 : 8 ≤ m) (h15 : m ≤ 15) (hb : m * 2 ^ j ≤ 1152921504606846976) : Gives 30 #[.int .i64 2, .int .i64 ((m * 2 ^ j : Nat) : Int)] (.int .i64 ((m * 2 ^ j + 2 ^ j : Nat) : Int)) := by
  intro w
  have hp : 2 ^ j ≤ m * 2 ^ j := Nat.le_mul_of_pos_left _ (by omega)
  have quo : ∀ i, i ≤ j → (decide (((m * 2 ^ j / 2 ^ i : Nat) : Int) > 15) = decide (i < j)) := fun i hi => by
    rcases Nat.lt_or_ge i j with q | q
    · rw [decide_eq_true q, decide_eq_true]
      have := quo_big h8 q
      omega
    · obtain rfl : i = j := by omega
      rw [decide_eq_false (Nat.lt_irrefl i), decide_eq_false]
      rw [Nat.mul_div_cancel _ (Nat.pow_pos (by decide))]
      omega
  have pos : ∀ i : Nat, 0 < 2 ^ i := fun i => Nat.pow_pos (by decide)
  have dbl : ∀ i, i < j → 2 * 2 ^ i ≤ 2 ^ j := fun i hi => by
    rw [← Nat.pow_succ']
    exact Nat.pow_le_pow_right (by decide) (by omega)
  generalize hB : m * 2 ^ j = b at *
  go_enter Try.func30, Try.ntmps30
  go_wp2
  go_loopw [5] (fun u wr => ∃ i k : Nat, i ≤ j ∧ k = 2 ^ i ∧ u = .int .i64 (k : Int) ∧ wr = w) (fun u _ => 2 ^ j - (intOf u).toNat)
  case atStart => exact ⟨0, 1, by omega, rfl, rfl, rfl⟩
  case round =>
    obtain ⟨i, k, hi, hk, rfl, rfl⟩ := hrel
    have q1 := quo i hi
    have q2 := pos i
    have q3 := dbl i
    rw [← hk] at q1 q2 q3
    have hk' := hide hk
    have hz : ¬ (k : Int) = 0 := by omega
    have hdv : ((b : Int)).tdiv (k : Int) = ((b / k : Nat) : Int) := by
      rw [Int.tdiv_eq_ediv_of_nonneg (by omega), Int.natCast_ediv]
    have hdl : b / k ≤ b := Nat.div_le_self _ _
    generalize b / k = q at *
    rcases Nat.lt_or_ge i j with c | c
    · rw [decide_eq_true c] at q1
      replace q3 := q3 c
      clear quo pos dbl hB hk
      generalize 2 ^ j = x at *
      go_wp2
      refine ⟨⟨i + 1, 2 * k, by omega, by rw [Nat.pow_succ', hk'.out], by go_num, trivial⟩, ?_⟩
      simp [intOf]; omega
    · obtain rfl : i = j := by omega
      rw [decide_eq_false (Nat.lt_irrefl i)] at q1
      clear quo pos dbl hB q3
      rw [← hk]
      rw [← hk] at hp
      clear hk
      go_wp2
      go_ret
      have e2 : 2 ^ i = k := hk'.out.symm
      rw [e2, Int.natCast_add]
      exact ⟨rfl, Below.refl _ _⟩
/-- Both steps of the document's, of a version that is known. -/
theorem r_next (v lo : Nat) (hv : v = 1 ∧ lo = 1 ∨ v = 2 ∧ lo = 8) (b : Nat) (hB : Bkt lo b) (hb : b ≤ 1152921504606846976) : ∃ c : Nat, Gives 30 #[.int .i64 (v : Int), .int .i64 (b : Int)] (.int .i64 (c : Int)) ∧ Bkt lo c ∧ b < c ∧ ∀ x, Bkt lo x → b < x → c ≤ x := by
  obtain ⟨h64, m, j, rfl, m1, m2⟩ := hB
  have hp : 0 < 2 ^ j := Nat.pow_pos (by decide)
  rcases hv with ⟨rfl, rfl⟩ | ⟨rfl, rfl⟩
  · obtain rfl : m = 1 := by omega
    refine ⟨1 * 2 ^ j + 2 ^ j, ?_, bkt_up (by decide) h64 m1 m2, by omega, fun x hx hl => bkt_next m1 hx hl⟩
    have := r_next1 (1 * 2 ^ j) hb
    rw [show (2 : Int) * ((1 * 2 ^ j : Nat) : Int) = ((1 * 2 ^ j + 2 ^ j : Nat) : Int) by omega] at this
    exact this
  · exact ⟨m * 2 ^ j + 2 ^ j, r_next2 m j m1 (by omega) hb, bkt_up (by decide) h64 m1 m2, by omega, fun x hx hl => bkt_next m1 hx hl⟩
theorem bkt_64 (lo : Nat) (h : lo = 1 ∨ lo = 8) : Bkt lo 64 := by
  rcases h with rfl | rfl
  · exact ⟨by decide, 1, 6, by decide, by decide, by decide⟩
  · exact ⟨by decide, 8, 3, by decide, by decide, by decide⟩
set_option maxRecDepth 100000 in
set_option maxHeartbeats 4000000 in
theorem r_least (v : Nat) (hv : v = 1 ∨ v = 2) (n : Nat) (hn : n ≤ 1152921504606846000) : Gives 22 #[.int .i64 (v : Int), .int .i64 (n : Int)] (.int .i64 (bkd (dg v) n : Int)) := by
  intro w
  obtain ⟨lo, hl, hlo⟩ : ∃ lo, (v = 1 ∧ lo = 1 ∨ v = 2 ∧ lo = 8) ∧ lo = 2 ^ (dg v - 1) := by
    rcases hv with rfl | rfl
    · exact ⟨1, .inl ⟨rfl, rfl⟩, rfl⟩
    · exact ⟨8, .inr ⟨rfl, rfl⟩, rfl⟩
  have hL := bkd_lst (dg v) n (dg_pos v) (dg_le v)
  rw [← hlo] at hL
  have h0 := bkt_64 lo (by omega)
  generalize bkd (dg v) n = z at *
  clear hlo
  go_enter Try.func22, Try.ntmps22
  go_wp2
  go_loopw [5] (fun u wr => ∃ b : Nat, Bkt lo b ∧ b ≤ z ∧ u = .int .i64 (b : Int) ∧ Below w.heap.size w wr) (fun u _ => n - (intOf u).toNat)
  case atStart => exact ⟨64, h0, hL.1.1, rfl, Below.refl _ _⟩
  case round =>
    obtain ⟨b, hb, hz, rfl, hw⟩ := hrel
    by_cases q : b < n
    · have hd : decide ((b : Int) < (n : Int)) = true := by simp; omega
      obtain ⟨c, c1, c2, c3, c4⟩ := r_next v lo hl b hb (by omega)
      have hcz : c ≤ z := c4 z hL.1 (by have := hL.2.1; omega)
      have hh := hide c2
      clear c4 hL h0 hb c2 hv hl
      go_wp2_with (fail)
      refine (c1.at _).mono ?_
      rintro e_ w1 ⟨rfl, hb1⟩
      replace hw := Below.after hw hb1
      clear c1 hb1
      go_wp2
      refine ⟨⟨c, hh.out, hcz, rfl, hw⟩, ?_⟩
      simp [intOf]; omega
    · have hd : decide ((b : Int) < (n : Int)) = false := by simp; omega
      have e : b = z := by have := hL.2.2 b hb (by omega); omega
      clear hL h0 hb hl hz
      subst e
      go_wp2
      go_ret
      exact ⟨rfl, hw⟩
end Go.Proofs.Ytmiljapieehmgaa
