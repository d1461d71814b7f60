import Derived.Test.YtmiljapieehmgaaProg
import Derived.WalkKit
import Derived.WalkSpells
import Derived.WalkLawsBesides
import Derived.Lib.QuietBelow
import Derived.Laws.BitsAllLaws
import Derived.BigQuiet
import Derived.WalkMore
import Derived.Test.YtmiljapieehmgaaKit
import Derived.Test.YtmiljapieehmgaaIj
namespace Go.Proofs.Ytmiljapieehmgaa
open Go Go.RowKit Go.Sort
attribute [local go_sem] setCell_drewN alloc_drewN

/-- The number that k bytes say, the least first. -/
def cnk (b : List B) : Nat → Nat
  | 0 => 0
  | k + 1 => cnk b k + (gb b k).toNat * 256 ^ k
def cnt (b : List B) : Nat := cnk b 4
theorem cnk_lt (b : List B) : ∀ k, cnk b k < 256 ^ k
  | 0 => by simp [cnk]
  | k + 1 => by
    have h := cnk_lt b k
    have h2 := (gb b k).isLt
    have h3 : (gb b k).toNat * 256 ^ k ≤ 255 * 256 ^ k := Nat.mul_le_mul_right _ (by omega)
    rw [cnk, Nat.pow_succ]
    omega
theorem pow_256 (k : Nat) : 256 ^ k = 2 ^ (8 * k) := by rw [Nat.pow_mul]
theorem cnk_or (b : List B) (k : Nat) : cnk b k ||| ((gb b k).toNat * 256 ^ k) = cnk b (k + 1) := by
  have h := Nat.shiftLeft_add_eq_or_of_lt (i := 8 * k) (b := cnk b k) (by rw [← pow_256]; exact cnk_lt b k) (gb b k).toNat
  rw [Nat.shiftLeft_eq, ← pow_256] at h
  rw [Nat.or_comm, ← h, cnk, Nat.add_comm]
theorem cnk_step (d : List B) (k : Nat) (hk : k < 4) : bits .or .u32 (cnk d k : Int) (bv (gb d k) % 4294967296 * 2 ^ (8 * k) % 4294967296) = (cnk d (k + 1) : Int) := by
  have h1 := cnk_lt d k
  have h2 := cnk_lt d (k + 1)
  have h3 := (gb d k).isLt
  have hp : 256 ^ (k + 1) ≤ 256 ^ 4 := Nat.pow_le_pow_right (by decide) (by omega)
  have hp2 : (256 : Nat) ^ 4 = 4294967296 := by decide
  have h4 : (gb d k).toNat * 256 ^ k < 4294967296 := by
    have h5 : (gb d k).toNat * 256 ^ k ≤ 255 * 256 ^ k := Nat.mul_le_mul_right _ (by omega)
    rw [Nat.pow_succ] at hp
    have h6 := Nat.pow_pos (n := k) (show 0 < 256 by decide)
    omega
  have h7 : cnk d k < 4294967296 := by
    have := Nat.pow_lt_pow_right (show 1 < 256 by decide) hk
    omega
  have e1 : bv (gb d k) % 4294967296 * 2 ^ (8 * k) % 4294967296 = (((gb d k).toNat * 256 ^ k : Nat) : Int) := by
    unfold bv
    rw [show (((gb d k).toNat : Nat) : Int) % 4294967296 = (((gb d k).toNat : Nat) : Int) by omega, pow_256, show ((2 : Int) ^ (8 * k)) = ((2 ^ (8 * k) : Nat) : Int) by rw [Int.natCast_pow]; rfl, ← Int.natCast_mul]
    rw [pow_256] at h4
    exact Int.emod_eq_of_lt (by omega) (by omega)
  rw [e1, ← cnk_or]
  exact u32_or_nat _ _ h7 h4
set_option maxRecDepth 100000 in
set_option maxHeartbeats 4000000 in
theorem a_countIn (d : List B) (w : World) (dv : Value) (hD : BysB w dv d) : Calls Try.prog 25 #[dv] w fun e w' => e = .returned (.tuple #[.int .i64 (if d.length < 4 then 0 else (cnt d : Int)), .bool (!decide (d.length < 4) && decide (cnt d ≤ 1048576))]) ∧ Below w.heap.size w w' := by
  by_cases h4 : d.length < 4
  · obtain ⟨ao, cap, rfl⟩ := hD.form
    have hd : decide ((d.length : Int) < 4) = true := by simp; omega
    simp only [h4]
    go_enter Try.func25, Try.ntmps25
    go_wp2
    go_ret2
    exact ⟨rfl, Below.refl _ _⟩
  · obtain ⟨ao, cap, rfl⟩ := hD.form
    have hcell := fun j (hj : j < 4) => hD.cellAt (j := j) (show j < d.length by omega)
    have hd : decide ((d.length : Int) < 4) = false := by simp; omega
    simp only [h4]
    go_enter Try.func25, Try.ntmps25
    go_wp2
    go_loopw [4, 9, 5] (fun n i j wr => ∃ k : Nat, k ≤ 4 ∧ i = .int .i64 k ∧ n = .int .u32 (cnk d k : Int) ∧ wr = w) (fun _ i _ _ => 4 - (intOf i).toNat)
    case atStart => exact ⟨0, by omega, rfl, rfl, rfl⟩
    case round =>
      obtain ⟨k, hk, rfl, rfl, rfl⟩ := hrel
      by_cases hlt : k < 4
      · have hd : decide ((k : Int) < 4) = true := by simp; omega
        obtain ⟨b, off, rfl, hb, hc⟩ := hcell k hlt
        have ho := cnk_step d k hlt
        go_wp2
        refine ⟨⟨k + 1, by omega, by go_num, rfl, trivial⟩, ?_⟩
        simp [intOf]; omega
      · obtain rfl : k = 4 := by omega
        have hd : decide ((4 : Int) < 4) = false := by decide
        have hc4 := cnk_lt d 4
        have hq : decide ((cnk d 4 : Int) ≤ 1048576) = decide (cnk d 4 ≤ 1048576) := by simp; omega
        go_wp2
        go_ret2
        exact ⟨rfl, Below.refl _ _⟩
/-- Are all of them 0? -/
def azr (d : List B) : Bool := d.all (· == 0#8)
theorem azr_drop (d : List B) (k : Nat) (h : k < d.length) : azr (d.drop k) = ((gb d k == 0#8) && azr (d.drop (k + 1))) := by
  rw [drop_at d k h]; rfl
theorem bv_zero (x : B) : (bv x == 0) = (x == 0#8) := by
  have h : bv x = 0 ↔ x = 0#8 := ⟨fun e => bv_inj.1 (e.trans (show (0 : Int) = bv 0#8 from rfl)), fun e => by rw [e]; rfl⟩
  rw [Bool.eq_iff_iff, beq_iff_eq, beq_iff_eq]
  exact h
set_option maxRecDepth 100000 in
set_option maxHeartbeats 4000000 in
theorem a_allZero (d : List B) (w : World) (dv : Value) (hD : BysB w dv d) : Calls Try.prog 26 #[dv] w fun e w' => e = .returned (.bool (azr d)) ∧ Below w.heap.size w w' := by
  obtain ⟨ao, cap, rfl⟩ := hD.form
  have hcell := fun j (hj : j < d.length) => hD.cellAt (j := j) hj
  have hdl := hD.2.1
  go_enter Try.func26, Try.ntmps26
  go_wp2
  go_loopw [7, 4] (fun i x wr => ∃ k : Nat, k ≤ d.length ∧ i = .int .i64 k ∧ azr d = azr (d.drop k) ∧ wr = w) (fun i _ _ => d.length - (intOf i).toNat)
  case atStart => exact ⟨0, by omega, rfl, rfl, rfl⟩
  case round =>
    obtain ⟨k, hk, rfl, hz, rfl⟩ := hrel
    by_cases hlt : k < d.length
    · have hd : decide ((k : Int) < (d.length : Int)) = true := by simp; omega
      obtain ⟨b, off, rfl, hb, hc⟩ := hcell k hlt
      rw [azr_drop d k hlt, ← bv_zero] at hz
      generalize bv (gb d k) = x at *
      rcases hx : (x == 0)
      · rw [hx, Bool.false_and] at hz
        replace hz := hide hz
        go_wp2
        go_ret
        exact ⟨by rw [hz.out]; rfl, Below.refl _ _⟩
      · rw [hx, Bool.true_and] at hz
        replace hz := hide hz
        go_wp2
        refine ⟨⟨k + 1, by omega, by go_num, hz.out, trivial⟩, ?_⟩
        simp [intOf]; omega
    · obtain rfl : k = d.length := by omega
      have hd : decide ((d.length : Int) < (d.length : Int)) = false := by simp
      rw [List.drop_length] at hz
      replace hz := hide hz
      go_wp2
      go_ret
      exact ⟨by rw [hz.out]; rfl, Below.refl _ _⟩
/-- Is that a body, of a version that is known? -/
def upo (v : Nat) (b : List B) : Bool := !decide (b.length < 4) && decide (cnt b ≤ 1048576) && (bkd (dg v) (4 + cnt b) == b.length) && azr (b.drop (4 + cnt b))
def upe (v : Nat) (b : List B) : Int := if known v then (if upo v b then 0 else 101) else 100
def upr (v : Nat) (b : List B) : List B := if known v && upo v b then (b.drop 4).take (cnt b) else []
end Go.Proofs.Ytmiljapieehmgaa
