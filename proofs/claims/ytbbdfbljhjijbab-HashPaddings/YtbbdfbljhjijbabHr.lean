import Derived.Test.YtbbdfbljhjijbabProg
import Derived.WalkKit
import Derived.WalkSpells
import Derived.WalkLawsBesides
import Derived.Lib.QuietBelow
import Derived.BigQuiet
import Derived.Test.YtbbdfbljhjijbabKit
import Derived.Test.YtbbdfbljhjijbabHp
import Derived.Laws.Bits64b
namespace Go.Proofs.Ytbbdfbljhjijbab
open Go Go.RowKit Go.Sort
attribute [local go_sem] setCell_drewN alloc_drewN

/-- The number that the first k of the last eight bytes say. -/
def topn (n k : Nat) : Nat := 8 * n % 18446744073709551616 / 2 ^ (8 * (8 - k))
theorem topn_next (n k : Nat) (hk : k < 8) : topn n (k + 1) = 256 * topn n k + 8 * n % 18446744073709551616 / 2 ^ (8 * (7 - k)) % 256 := by
  unfold topn
  rw [show 8 - (k + 1) = 7 - k by omega, show 8 * (8 - k) = 8 * (7 - k) + 8 by omega, Nat.pow_add, ← Nat.div_div_eq_div_mul]
  generalize 8 * n % 18446744073709551616 / 2 ^ (8 * (7 - k)) = x
  omega
theorem topn_bd (n k : Nat) (hk : k < 8) : topn n k < 72057594037927936 := by
  unfold topn
  have h1 : 8 * n % 18446744073709551616 < 18446744073709551616 := Nat.mod_lt _ (by decide)
  have h2 : (256 : Nat) ≤ 2 ^ (8 * (8 - k)) := by
    have := Nat.pow_le_pow_right (n := 2) (by decide) (show 8 ≤ 8 * (8 - k) by omega)
    simpa using this
  exact Nat.div_lt_of_lt_mul (by omega)
theorem or_byte (a b : Nat) (ha : a < 72057594037927936) (hb : b < 256) : bits .or .u64 ((a : Int) * 256) (b : Int) = ((256 * a + b : Nat) : Int) := by
  have e : (a : Int) * 256 = ((a * 256 : Nat) : Int) := by omega
  rw [e, bits_or_u64_nat _ _ (by omega) (by omega)]
  have h := Nat.shiftLeft_add_eq_or_of_lt (i := 8) (b := b) (by omega) a
  rw [Nat.shiftLeft_eq] at h
  rw [show a * 256 ||| b = a * 2 ^ 8 ||| b from rfl, ← h]
  omega
theorem pad_at (n j : Nat) (hj : j < plen n) : (padL n).getD j 0 = if j = 0 then 128 else if plen n - 8 ≤ j then pbit n (plen n - 1 - j) else 0 := by
  rw [List.getD_eq_getElem?_getD]
  simp [padL, padP, hj]
set_option maxRecDepth 100000 in
set_option maxHeartbeats 4000000 in
theorem paddings_any (n : Nat) (hn : n < 18446744073709551616) (w : World) : Calls Try.prog 3 #[.int .u64 (n : Int)] w fun e w' => e = .returned (.bool true) ∧ Below w.heap.size w w' := by
  have hpb := plen_bd n
  have cP := a_pad n hn w
  have hpl : (padL n).length = plen n := padP_len n 8
  have hm : ((n : Int) % 64 + (plen n : Int)) % 64 = 0 := by unfold plen; omega
  go_enter Try.func3, Try.ntmps3
  go_wp2_with (fail)
  refine cP.mono ?_
  rintro e_ w1 ⟨v, g, rfl, rfl, hg, r0, hw⟩
  clear cP
  have hat := pad_at n
  have c0 := irow_cell r0 (j := 0) (by omega)
  rw [hat 0 (by omega), if_pos rfl] at c0
  have ht0 : topn n 0 = 0 := by
    unfold topn
    exact Nat.div_eq_of_lt (Nat.mod_lt _ (by decide))
  have ht8 : topn n 8 = 8 * n % 18446744073709551616 := by
    unfold topn
    simp
  generalize hL : plen n = L at *
  go_wp2
  go_loopw [4, 5] (fun v i wr => ∃ k : Nat, k ≤ 8 ∧ v = .int .u64 (topn n k : Int) ∧ i = .int .i64 ((L - 8 + k : Nat) : Int) ∧ wr = w1) (fun _ i _ => L - (intOf i).toNat)
  case atStart => exact ⟨0, by omega, by rw [ht0]; rfl, by congr 1; omega, rfl⟩
  case round =>
    obtain ⟨k, hk, rfl, rfl, rfl⟩ := hrel
    by_cases hlt : k < 8
    · have hd : decide (((L - 8 + k : Nat) : Int) < (L : Int)) = true := by simp; omega
      have c := irow_cell r0 (j := L - 8 + k) (by omega)
      rw [hat (L - 8 + k) (by omega), if_neg (by omega), if_pos (by omega), show L - 1 - (L - 8 + k) = 7 - k by omega] at c
      have hn1 := topn_next n k hlt
      have hor := or_byte (topn n k) (8 * n % 18446744073709551616 / 2 ^ (8 * (7 - k)) % 256) (topn_bd n k hlt) (Nat.mod_lt _ (by decide))
      rw [← hn1] at hor
      have hbd := topn_bd n k hlt
      have hbb := pbit_bd n (7 - k)
      rw [show ((8 * n % 18446744073709551616 / 2 ^ (8 * (7 - k)) % 256 : Nat) : Int) = pbit n (7 - k) from rfl] at hor
      generalize et1 : topn n (k + 1) = t1 at *
      generalize topn n k = t0 at *
      generalize pbit n (7 - k) = z at *
      clear hn1 c0 hat
      have hp : L - 8 + k < L := by omega
      generalize ep : L - 8 + k = p at *
      replace et1 := hide et1
      replace ep := hide ep
      go_wp2
      refine ⟨⟨k + 1, by omega, by rw [et1.out], by congr 1; have := ep.out; omega, trivial⟩, ?_⟩
      simp [intOf]; omega
    · obtain rfl : k = 8 := by omega
      have hd : decide (((L - 8 + 8 : Nat) : Int) < (L : Int)) = false := by simp; omega
      go_wp2
      go_loopw [6] (fun i wr' => ∃ k : Nat, 1 ≤ k ∧ k ≤ L - 8 ∧ i = .int .i64 (k : Int) ∧ wr' = wr) (fun i _ => L - (intOf i).toNat)
      case atStart => exact ⟨1, by omega, by omega, rfl, rfl⟩
      case round =>
        obtain ⟨k, hk0, hk, rfl, rfl⟩ := hrel
        by_cases hlt : k < L - 8
        · have hd : decide ((k : Int) < (L : Int) - 8) = true := by simp; omega
          have c := irow_cell r0 (j := k) (by omega)
          rw [hat k (by omega), if_neg (by omega), if_neg (by omega)] at c
          clear hat c0
          go_wp2
          refine ⟨⟨k + 1, by omega, by omega, by go_num, trivial⟩, ?_⟩
          simp [intOf]; omega
        · obtain rfl : k = L - 8 := by omega
          have hd : decide (((L - 8 : Nat) : Int) < (L : Int) - 8) = false := by simp; omega
          have he : (8 * (n : Int) % 18446744073709551616 == IntKind.u64.wrap ((n : Int) * 8)) = true := by rw [IntKind.wrap_u64, Int.mul_comm, beq_iff_eq]
          clear hat c0
          go_wp2
          go_ret
          exact ⟨rfl, hw⟩

end Go.Proofs.Ytbbdfbljhjijbab

