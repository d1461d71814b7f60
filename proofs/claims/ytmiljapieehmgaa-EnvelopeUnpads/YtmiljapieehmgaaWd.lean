import Derived.Test.YtmiljapieehmgaaProg
import Derived.WalkKit
import Derived.WalkSpells
import Derived.WalkLawsBesides
import Derived.Lib.QuietBelow
import Derived.Laws.BitsAllLaws
import Derived.BigQuiet
import Derived.WalkMore
import Derived.Test.YtmiljapieehmgaaKit
import Derived.Test.YtmiljapieehmgaaWc
namespace Go.Proofs.Ytmiljapieehmgaa
open Go Go.RowKit Go.Sort
attribute [local go_sem] setCell_drewN alloc_drewN

theorem or_one (n : Nat) : n ||| 1 = n / 2 * 2 + 1 := by
  have h := Nat.shiftLeft_add_eq_or_of_lt (i := 1) (b := 1) (by decide) (n / 2)
  rw [Nat.shiftLeft_eq, Nat.pow_one] at h
  rw [h]
  rcases Nat.mod_two_eq_zero_or_one n with e | e
  · rw [show n / 2 * 2 = n by omega]
  · have h2 : n / 2 * 2 ||| 1 = n := by omega
    conv => lhs; rw [← h2]
    rw [Nat.or_assoc, Nat.or_self]
set_option maxHeartbeats 1000000 in
theorem a_size (n : Nat) (hn : n < 18446744073709551616) : Gives 23 #[.int .u64 (n : Int)] (.int .i64 ((en n).length : Int)) := by
  intro w
  have e1 : bits .or .u64 (n : Int) 1 = ((n / 2 * 2 + 1 : Nat) : Int) := by
    have := u64_or_nat n 1 hn (by decide)
    rw [or_one] at this
    exact this
  obtain ⟨L, h0, h1, h2, h3, h4⟩ := a_len64 (n / 2 * 2 + 1) (by omega) (by omega)
  have hl : (en n).length = (L + 6) / 7 := by
    refine en_bits h0 ?_ (by omega)
    rcases Nat.lt_or_ge 1 L with q | q
    · left
      have : 2 ^ (L - 1) = 2 * 2 ^ (L - 2) := by rw [show L - 1 = (L - 2) + 1 by omega, Nat.pow_succ, Nat.mul_comm]
      omega
    · obtain rfl : L = 1 := by omega
      rcases Nat.eq_zero_or_pos n with e | e
      · exact .inr ⟨e, rfl⟩
      · exact .inl e
  have e2 : ((L : Int) + 7 - 1) / 7 = ((en n).length : Int) := by rw [hl]; omega
  generalize (en n).length = len at *
  generalize n / 2 * 2 + 1 = m at *
  clear h2 h3 hl
  go_enter Try.func23, Try.ntmps23
  go_wp2_with (first | (simp only [e1]) | fail)
  refine (h4.at _).mono ?_
  rintro e_ w1 ⟨rfl, hb⟩
  go_wp2
  go_ret
  exact ⟨congrArg _ (congrArg _ e2), hb⟩
/-- What Number answers. -/
def nres (p : Nat) : RN → Value
  | .ok v n => .tuple #[.int .u64 (v : Int), .int .i64 ((p + n : Nat) : Int), .int .i64 0]
  | .er e => .tuple #[.int .u64 0, .int .i64 0, .int .i64 e]
/-- k digits came to a. -/
def shr (k a : Nat) : RN → RN
  | .ok v n => .ok (a + 2 ^ (7 * k) * v) (n + k)
  | .er e => .er e
theorem BysB.cellAt {W : World} {ao : Option Addr} {l cap : Nat} {bs : List B} (h : BysB W (.slice ao l cap) bs) {j : Nat} (hj : j < bs.length) : ∃ b off, ao = some ⟨b, off, none⟩ ∧ b < W.heap.size ∧ W.cell? ⟨b, off + j, none⟩ = some (.int .u8 (bv (gb bs j))) := by
  obtain ⟨⟨ao', cap', e, _, hc, _⟩, _, _⟩ := h
  cases e
  obtain ⟨b, off, h1, h2, h3⟩ := hc j (by rw [bl_len]; exact hj)
  exact ⟨b, off, h1, h2, by rw [h3, bl_get]; rfl⟩
theorem BysB.form {W : World} {v : Value} {bs : List B} (h : BysB W v bs) : ∃ ao cap, v = .slice ao bs.length cap := by
  obtain ⟨⟨ao, cap, e, _⟩, _⟩ := h
  rw [bl_len] at e
  exact ⟨ao, cap, e⟩
theorem drop_at (bs : List B) (j : Nat) (h : j < bs.length) : bs.drop j = gb bs j :: bs.drop (j + 1) := by
  rw [List.drop_eq_getElem_cons h, gb, List.getD_eq_getElem?_getD, List.getElem?_eq_getElem h]
  rfl
theorem num_lt {a s z : Nat} (ha : a < 2 ^ s) : a + z % 128 * 2 ^ s < 2 ^ (s + 7) := by
  rw [Nat.pow_add]
  have h1 : z % 128 * 2 ^ s ≤ 127 * 2 ^ s := Nat.mul_le_mul_right _ (by omega)
  omega
theorem num_64 {a s : Nat} {x : B} (ha : a < 2 ^ s) (hs : s ≤ 63) (h : ¬ (57 < s ∧ 1 < x.toNat)) : a + x.toNat % 128 * 2 ^ s < 18446744073709551616 := by
  rcases Nat.lt_or_ge 57 s with q | q
  · have h1 : x.toNat % 128 * 2 ^ s ≤ 1 * 2 ^ s := Nat.mul_le_mul_right _ (by omega)
    have h2 : 2 ^ s ≤ 2 ^ 63 := Nat.pow_le_pow_right (by decide) hs
    omega
  · have h1 := num_lt (z := x.toNat) ha
    have h2 : 2 ^ (s + 7) ≤ 2 ^ 64 := Nat.pow_le_pow_right (by decide) (by omega)
    omega
theorem num_or {a s : Nat} {x : B} (ha : a < 2 ^ s) (hs : s ≤ 63) (h : ¬ (57 < s ∧ 1 < x.toNat)) : bits .or .u64 (a : Int) (IntKind.u64.wrap (bv x % 128 * 2 ^ min s 64)) = ((a + x.toNat % 128 * 2 ^ s : Nat) : Int) := by
  have h6 := num_64 ha hs h
  have e1 : bv x % 128 * 2 ^ min s 64 = ((x.toNat % 128 * 2 ^ s : Nat) : Int) := by
    rw [Nat.min_eq_left (by omega)]
    simp [bv]
  rw [e1, IntKind.wrap_u64, Int.emod_eq_of_lt (by omega) (by omega), u64_or_nat _ _ (by omega) (by omega)]
  congr 1
  have := Nat.shiftLeft_add_eq_or_of_lt ha (x.toNat % 128)
  rw [Nat.shiftLeft_eq] at this
  rw [Nat.or_comm, ← this, Nat.add_comm]
theorem or128 : ∀ z : Fin 256, bits .or .u8 ((z.val : Nat) : Int) 128 = ((z.val % 128 + 128 : Nat) : Int) := by decide +kernel
theorem by_hi (n : Nat) : bits .or .u8 ((n : Int) % 256) 128 = bv (BitVec.ofNat 8 (n % 128 + 128)) := by
  have h := or128 ⟨n % 256, by omega⟩
  simp only at h
  rw [Int.natCast_emod] at h
  rw [show (256 : Int) = ((256 : Nat) : Int) from rfl, h, bv, BitVec.toNat_ofNat]
  omega
theorem by_lo {n : Nat} (_h : n < 128) : (n : Int) % 256 = bv (BitVec.ofNat 8 n) := by
  rw [bv, BitVec.toNat_ofNat]; omega
theorem by_lo' {n : Nat} (h : n < 128) : (n : Int) = bv (BitVec.ofNat 8 n) := by
  rw [bv, BitVec.toNat_ofNat]; omega
theorem by_hi2 (n : Nat) : ((n : Int) % 128 + 128) = bv (BitVec.ofNat 8 (n % 128 + 128)) := by
  rw [bv, BitVec.toNat_ofNat]; omega
theorem own_alloc {W : World} {b : Nat} {v : Value} {d : List B} (h : Own W b v d) (o : Obj) : Own (W.alloc o) b v d := World.ownsRow.alloc h o
end Go.Proofs.Ytmiljapieehmgaa

