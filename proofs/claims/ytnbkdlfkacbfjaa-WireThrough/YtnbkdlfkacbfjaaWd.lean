import Derived.Test.YtnbkdlfkacbfjaaProg
import Derived.WalkKit
import Derived.WalkSpells
import Derived.WalkLawsBesides
import Derived.Lib.QuietBelow
import Derived.Laws.BitsAllLaws
import Derived.BigQuiet
import Derived.WalkMore
import Derived.Test.YtnbkdlfkacbfjaaKit
import Derived.Test.YtnbkdlfkacbfjaaWc
namespace Go.Proofs.Ytnbkdlfkacbfjaa
open Go Go.RowKit Go.Sort
attribute [local go_sem] setCell_drewN alloc_drewN

theorem or_one (n : Nat) : n ||| 1 = n / 2 * 2 + 1 := by
  have h := Nat.shiftLeft_add_eq_or_of_lt (i := 1) (b := 1) (by decide) (n / 2)
  rw [Nat.shiftLeft_eq, Nat.pow_one] at h
  rw [h]
  rcases Nat.mod_two_eq_zero_or_one n with e | e
  · rw [show n / 2 * 2 = n by omega]
  · have h2 : n / 2 * 2 ||| 1 = n := by omega
    conv => lhs; rw [← h2]
    rw [Nat.or_assoc, Nat.or_self]
/-- What Number answers. -/
def nres (p : Nat) : RN → Value
  | .ok v n => .tuple #[.int .u64 (v : Int), .int .i64 ((p + n : Nat) : Int), .int .i64 0]
  | .er e => .tuple #[.int .u64 0, .int .i64 0, .int .i64 e]
/-- k digits came to a. -/
def shr (k a : Nat) : RN → RN
  | .ok v n => .ok (a + 2 ^ (7 * k) * v) (n + k)
  | .er e => .er e
theorem BysB.cellAt {W : World} {ao : Option Addr} {l cap : Nat} {bs : List B} (h : BysB W (.slice ao l cap) bs) {j : Nat} (hj : j < bs.length) : ∃ b off, ao = some ⟨b, off, none⟩ ∧ b < W.heap.size ∧ W.cell? ⟨b, off + j, none⟩ = some (.int .u8 (bv (gb bs j))) := by
  obtain ⟨⟨ao', cap', e, _, hc, _⟩, _, _⟩ := h
  cases e
  obtain ⟨b, off, h1, h2, h3⟩ := hc j (by rw [bl_len]; exact hj)
  exact ⟨b, off, h1, h2, by rw [h3, bl_get]; rfl⟩
theorem BysB.form {W : World} {v : Value} {bs : List B} (h : BysB W v bs) : ∃ ao cap, v = .slice ao bs.length cap := by
  obtain ⟨⟨ao, cap, e, _⟩, _⟩ := h
  rw [bl_len] at e
  exact ⟨ao, cap, e⟩
theorem drop_at (bs : List B) (j : Nat) (h : j < bs.length) : bs.drop j = gb bs j :: bs.drop (j + 1) := by
  rw [List.drop_eq_getElem_cons h, gb, List.getD_eq_getElem?_getD, List.getElem?_eq_getElem h]
  rfl
theorem num_lt {a s z : Nat} (ha : a < 2 ^ s) : a + z % 128 * 2 ^ s < 2 ^ (s + 7) := by
  rw [Nat.pow_add]
  have h1 : z % 128 * 2 ^ s ≤ 127 * 2 ^ s := Nat.mul_le_mul_right _ (by omega)
  omega
theorem num_64 {a s : Nat} {x : B} (ha : a < 2 ^ s) (hs : s ≤ 63) (h : ¬ (57 < s ∧ 1 < x.toNat)) : a + x.toNat % 128 * 2 ^ s < 18446744073709551616 := by
  rcases Nat.lt_or_ge 57 s with q | q
  · have h1 : x.toNat % 128 * 2 ^ s ≤ 1 * 2 ^ s := Nat.mul_le_mul_right _ (by omega)
    have h2 : 2 ^ s ≤ 2 ^ 63 := Nat.pow_le_pow_right (by decide) hs
    omega
  · have h1 := num_lt (z := x.toNat) ha
    have h2 : 2 ^ (s + 7) ≤ 2 ^ 64 := Nat.pow_le_pow_right (by decide) (by omega)
    omega
theorem num_or {a s : Nat} {x : B} (ha : a < 2 ^ s) (hs : s ≤ 63) (h : ¬ (57 < s ∧ 1 < x.toNat)) : bits .or .u64 (a : Int) (IntKind.u64.wrap (bv x % 128 * 2 ^ min s 64)) = ((a + x.toNat % 128 * 2 ^ s : Nat) : Int) := by
  have h6 := num_64 ha hs h
  have e1 : bv x % 128 * 2 ^ min s 64 = ((x.toNat % 128 * 2 ^ s : Nat) : Int) := by
    rw [Nat.min_eq_left (by omega)]
    simp [bv]
  rw [e1, IntKind.wrap_u64, Int.emod_eq_of_lt (by omega) (by omega), u64_or_nat _ _ (by omega) (by omega)]
  congr 1
  have := Nat.shiftLeft_add_eq_or_of_lt ha (x.toNat % 128)
  rw [Nat.shiftLeft_eq] at this
  rw [Nat.or_comm, ← this, Nat.add_comm]
set_option maxRecDepth 100000 in
set_option maxHeartbeats 8000000 in
theorem a_number (bs : List B) (p : Nat) (hp : p ≤ bs.length) (w : World) (v : Value) (hB : BysB w v bs) : Calls Try.prog 18 #[v, .int .i64 (p : Int)] w fun e w' => e = .returned (nres p (rd 0 (bs.drop p))) ∧ Below w.heap.size w w' := by
  obtain ⟨ao, cap, rfl⟩ := hB.form
  have hlen := hB.2.1
  have d1 : decide ((p : Int) < 0) = false := by simp
  have d2 : decide ((p : Int) > (bs.length : Int)) = false := by simp; omega
  go_enter Try.func18, Try.ntmps18
  go_wp2
  go_step3
  go_wp2
  go_step3
  go_wp2
  go_loopw [7, 8, 9] (fun n e s wr => ∃ k a : Nat, k ≤ 9 ∧ p + k ≤ bs.length ∧ n = .int .u64 (a : Int) ∧ e = .int .i64 ((p + k : Nat) : Int) ∧ s = .int .i64 ((7 * k : Nat) : Int) ∧ a < 2 ^ (7 * k) ∧ rd 0 (bs.drop p) = shr k a (rd k (bs.drop (p + k))) ∧ wr = w) (fun _ _ s _ => 64 - (intOf s).toNat)
  case atStart => exact ⟨0, 0, by omega, by omega, rfl, rfl, rfl, by decide, by simp only [Nat.add_zero]; cases rd 0 (bs.drop p) <;> simp [shr], rfl⟩
  case round =>
    obtain ⟨k, a, hk, hpk, rfl, rfl, rfl, ha, hR, rfl⟩ := hrel
    clear hp d1 d2
    generalize hq : p + k = q at *
    generalize hs : 7 * k = s at *
    replace hq := hide hq
    replace hs := hide hs
    by_cases hc : q = bs.length
    · have d3 : ((q : Int) == (bs.length : Int)) = true := by simp; omega
      rw [List.drop_of_length_le (i := q) (l := bs) (by omega), rd, shr] at hR
      have hfin : Hid (nres p (rd 0 (bs.drop p)) = .tuple #[.int .u64 0, .int .i64 0, .int .i64 73]) := hide (by rw [hR]; rfl)
      clear hc hpk hR
      go_wp2
      rw [Exit.noGoto_ret]
      go_ret3
      exact ⟨by rw [hfin.out]; rfl, Below.refl _ _⟩
    · have d3 : ((q : Int) == (bs.length : Int)) = false := by simp; omega
      obtain ⟨b, off, rfl, hbl, hcl⟩ := hB.cellAt (j := q) (by omega)
      rw [drop_at bs q (by omega), rd] at hR
      generalize gb bs q = x at *
      have hx := bnd x
      have hxv : Hid (bv x = (x.toNat : Int)) := hide rfl
      have hqi : 0 ≤ (q : Int) ∧ (q : Int) < (bs.length : Int) := by omega
      have hsl : s ≤ 63 := by have := hs.out; omega
      replace hc := hide hc
      clear hB
      by_cases c1 : 57 < s ∧ 1 < x.toNat
      · have d4 : decide ((s : Int) > 57) = true := by simp; omega
        have d5 : decide (bv x > 1) = true := by have : bv x = (x.toNat : Int) := rfl; simp; omega
        have hfin : Hid (nres p (rd 0 (bs.drop p)) = .tuple #[.int .u64 0, .int .i64 0, .int .i64 70]) := hide (by
          have := hs.out
          have h9 : k = 9 := by omega
          have h10 : k = 9 ∧ 1 < x.toNat ∨ 0 < k ∧ x.toNat = 0 := .inl ⟨h9, c1.2⟩
          rw [hR, if_pos h9, if_pos h10]
          split <;> rfl)
        replace c1 := hide c1
        clear hR
        go_wp2
        rw [Exit.noGoto_ret]
        go_ret3
        exact ⟨by rw [hfin.out]; rfl, Below.refl _ _⟩
      · by_cases c2 : x.toNat = 0 ∧ 0 < s
        · have d4 : ((bv x) == 0) = true := by have : bv x = (x.toNat : Int) := rfl; simp; omega
          have hs0 : 0 < s := c2.2
          have d7 : decide (bv x > 1) = false := by have : bv x = (x.toNat : Int) := rfl; simp; omega
          have hfin : Hid (nres p (rd 0 (bs.drop p)) = .tuple #[.int .u64 0, .int .i64 0, .int .i64 70]) := hide (by
            have := hs.out
            have h10 : k = 9 ∧ 1 < x.toNat ∨ 0 < k ∧ x.toNat = 0 := .inr ⟨by omega, c2.1⟩
            rw [hR, if_neg (by omega), if_pos h10]
            rfl)
          replace c1 := hide c1
          replace c2 := hide c2
          clear hR
          rcases Nat.lt_or_ge 57 s with q1 | q1
          · have d8 : decide ((s : Int) > 57) = true := by simp; omega
            go_wp2
            rw [Exit.noGoto_ret]
            go_ret3
            exact ⟨by rw [hfin.out]; rfl, Below.refl _ _⟩
          · have d8 : decide ((s : Int) > 57) = false := by simp; omega
            go_wp2
            rw [Exit.noGoto_ret]
            go_ret3
            exact ⟨by rw [hfin.out]; rfl, Below.refl _ _⟩
        · have hv : Hid (bits .or .u64 (a : Int) (IntKind.u64.wrap (bv x % 128 * 2 ^ min s 64)) = ((a + x.toNat % 128 * 2 ^ s : Nat) : Int)) := hide (num_or ha hsl (by omega))
          have hvB : Hid (bits .or .u64 (a : Int) (IntKind.u64.wrap (bv x % 128 * 2 ^ s)) = ((a + x.toNat % 128 * 2 ^ s : Nat) : Int)) := hide (by have := hv.out; rwa [Nat.min_eq_left (by omega)] at this)
          have hv2 : Hid (a + x.toNat % 128 * 2 ^ s < 2 ^ (s + 7)) := hide (num_lt ha)
          have d9 : Hid ((57 < s → x.toNat ≤ 1) ∧ (0 < s → x.toNat ≠ 0)) := hide (by omega)
          have h10 : ¬ (k = 9 ∧ 1 < x.toNat ∨ 0 < k ∧ x.toNat = 0) := by have := hs.out; omega
          by_cases c3 : x.toNat < 128
          · have d11 : decide (bv x < 128) = true := by have : bv x = (x.toNat : Int) := rfl; simp; omega
            have hfin : Hid (nres p (rd 0 (bs.drop p)) = .tuple #[.int .u64 ((a + x.toNat % 128 * 2 ^ s : Nat) : Int), .int .i64 ((q : Int) + 1), .int .i64 0]) := hide (by
              have h1 := hs.out
              have h2 := hq.out
              have h3 : p + (1 + k) = q + 1 := by omega
              rw [hR, if_neg (by omega), if_neg h10, shr, nres, h1, Nat.mod_eq_of_lt c3, Nat.mul_comm, h3]
              rfl)
            replace c1 := hide c1
            replace c2 := hide c2
            replace h10 := hide h10
            clear hR
            rcases Nat.lt_or_ge 57 s with q1 | q1
            · have d8 : decide ((s : Int) > 57) = true := by simp; omega
              have d7 : decide (bv x > 1) = false := by have : bv x = (x.toNat : Int) := rfl; have := d9.out.1 q1; simp; omega
              have d6 : ((bv x) == 0) = false := by have : bv x = (x.toNat : Int) := rfl; have := d9.out.2 (by omega); simp; omega
              go_wp2
              rw [Exit.noGoto_ret]
              go_ret3
              refine ⟨?_, Below.refl _ _⟩
              rw [hfin.out]
              show Ending.returned (.tuple #[.int .u64 _, .int .i64 _, .int .i64 _]) = _
              first | rw [hv.out] | rw [hvB.out]
            · have d8 : decide ((s : Int) > 57) = false := by simp; omega
              rcases Nat.eq_zero_or_pos s with q2 | q2
              · have hs0 : ¬ 0 < s := by omega
                replace q2 := hide q2
                rcases Nat.eq_zero_or_pos x.toNat with q3 | q3
                · have d6 : ((bv x) == 0) = true := by have : bv x = (x.toNat : Int) := rfl; simp; omega
                  replace q3 := hide q3
                  go_wp2
                  rw [Exit.noGoto_ret]
                  go_ret3
                  refine ⟨?_, Below.refl _ _⟩
                  rw [hfin.out]
                  show Ending.returned (.tuple #[.int .u64 _, .int .i64 _, .int .i64 _]) = _
                  first | rw [hv.out] | rw [hvB.out]
                · have d6 : ((bv x) == 0) = false := by have : bv x = (x.toNat : Int) := rfl; simp; omega
                  replace q3 := hide q3
                  go_wp2
                  rw [Exit.noGoto_ret]
                  go_ret3
                  refine ⟨?_, Below.refl _ _⟩
                  rw [hfin.out]
                  show Ending.returned (.tuple #[.int .u64 _, .int .i64 _, .int .i64 _]) = _
                  first | rw [hv.out] | rw [hvB.out]
              · have hs0 : 0 < s := q2
                have d6 : ((bv x) == 0) = false := by have : bv x = (x.toNat : Int) := rfl; have := d9.out.2 (by omega); simp; omega
                replace q2 := hide q2
                go_wp2
                rw [Exit.noGoto_ret]
                go_ret3
                refine ⟨?_, Below.refl _ _⟩
                rw [hfin.out]
                show Ending.returned (.tuple #[.int .u64 _, .int .i64 _, .int .i64 _]) = _
                first | rw [hv.out] | rw [hvB.out]
          · have d11 : decide (bv x < 128) = false := by have : bv x = (x.toNat : Int) := rfl; simp; omega
            have d6 : ((bv x) == 0) = false := by have : bv x = (x.toNat : Int) := rfl; simp; omega
            have d8 : decide ((s : Int) > 57) = false := by have : bv x = (x.toNat : Int) := rfl; have := d9.out.1; simp; omega
            have hk8 : k ≤ 8 := by have := hs.out; have := d9.out.1; omega
            have hnext : Hid (rd 0 (bs.drop p) = shr (k + 1) (a + x.toNat % 128 * 2 ^ s) (rd (k + 1) (bs.drop (q + 1)))) := hide (by
              have h1 := hs.out
              rw [hR, if_pos (by omega), if_neg (by omega)]
              cases hh : rd (k + 1) (bs.drop (q + 1)) with
              | er e => rfl
              | ok v n =>
                have hx2 := x.isLt
                simp only [shr]
                congr 1
                · rw [← h1, show 7 * (k + 1) = 7 * k + 7 by omega, Nat.pow_add, show x.toNat % 128 = x.toNat - 128 by omega, Nat.mul_add, Nat.mul_comm (x.toNat - 128), Nat.mul_assoc, Nat.mul_comm v 128, show (2 : Nat) ^ 7 = 128 from rfl]
                  omega
                · omega)
            replace c1 := hide c1
            replace c2 := hide c2
            replace h10 := hide h10
            clear hR
            go_wp2
            refine ⟨⟨k + 1, a + x.toNat % 128 * 2 ^ s, by omega, by have := hq.out; have := hc.out; omega, by first | rw [hv.out] | rw [hvB.out], by have := hq.out; congr 1; omega, by have := hs.out; congr 1; omega, by have := hv2.out; have := hs.out; rwa [show 7 * (k + 1) = s + 7 by omega], by have := hq.out; rw [show p + (k + 1) = q + 1 by omega]; exact hnext.out, trivial⟩, ?_⟩
            simp [intOf]; omega

set_option maxHeartbeats 1000000 in
theorem a_number_out (bs : List B) (p : Int) (hp : p < 0 ∨ (bs.length : Int) < p) (w : World) (v : Value) (hB : BysB w v bs) : Calls Try.prog 18 #[v, .int .i64 p] w fun e w' => e = .returned (.tuple #[.int .u64 0, .int .i64 0, .int .i64 1]) ∧ Below w.heap.size w w' := by
  obtain ⟨ao, cap, rfl⟩ := hB.form
  by_cases h : p < 0
  · have d1 : decide (p < 0) = true := by simp; omega
    go_enter Try.func18, Try.ntmps18
    go_wp2
    go_step3
    go_wp2
    rw [Exit.noGoto_ret]
    go_ret3
    exact ⟨rfl, Below.refl _ _⟩
  · have d1 : decide (p < 0) = false := by simp; omega
    have d2 : decide (p > (bs.length : Int)) = true := by simp; omega
    go_enter Try.func18, Try.ntmps18
    go_wp2
    go_step3
    go_wp2
    rw [Exit.noGoto_ret]
    go_ret3
    exact ⟨rfl, Below.refl _ _⟩
theorem or128 : ∀ z : Fin 256, bits .or .u8 ((z.val : Nat) : Int) 128 = ((z.val % 128 + 128 : Nat) : Int) := by decide +kernel
theorem by_hi (n : Nat) : bits .or .u8 ((n : Int) % 256) 128 = bv (BitVec.ofNat 8 (n % 128 + 128)) := by
  have h := or128 ⟨n % 256, by omega⟩
  simp only at h
  rw [Int.natCast_emod] at h
  rw [show (256 : Int) = ((256 : Nat) : Int) from rfl, h, bv, BitVec.toNat_ofNat]
  omega
theorem by_lo {n : Nat} (_h : n < 128) : (n : Int) % 256 = bv (BitVec.ofNat 8 n) := by
  rw [bv, BitVec.toNat_ofNat]; omega
theorem by_lo' {n : Nat} (h : n < 128) : (n : Int) = bv (BitVec.ofNat 8 n) := by
  rw [bv, BitVec.toNat_ofNat]; omega
theorem by_hi2 (n : Nat) : ((n : Int) % 128 + 128) = bv (BitVec.ofNat 8 (n % 128 + 128)) := by
  rw [bv, BitVec.toNat_ofNat]; omega
theorem own_alloc {W : World} {b : Nat} {v : Value} {d : List B} (h : Own W b v d) (o : Obj) : Own (W.alloc o) b v d := World.ownsRow.alloc h o
end Go.Proofs.Ytnbkdlfkacbfjaa

