import Derived.Test.YtalgcjkiajojoaaGreatDoorProg
import Derived.WalkKit
import Derived.WalkSpells
import Derived.WalkLawsBesides
import Derived.Lib.QuietBelow
import Derived.Laws.BitsAllLaws
import Derived.BigQuiet
import Derived.WalkMore
import Derived.Test.YtalgcjkiajojoaaGreatDoorQbOpen
import Derived.Deep.MidRow
namespace Go.Proofs.YtalgcjkiajojoaaGreatDoor
set_option maxRecDepth 100000
open Go Go.RowKit Go.Sort
attribute [local go_sem] setCell_drewN alloc_drewN
theorem or_one (n : Nat) : n ||| 1 = n / 2 * 2 + 1 := by
 have h := Nat.shiftLeft_add_eq_or_of_lt (i := 1) (b := 1) (by decide) (n / 2)
 rw [Nat.shiftLeft_eq, Nat.pow_one] at h
 rw [h]
 rcases Nat.mod_two_eq_zero_or_one n with e | e
 ·rw [show n / 2 * 2 = n by omega]
 ·have h2 : n / 2 * 2 ||| 1 = n := by omega
  conv => lhs; rw [← h2]
  rw [Nat.or_assoc, Nat.or_self]
set_option maxHeartbeats 1000000 in
theorem a_size (n : Nat) (hn : n < 18446744073709551616) : Gives 46 #[.int .u64 (n : Int)] (.int .i64 ((en n).length : Int)) := by
 intro w
 have e1 : bits .or .u64 (n : Int) 1 = ((n / 2 * 2 + 1 : Nat) : Int) := by
  have := u64_or_nat n 1 hn (by decide)
  rw [or_one] at this
  exact this
 obtain ⟨L, h0, h1, h2, h3, h4⟩ := a_len64 (n / 2 * 2 + 1) (by omega) (by omega)
 have hl : (en n).length = (L + 6) / 7 := by
  refine en_bits h0 ?_ (by omega)
  rcases Nat.lt_or_ge 1 L with q | q
  ·left
   have : 2 ^ (L - 1) = 2 * 2 ^ (L - 2) := by rw [show L - 1 = (L - 2) + 1 by omega, Nat.pow_succ, Nat.mul_comm]
   omega
  ·obtain rfl : L = 1 := by omega
   rcases Nat.eq_zero_or_pos n with e | e
   ·exact .inr ⟨e, rfl⟩
   ·exact .inl e
 have e2 : ((L : Int) + 7 - 1) / 7 = ((en n).length : Int) := by rw [hl]; omega
 generalize (en n).length = len at *
 generalize n / 2 * 2 + 1 = m at *
 clear h2 h3 hl
 go_enter Tryz.func46, Tryz.ntmps46
 go_wp2_with (first | (simp only [e1]) | fail)
 refine (h4.at _).mono ?_
 rintro e_ w1 ⟨rfl, hb⟩
 go_wp2
 go_ret
 exact ⟨congrArg _ (congrArg _ e2), hb⟩
def nres (p : Nat) : RN → Value
 | .ok v n => .tuple #[.int .u64 (v : Int), .int .i64 ((p + n : Nat) : Int), .int .i64 0]
 | .er e => .tuple #[.int .u64 0, .int .i64 0, .int .i64 e]
def shr (k a : Nat) : RN → RN
 | .ok v n => .ok (a + 2 ^ (7 * k) * v) (n + k)
 | .er e => .er e
theorem BysB.cellAt {W : World} {ao : Option Addr} {l cap : Nat} {bs : List B} (h : BysB W (.slice ao l cap) bs) {j : Nat} (hj : j < bs.length) : ∃ b off, ao = some ⟨b, off, none⟩ ∧ b < W.heap.size ∧ W.cell? ⟨b, off + j, none⟩ = some (.int .u8 (bv (gb bs j))) := by
 obtain ⟨⟨ao', cap', e, _, hc, _⟩, _, _⟩ := h
 cases e
 obtain ⟨b, off, h1, h2, h3⟩ := hc j (by rw [bl_len]; exact hj)
 exact ⟨b, off, h1, h2, by rw [h3, bl_get]; rfl⟩
theorem BysB.form {W : World} {v : Value} {bs : List B} (h : BysB W v bs) : ∃ ao cap, v = .slice ao bs.length cap := by
 obtain ⟨⟨ao, cap, e, _⟩, _⟩ := h
 rw [bl_len] at e
 exact ⟨ao, cap, e⟩
theorem drop_at (bs : List B) (j : Nat) (h : j < bs.length) : bs.drop j = gb bs j :: bs.drop (j + 1) := by
 rw [List.drop_eq_getElem_cons h, gb, List.getD_eq_getElem?_getD, List.getElem?_eq_getElem h]
 rfl
theorem num_lt {a s z : Nat} (ha : a < 2 ^ s) : a + z % 128 * 2 ^ s < 2 ^ (s + 7) := by
 rw [Nat.pow_add]
 have h1 : z % 128 * 2 ^ s ≤ 127 * 2 ^ s := Nat.mul_le_mul_right _ (by omega)
 omega
theorem num_64 {a s : Nat} {x : B} (ha : a < 2 ^ s) (hs : s ≤ 63) (h : ¬ (57 < s ∧ 1 < x.toNat)) : a + x.toNat % 128 * 2 ^ s < 18446744073709551616 := by
 rcases Nat.lt_or_ge 57 s with q | q
 ·have h1 : x.toNat % 128 * 2 ^ s ≤ 1 * 2 ^ s := Nat.mul_le_mul_right _ (by omega)
  have h2 : 2 ^ s ≤ 2 ^ 63 := Nat.pow_le_pow_right (by decide) hs
  omega
 ·have h1 := num_lt (z := x.toNat) ha
  have h2 : 2 ^ (s + 7) ≤ 2 ^ 64 := Nat.pow_le_pow_right (by decide) (by omega)
  omega
theorem num_or {a s : Nat} {x : B} (ha : a < 2 ^ s) (hs : s ≤ 63) (h : ¬ (57 < s ∧ 1 < x.toNat)) : bits .or .u64 (a : Int) (IntKind.u64.wrap (bv x % 128 * 2 ^ min s 64)) = ((a + x.toNat % 128 * 2 ^ s : Nat) : Int) := by
 have h6 := num_64 ha hs h
 have e1 : bv x % 128 * 2 ^ min s 64 = ((x.toNat % 128 * 2 ^ s : Nat) : Int) := by
  rw [Nat.min_eq_left (by omega)]
  simp [bv]
 rw [e1, IntKind.wrap_u64, Int.emod_eq_of_lt (by omega) (by omega), u64_or_nat _ _ (by omega) (by omega)]
 congr 1
 have := Nat.shiftLeft_add_eq_or_of_lt ha (x.toNat % 128)
 rw [Nat.shiftLeft_eq] at this
 rw [Nat.or_comm, ← this, Nat.add_comm]
set_option maxRecDepth 100000 in
set_option maxHeartbeats 8000000 in
theorem a_number (bs : List B) (p : Nat) (hp : p ≤ bs.length) (w : World) (v : Value) (hB : BysB w v bs) : Calls Tryz.prog 94 #[v, .int .i64 (p : Int)] w fun e w' => e = .returned (nres p (rd 0 (bs.drop p))) ∧ Below w.heap.size w w' := by
 obtain ⟨ao, cap, rfl⟩ := hB.form
 have hlen := hB.2.1
 have d1 : decide ((p : Int) < 0) = false := by simp
 have d2 : decide ((p : Int) > (bs.length : Int)) = false := by simp; omega
 go_enter Tryz.func94, Tryz.ntmps94
 go_wp2
 go_step3
 go_wp2
 go_step3
 go_wp2
 go_loopw [7, 8, 9] (fun n e s wr => ∃ k a : Nat, k ≤ 9 ∧ p + k ≤ bs.length ∧ n = .int .u64 (a : Int) ∧ e = .int .i64 ((p + k : Nat) : Int) ∧ s = .int .i64 ((7 * k : Nat) : Int) ∧ a < 2 ^ (7 * k) ∧ rd 0 (bs.drop p) = shr k a (rd k (bs.drop (p + k))) ∧ wr = w) (fun _ _ s _ => 64 - (intOf s).toNat)
 case atStart => exact ⟨0, 0, by omega, by omega, rfl, rfl, rfl, by decide, by simp only [Nat.add_zero]; cases rd 0 (bs.drop p) <;> simp [shr], rfl⟩
 case round =>
  obtain ⟨k, a, hk, hpk, rfl, rfl, rfl, ha, hR, rfl⟩ := hrel
  clear hp d1 d2
  generalize hq : p + k = q at *
  generalize hs : 7 * k = s at *
  replace hq := hide hq
  replace hs := hide hs
  by_cases hc : q = bs.length
  ·have d3 : ((q : Int) == (bs.length : Int)) = true := by simp; omega
   rw [List.drop_of_length_le (i := q) (l := bs) (by omega), rd, shr] at hR
   have hfin : Hid (nres p (rd 0 (bs.drop p)) = .tuple #[.int .u64 0, .int .i64 0, .int .i64 73]) := hide (by rw [hR]; rfl)
   clear hc hpk hR
   go_wp2
   rw [Exit.noGoto_ret]
   go_ret3
   exact ⟨by rw [hfin.out]; rfl, Below.refl _ _⟩
  ·have d3 : ((q : Int) == (bs.length : Int)) = false := by simp; omega
   obtain ⟨b, off, rfl, hbl, hcl⟩ := hB.cellAt (j := q) (by omega)
   rw [drop_at bs q (by omega), rd] at hR
   generalize gb bs q = x at *
   have hx := bnd x
   have hxv : Hid (bv x = (x.toNat : Int)) := hide rfl
   have hqi : 0 ≤ (q : Int) ∧ (q : Int) < (bs.length : Int) := by omega
   have hsl : s ≤ 63 := by have := hs.out; omega
   replace hc := hide hc
   clear hB
   by_cases c1 : 57 < s ∧ 1 < x.toNat
   ·have d4 : decide ((s : Int) > 57) = true := by simp; omega
    have d5 : decide (bv x > 1) = true := by have : bv x = (x.toNat : Int) := rfl; simp; omega
    have hfin : Hid (nres p (rd 0 (bs.drop p)) = .tuple #[.int .u64 0, .int .i64 0, .int .i64 70]) := hide (by
     have := hs.out
     have h9 : k = 9 := by omega
     have h10 : k = 9 ∧ 1 < x.toNat ∨ 0 < k ∧ x.toNat = 0 := .inl ⟨h9, c1.2⟩
     rw [hR, if_pos h9, if_pos h10]
     split <;> rfl)
    replace c1 := hide c1
    clear hR
    go_wp2
    rw [Exit.noGoto_ret]
    go_ret3
    exact ⟨by rw [hfin.out]; rfl, Below.refl _ _⟩
   ·by_cases c2 : x.toNat = 0 ∧ 0 < s
    ·have d4 : ((bv x) == 0) = true := by have : bv x = (x.toNat : Int) := rfl; simp; omega
     have hs0 : 0 < s := c2.2
     have d7 : decide (bv x > 1) = false := by have : bv x = (x.toNat : Int) := rfl; simp; omega
     have hfin : Hid (nres p (rd 0 (bs.drop p)) = .tuple #[.int .u64 0, .int .i64 0, .int .i64 70]) := hide (by
      have := hs.out
      have h10 : k = 9 ∧ 1 < x.toNat ∨ 0 < k ∧ x.toNat = 0 := .inr ⟨by omega, c2.1⟩
      rw [hR, if_neg (by omega), if_pos h10]
      rfl)
     replace c1 := hide c1
     replace c2 := hide c2
     clear hR
     rcases Nat.lt_or_ge 57 s with q1 | q1
     ·have d8 : decide ((s : Int) > 57) = true := by simp; omega
      go_wp2
      rw [Exit.noGoto_ret]
      go_ret3
      exact ⟨by rw [hfin.out]; rfl, Below.refl _ _⟩
     ·have d8 : decide ((s : Int) > 57) = false := by simp; omega
      go_wp2
      rw [Exit.noGoto_ret]
      go_ret3
      exact ⟨by rw [hfin.out]; rfl, Below.refl _ _⟩
    ·have hv : Hid (bits .or .u64 (a : Int) (IntKind.u64.wrap (bv x % 128 * 2 ^ min s 64)) = ((a + x.toNat % 128 * 2 ^ s : Nat) : Int)) := hide (num_or ha hsl (by omega))
     have hvB : Hid (bits .or .u64 (a : Int) (IntKind.u64.wrap (bv x % 128 * 2 ^ s)) = ((a + x.toNat % 128 * 2 ^ s : Nat) : Int)) := hide (by have := hv.out; rwa [Nat.min_eq_left (by omega)] at this)
     have hv2 : Hid (a + x.toNat % 128 * 2 ^ s < 2 ^ (s + 7)) := hide (num_lt ha)
     have d9 : Hid ((57 < s → x.toNat ≤ 1) ∧ (0 < s → x.toNat ≠ 0)) := hide (by omega)
     have h10 : ¬ (k = 9 ∧ 1 < x.toNat ∨ 0 < k ∧ x.toNat = 0) := by have := hs.out; omega
     by_cases c3 : x.toNat < 128
     ·have d11 : decide (bv x < 128) = true := by have : bv x = (x.toNat : Int) := rfl; simp; omega
      have hfin : Hid (nres p (rd 0 (bs.drop p)) = .tuple #[.int .u64 ((a + x.toNat % 128 * 2 ^ s : Nat) : Int), .int .i64 ((q : Int) + 1), .int .i64 0]) := hide (by
       have h1 := hs.out
       have h2 := hq.out
       have h3 : p + (1 + k) = q + 1 := by omega
       rw [hR, if_neg (by omega), if_neg h10, shr, nres, h1, Nat.mod_eq_of_lt c3, Nat.mul_comm, h3]
       rfl)
      replace c1 := hide c1
      replace c2 := hide c2
      replace h10 := hide h10
      clear hR
      rcases Nat.lt_or_ge 57 s with q1 | q1
      ·have d8 : decide ((s : Int) > 57) = true := by simp; omega
       have d7 : decide (bv x > 1) = false := by have : bv x = (x.toNat : Int) := rfl; have := d9.out.1 q1; simp; omega
       have d6 : ((bv x) == 0) = false := by have : bv x = (x.toNat : Int) := rfl; have := d9.out.2 (by omega); simp; omega
       go_wp2
       rw [Exit.noGoto_ret]
       go_ret3
       refine ⟨?_, Below.refl _ _⟩
       rw [hfin.out]
       show Ending.returned (.tuple #[.int .u64 _, .int .i64 _, .int .i64 _]) = _
       first | rw [hv.out] | rw [hvB.out]
      ·have d8 : decide ((s : Int) > 57) = false := by simp; omega
       rcases Nat.eq_zero_or_pos s with q2 | q2
       ·have hs0 : ¬ 0 < s := by omega
        replace q2 := hide q2
        rcases Nat.eq_zero_or_pos x.toNat with q3 | q3
        ·have d6 : ((bv x) == 0) = true := by have : bv x = (x.toNat : Int) := rfl; simp; omega
         replace q3 := hide q3
         go_wp2
         rw [Exit.noGoto_ret]
         go_ret3
         refine ⟨?_, Below.refl _ _⟩
         rw [hfin.out]
         show Ending.returned (.tuple #[.int .u64 _, .int .i64 _, .int .i64 _]) = _
         first | rw [hv.out] | rw [hvB.out]
        ·have d6 : ((bv x) == 0) = false := by have : bv x = (x.toNat : Int) := rfl; simp; omega
         replace q3 := hide q3
         go_wp2
         rw [Exit.noGoto_ret]
         go_ret3
         refine ⟨?_, Below.refl _ _⟩
         rw [hfin.out]
         show Ending.returned (.tuple #[.int .u64 _, .int .i64 _, .int .i64 _]) = _
         first | rw [hv.out] | rw [hvB.out]
       ·have hs0 : 0 < s := q2
        have d6 : ((bv x) == 0) = false := by have : bv x = (x.toNat : Int) := rfl; have := d9.out.2 (by omega); simp; omega
        replace q2 := hide q2
        go_wp2
        rw [Exit.noGoto_ret]
        go_ret3
        refine ⟨?_, Below.refl _ _⟩
        rw [hfin.out]
        show Ending.returned (.tuple #[.int .u64 _, .int .i64 _, .int .i64 _]) = _
        first | rw [hv.out] | rw [hvB.out]
     ·have d11 : decide (bv x < 128) = false := by have : bv x = (x.toNat : Int) := rfl; simp; omega
      have d6 : ((bv x) == 0) = false := by have : bv x = (x.toNat : Int) := rfl; simp; omega
      have d8 : decide ((s : Int) > 57) = false := by have : bv x = (x.toNat : Int) := rfl; have := d9.out.1; simp; omega
      have hk8 : k ≤ 8 := by have := hs.out; have := d9.out.1; omega
      have hnext : Hid (rd 0 (bs.drop p) = shr (k + 1) (a + x.toNat % 128 * 2 ^ s) (rd (k + 1) (bs.drop (q + 1)))) := hide (by
       have h1 := hs.out
       rw [hR, if_pos (by omega), if_neg (by omega)]
       cases hh : rd (k + 1) (bs.drop (q + 1)) with
       | er e => rfl
       | ok v n =>
        have hx2 := x.isLt
        simp only [shr]
        congr 1
        ·rw [← h1, show 7 * (k + 1) = 7 * k + 7 by omega, Nat.pow_add, show x.toNat % 128 = x.toNat - 128 by omega, Nat.mul_add, Nat.mul_comm (x.toNat - 128), Nat.mul_assoc, Nat.mul_comm v 128, show (2 : Nat) ^ 7 = 128 from rfl]
         omega
        ·omega)
      replace c1 := hide c1
      replace c2 := hide c2
      replace h10 := hide h10
      clear hR
      go_wp2
      refine ⟨⟨k + 1, a + x.toNat % 128 * 2 ^ s, by omega, by have := hq.out; have := hc.out; omega, by first | rw [hv.out] | rw [hvB.out], by have := hq.out; congr 1; omega, by have := hs.out; congr 1; omega, by have := hv2.out; have := hs.out; rwa [show 7 * (k + 1) = s + 7 by omega], by have := hq.out; rw [show p + (k + 1) = q + 1 by omega]; exact hnext.out, trivial⟩, ?_⟩
      simp [intOf]; omega
theorem or128 : ∀ z : Fin 256, bits .or .u8 ((z.val : Nat) : Int) 128 = ((z.val % 128 + 128 : Nat) : Int) := by decide +kernel
theorem by_hi (n : Nat) : bits .or .u8 ((n : Int) % 256) 128 = bv (BitVec.ofNat 8 (n % 128 + 128)) := by
 have h := or128 ⟨n % 256, by omega⟩
 simp only at h
 rw [Int.natCast_emod] at h
 rw [show (256 : Int) = ((256 : Nat) : Int) from rfl, h, bv, BitVec.toNat_ofNat]
 omega
theorem by_lo {n : Nat} (_h : n < 128) : (n : Int) % 256 = bv (BitVec.ofNat 8 n) := by
 rw [bv, BitVec.toNat_ofNat]; omega
theorem by_lo' {n : Nat} (h : n < 128) : (n : Int) = bv (BitVec.ofNat 8 n) := by
 rw [bv, BitVec.toNat_ofNat]; omega
theorem own_alloc {W : World} {b : Nat} {v : Value} {d : List B} (h : Own W b v d) (o : Obj) : Own (W.alloc o) b v d := World.ownsRow.alloc h o
set_option maxRecDepth 100000 in
set_option maxHeartbeats 4000000 in
theorem a_addNumber (d : List B) (n : Nat) (hn : n < 18446744073709551616) (base : Nat) (w : World) (v : Value) (hO : Own w base v d) (hb : base ≤ w.heap.size) (hl : d.length + 10 ≤ 140737488355328) : Calls Tryz.prog 87 #[v, .int .u64 (n : Int)] w fun e w' => ∃ u, e = .returned u ∧ Own w' base u (d ++ en n) ∧ Below base w w' := by
 obtain ⟨ao, ac, rfl⟩ := slen_own hO
 have hten := en_ten hn
 go_enter Tryz.func87, Tryz.ntmps87
 go_wp2
 go_loopw [0, 1] (fun s m wr => ∃ (k : Nat) (c : List B) (ao : Option Addr) (ac : Nat), m = .int .u64 (k : Int) ∧ k ≤ n ∧ en n = c ++ en k ∧ s = .slice ao (d ++ c).length ac ∧ Own wr base (.slice ao (d ++ c).length ac) (d ++ c) ∧ Below base w wr) (fun _ m _ => (intOf m).toNat)
 case atStart => exact ⟨n, [], ao, ac, rfl, Nat.le_refl _, rfl, by simp, by simpa using hO, Below.refl _ _⟩
 case round =>
  clear hO
  obtain ⟨k, c, ao, ac, rfl, hkn, he, rfl, hO, hw⟩ := hrel
  have hws := hw.size
  have hcl : (d ++ c).length + (en k).length ≤ d.length + 10 := by
   have := congrArg List.length he
   rw [List.length_append] at *
   omega
  by_cases h : 128 ≤ k
  ·have hd : decide ((k : Int) ≥ 128) = true := by simp; omega
   have hek := en_hi (n := k) (by omega)
   rw [hek, List.length_cons] at hcl
   rw [hek] at he
   replace he := hide he
   generalize hL : d ++ c = L at *
   go_wp2_with (at_builtin; refine wpList_append_B rfl (.tmp 9) (.tmp 13) rfl base _ L rfl (own_alloc hO _) _ [BitVec.ofNat 8 (k % 128 + 128)] rfl ?hE (by simp only [List.length_singleton]; omega) (by rw [size_alloc1]; omega) ?_)
   case hE =>
    rw [by_hi]
    exact bys_one _ _
   intro v2 w2 hO2 hgr
   have hw2 : Below base w w2 := (hw.alloc (by omega) _).grown hgr (by rw [size_alloc1]; omega) (own_low hO)
   obtain ⟨ao2, ac2, rfl⟩ := slen_own hO2
   clear hgr hO hw hek
   go_wp2
   refine ⟨⟨k / 128, c ++ [BitVec.ofNat 8 (k % 128 + 128)], ao2, ac2, by congr 1, by omega, by rw [he.out]; simp, by rw [← List.append_assoc, hL], by rw [← List.append_assoc, hL]; exact hO2, hw2⟩, ?_⟩
   simp [intOf]; omega
  ·have hd : decide ((k : Int) ≥ 128) = false := by simp; omega
   have hek := en_lo (n := k) (by omega)
   rw [hek, List.length_singleton] at hcl
   rw [hek] at he
   replace he := hide he
   generalize hL : d ++ c = L at *
   go_wp2_with (at_builtin; refine wpList_append_B rfl (.tmp 15) (.tmp 18) rfl base _ L rfl (own_alloc hO _) _ [BitVec.ofNat 8 k] rfl ?hE (by simp only [List.length_singleton]; omega) (by rw [size_alloc1]; omega) ?_)
   case hE =>
    first | rw [by_lo (by omega)] | rw [by_lo' (by omega)]
    exact bys_one _ _
   intro v2 w2 hO2 hgr
   have hw2 : Below base w w2 := (hw.alloc (by omega) _).grown hgr (by rw [size_alloc1]; omega) (own_low hO)
   obtain ⟨ao2, ac2, rfl⟩ := slen_own hO2
   clear hgr hO hw hek
   go_wp2
   go_ret
   exact ⟨_, rfl, by rw [he.out, ← List.append_assoc, hL]; exact hO2, hw2⟩
end Go.Proofs.YtalgcjkiajojoaaGreatDoor
namespace Go.Proofs.YtalgcjkiajojoaaGreatDoor
set_option maxRecDepth 100000
open Go Go.RowKit Go.Sort
attribute [local go_sem] setCell_drewN alloc_drewN
theorem made_irow (n : Nat) : madeCells #[.int .u8 0] n = irow .u8 (zr n) := by
 apply Array.ext'
 simp only [madeCells, irow, zr, Array.toList_map, Array.toList_range, List.map_replicate]
 apply List.ext_getElem
 ·simp
 ·intro i h1 h2
  simp [Nat.mod_one]
theorem make_lc (n c : Nat) (hn : n ≤ c) (hc : c ≤ 281474976710656) (w : World) : (Instr.makeSlice 23 (.int .i64 (n : Int)) (.int .i64 (c : Int))).run Tryz.prog w = .ok (.slice (some ⟨w.heap.size, 0, none⟩) n c) (w.alloc (.cells (irow .u8 (zr c)) 5)) := by
 obtain ⟨i0, hi, hz0, hz1, hz2⟩ := info8
 have h := run_make (P := Tryz.prog) w 23 5 i0 (.int .u8 0) Tryz.underlying23 hi hz0 .i64 .i64 (n : Int) (c : Int) (by omega) (by omega) (by rw [hz2]; omega) (by omega)
 rw [hz1, Nat.mul_one, Int.toNat_natCast, Int.toNat_natCast] at h
 rw [h, ← made_irow]
 rfl
theorem own_of_row {W : World} {g b : Nat} {d : List B} {T : List Int} (hg : W.heap[g]? = some (.cells (irow .u8 (bl d ++ T)) 5 (0, 0))) (hb : b ≤ g) (hm : d.length + T.length ≤ maxLen) : Own W b (.slice (some ⟨g, 0, none⟩) d.length (d.length + T.length)) d := by
 refine ⟨by simp [bl_len], .inr ⟨g, d.length + T.length, _, rfl, hb, hg, by omega, hm, by rw [irow_size, List.length_append, bl_len]; omega, ?_⟩⟩
 rw [irow, List.toList_toArray, List.map_append, List.take_left']
 simp [bl_len]
end Go.Proofs.YtalgcjkiajojoaaGreatDoor
namespace Go.Proofs.YtalgcjkiajojoaaGreatDoor
set_option maxRecDepth 100000
open Go Go.RowKit Go.Sort
attribute [local go_sem] setCell_drewN alloc_drewN
def hv : List B → Nat → Nat
 | [], x => x
 | h :: t, x => hv t x * 128 + (h.toNat - 128)
end Go.Proofs.YtalgcjkiajojoaaGreatDoor
namespace Go.Proofs.YtalgcjkiajojoaaGreatDoor
set_option maxRecDepth 100000
open Go Go.RowKit Go.Sort
attribute [local go_sem] setCell_drewN alloc_drewN
end Go.Proofs.YtalgcjkiajojoaaGreatDoor
namespace Go.Proofs.YtalgcjkiajojoaaGreatDoor
set_option maxRecDepth 100000
open Go Go.RowKit Go.Sort
attribute [local go_sem] setCell_drewN alloc_drewN
def GivesB (w : World) (f : FuncId) (args : Array Value) (v : Value) : Prop := ∀ W, Below w.heap.size w W → Calls Tryz.prog f args W fun e w' => e = .returned v ∧ Below W.heap.size W w'
theorem GivesB.keep {w W : World} {f : FuncId} {args : Array Value} {v : Value} (h : GivesB w f args v) (hb : Below w.heap.size w W) : GivesB W f args v := fun V hV => h V (Below.after hb hV)
theorem GivesB.re {w : World} {f : FuncId} {args : Array Value} {v : Value} (h : GivesB w f args v) {d : Nat} {os : Array Obj} : Calls Tryz.prog f args (grow (redrawn w d) os) fun e w'' => e = .returned v ∧ ∃ p : Regrown, w'' = grow (redrawn w p.d) p.os := Calls.regrown_of (h _ (below_regrown w d os))
theorem GivesB.at {w : World} {f : FuncId} {args : Array Value} {v : Value} (h : GivesB w f args v) : Calls Tryz.prog f args w fun e w' => e = .returned v ∧ Below w.heap.size w w' := h w (Below.refl _ _)
def itm (p : List B) : List B := en p.length ++ p
def jn : List (List B) → List B
 | [] => []
 | p :: l => itm p ++ jn l
theorem jn_app (a b : List (List B)) : jn (a ++ b) = jn a ++ jn b := by
 induction a with
 | nil => rfl
 | cons p l ih => rw [List.cons_append, jn, jn, ih, List.append_assoc]
theorem jn_one (p : List B) : jn [p] = itm p := by rw [jn, jn, List.append_nil]
theorem itm_len (p : List B) : (itm p).length = (en p.length).length + p.length := by rw [itm, List.length_append]
def gp (ps : List (List B)) (i : Nat) : List B := ps.getD i []
theorem take_snoc (ps : List (List B)) (k : Nat) (h : k < ps.length) : ps.take (k + 1) = ps.take k ++ [gp ps k] := by
 rw [List.take_succ_eq_append_getElem h, gp, List.getD_eq_getElem?_getD, List.getElem?_eq_getElem h]; rfl
theorem jn_snoc (ps : List (List B)) (k : Nat) (h : k < ps.length) : jn (ps.take (k + 1)) = jn (ps.take k) ++ itm (gp ps k) := by
 rw [take_snoc ps k h, jn_app, jn_one]
theorem jn_mono (ps : List (List B)) (k : Nat) : (jn (ps.take k)).length ≤ (jn ps).length := by
 conv => rhs; rw [← List.take_append_drop k ps, jn_app, List.length_append]
 omega
def PcB (W : World) (v : Value) (ps : List (List B)) : Prop := ∃ ao cap, v = .slice ao ps.length cap ∧ ps.length ≤ 5864062014634 ∧ (ao = none → cap = 0) ∧ ∀ i, i < ps.length → ∃ b off u, ao = some ⟨b, off, none⟩ ∧ b < W.heap.size ∧ W.cell? ⟨b, off + i, none⟩ = some u ∧ BysB W u (gp ps i) ∧ (gp ps i).length ≤ 140737488351232
theorem PcB.keep {W V : World} {v : Value} {ps : List (List B)} (h : PcB W v ps) (hb : Below W.heap.size W V) : PcB V v ps := by
 obtain ⟨ao, cap, e, hl, hn, hc⟩ := h
 refine ⟨ao, cap, e, hl, hn, fun i hi => ?_⟩
 obtain ⟨b, off, u, e1, h1, h2, h3, h4⟩ := hc i hi
 exact ⟨b, off, u, e1, Nat.lt_of_lt_of_le h1 hb.size, (hb.cell h1).trans h2, h3.keep hb, h4⟩
theorem PcB.form {W : World} {v : Value} {ps : List (List B)} (h : PcB W v ps) : ∃ ao cap, v = .slice ao ps.length cap := by
 obtain ⟨ao, cap, e, _⟩ := h
 exact ⟨ao, cap, e⟩
theorem PcB.at {W : World} {ao : Option Addr} {l cap : Nat} {ps : List (List B)} (h : PcB W (.slice ao l cap) ps) {i : Nat} (hi : i < ps.length) : ∃ b off u uc, ao = some ⟨b, off, none⟩ ∧ b < W.heap.size ∧ W.cell? ⟨b, off + i, none⟩ = some (.slice u (gp ps i).length uc) ∧ BysB W (.slice u (gp ps i).length uc) (gp ps i) ∧ (gp ps i).length ≤ 140737488351232 := by
 obtain ⟨ao', cap', e, _, _, hc⟩ := h
 cases e
 obtain ⟨b, off, u, e1, h1, h2, h3, h4⟩ := hc i hi
 obtain ⟨uo, uc, rfl⟩ := h3.form
 exact ⟨b, off, uo, uc, e1, h1, h2, h3, h4⟩
theorem PcB.len {W : World} {v : Value} {ps : List (List B)} (h : PcB W v ps) : ps.length ≤ 5864062014634 := by
 obtain ⟨_, _, _, hl, _⟩ := h
 exact hl
set_option maxHeartbeats 1000000 in
theorem a_sizeOfItem (p : List B) (ao : Option Addr) (cap : Nat) (hl : p.length ≤ 140737488351232) : Gives 86 #[.slice ao p.length cap] (.int .i64 ((itm p).length : Int)) := by
 intro w
 have hten := en_ten (n := p.length) (by omega)
 have hS := a_size p.length (by omega) w
 have hlen := itm_len p
 generalize (itm p).length = L at *
 generalize (en p.length).length = N at *
 go_enter Tryz.func86, Tryz.ntmps86
 go_wp2_with (fail)
 refine hS.mono ?_
 rintro e_ w1 ⟨rfl, hb⟩
 go_wp2
 go_ret
 exact ⟨by rw [hlen, Int.natCast_add]; rfl, hb⟩
set_option maxHeartbeats 1000000 in
theorem a_addItem (d p : List B) (base : Nat) (w : World) (v u : Value) (hO : Own w base v d) (hu : BysB w u p) (hbl : ∀ V, Below base w V → BysB V u p) (hb : base ≤ w.heap.size) (hl : d.length + (itm p).length ≤ 140737488355000) : Calls Tryz.prog 89 #[v, u] w fun e w' => ∃ x, e = .returned x ∧ Own w' base x (d ++ itm p) ∧ Below base w w' := by
 have hpl := hu.2.1
 have hlen := itm_len p
 obtain ⟨uo, uc, rfl⟩ := hu.form
 have cN := a_addNumber d p.length (by omega) base w v hO hb (by have := en_pos p.length; have := en_ten (n := p.length) (by omega); omega)
 go_enter Tryz.func89, Tryz.ntmps89
 go_wp2_with (fail)
 refine cN.mono ?_
 rintro e_ w1 ⟨x, rfl, hx, hb1⟩
 clear cN
 have hE := hbl w1 hb1
 have hs1 := hb1.size
 have hx2 : (d ++ en p.length).length + p.length ≤ 140737488355328 := by rw [List.length_append]; omega
 have hfin : (d ++ en p.length) ++ p = d ++ itm p := by rw [itm, List.append_assoc]
 generalize hD : d ++ en p.length = D at *
 go_wp2_with (at_builtin; refine wpList_append_B rfl _ _ rfl base _ D rfl hx _ p rfl hE hx2 (by omega) ?_)
 intro v2 w2 hO2 hgr
 have hw2 : Below base w w2 := hb1.grown hgr (by omega) (own_low hx)
 clear hgr hx hb1
 go_wp2
 go_ret
 exact ⟨v2, rfl, hO2, hw2⟩
theorem jn_bd (ps : List (List B)) (h : ∀ i, i < ps.length → (gp ps i).length ≤ 140737488351232) : ∀ k, k ≤ ps.length → (jn (ps.take k)).length ≤ k * 140737488351250
 | 0, _ => by simp [jn]
 | k + 1, hk => by
  have h1 := jn_bd ps h k (by omega)
  have h2 := h k (by omega)
  have h3 := en_ten (n := (gp ps k).length) (by omega)
  rw [jn_snoc ps k (by omega), List.length_append, itm_len]
  omega
def jbad (ps : List (List B)) : Prop := 4096 < ps.length ∨ 4194304 < (jn ps).length
instance (ps : List (List B)) : Decidable (jbad ps) := by unfold jbad; exact inferInstance
def jout (ps : List (List B)) : List B := if jbad ps then [] else jn ps
def jer (ps : List (List B)) : Int := if jbad ps then 2 else 0
theorem own_none (W : World) (b : Nat) : Own W b (.slice none 0 0) [] := ⟨rfl, .inl ⟨rfl, rfl⟩⟩
set_option maxRecDepth 100000 in
set_option maxHeartbeats 4000000 in
theorem a_join (ps : List (List B)) (w : World) (v : Value) (hB : PcB w v ps) : Calls Tryz.prog 92 #[v] w fun e w' => ∃ u, e = .returned (.tuple #[u, .int .i64 (jer ps)]) ∧ Own w' w.heap.size u (jout ps) ∧ Below w.heap.size w w' := by
 have hlen := hB.len
 have hbd := jn_bd ps (fun i hi => by obtain ⟨_, _, _, _, _, hc⟩ := id hB; obtain ⟨_, _, _, _, _, _, _, h⟩ := hc i hi; exact h)
 obtain ⟨ao, cap, rfl⟩ := hB.form
 obtain ⟨i0, hi, hz0, hz1, hz2⟩ := info8
 by_cases h1 : 4096 < ps.length
 ·have d1 : decide ((ps.length : Int) > 4096) = true := by simp; omega
  have e1 : jer ps = 2 := if_pos (.inl h1)
  have e2 : jout ps = [] := if_pos (.inl h1)
  rw [e1, e2]
  clear hbd e1 e2
  go_enter Tryz.func92, Tryz.ntmps92
  go_wp2_with (fail)
  go_ret2
  exact ⟨_, rfl, own_none _ _, Below.refl _ _⟩
 ·have d1 : decide ((ps.length : Int) > 4096) = false := by simp; omega
  go_enter Tryz.func92, Tryz.ntmps92
  go_wp2_with (fail)
  go_loopw [4, 15] (fun s i wr => ∃ k : Nat, k ≤ ps.length ∧ i = .int .i64 k ∧ s = .int .i64 ((jn (ps.take k)).length : Int) ∧ Below w.heap.size w wr) (fun _ i _ => ps.length - (intOf i).toNat)
  case atStart => exact ⟨0, by omega, rfl, rfl, Below.refl _ _⟩
  case round =>
   obtain ⟨k, hk, rfl, rfl, hw⟩ := hrel
   by_cases hlt : k < ps.length
   ·have hd : decide ((k : Int) < (ps.length : Int)) = true := by simp; omega
    obtain ⟨b, off, uo, uc, e, hb1, hb2, hb3, hb4⟩ := hB.at hlt
    subst e
    replace hb2 := (hw.cell (p := ⟨b, off + k, none⟩) hb1).trans hb2
    have hbk := hbd (k + 1) (by omega)
    rw [jn_snoc ps k hlt, List.length_append] at hbk
    have hsn : Hid ((jn (ps.take (k + 1))).length = (jn (ps.take k)).length + (itm (gp ps k)).length) := hide (by rw [jn_snoc ps k hlt, List.length_append])
    have cS := a_sizeOfItem (gp ps k) uo uc hb4 wr
    have hk1 : 0 ≤ (k : Int) ∧ (k : Int) < (ps.length : Int) := by omega
    clear hB hbd hb3
    generalize (jn (ps.take k)).length = S at *
    generalize (itm (gp ps k)).length = I at *
    generalize (gp ps k).length = P at *
    go_wp2_with (fail)
    refine cS.mono ?_
    rintro e_ w1 ⟨rfl, hb⟩
    replace hw := Below.after hw hb
    clear cS hb
    have hsum : (S : Int) + (I : Int) ≤ 9223372036854775807 := by omega
    go_wp2_with (fail)
    refine ⟨⟨k + 1, by omega, by go_num, by rw [hsn.out, Int.natCast_add], hw⟩, ?_⟩
    simp [intOf]; omega
   ·obtain rfl : k = ps.length := by omega
    have hd : decide ((ps.length : Int) < (ps.length : Int)) = false := by simp
    rw [List.take_length]
    clear hbd
    by_cases h2 : 4194304 < (jn ps).length
    ·have e1 : jer ps = 2 := if_pos (.inr h2)
     have e2 : jout ps = [] := if_pos (.inr h2)
     have hfin : Hid (jer ps = 2 ∧ jout ps = []) := hide ⟨e1, e2⟩
     clear e1 e2
     generalize (jn ps).length = S at *
     have d2 : decide ((S : Int) > 4194304) = true := by simp; omega
     go_wp2_with (fail)
     go_ret2
     rw [hfin.out.1, hfin.out.2]
     exact ⟨_, rfl, own_none _ _, hw⟩
    ·have hnb : ¬ jbad ps := by unfold jbad; omega
     have e1 : jer ps = 0 := if_neg hnb
     have e2 : jout ps = jn ps := if_neg hnb
     have hfin : Hid (jer ps = 0 ∧ jout ps = jn ps) := hide ⟨e1, e2⟩
     clear e1 e2
     have hmono := jn_mono ps
     have hmk := make_lc 0 (jn ps).length (by omega) (by omega) wr
     rw [show ((0 : Nat) : Int) = 0 from rfl] at hmk
     have r0 := hp1_0 wr (.cells (irow .u8 (zr (jn ps).length)) 5)
     have hw0 := hw.alloc hw.size (.cells (irow .u8 (zr (jn ps).length)) 5)
     have hO0 : Own (wr.alloc (.cells (irow .u8 (zr (jn ps).length)) 5)) w.heap.size (.slice (some ⟨wr.heap.size, 0, none⟩) 0 (jn ps).length) [] := by
      have := own_of_row (d := []) (T := zr (jn ps).length) (b := w.heap.size) r0 hw.size (by rw [zr_len]; unfold maxLen; simp; omega)
      rw [zr_len] at this
      simpa using this
     clear r0 hnb
     generalize hS : (jn ps).length = S at *
     have d2 : decide ((S : Int) > 4194304) = false := by simp; omega
     go_wp2_with (fail)
     generalize wr.alloc (.cells (irow .u8 (zr S)) 5) = w2 at *
     clear hmk
     go_loopw [7, 30] (fun s i wr => ∃ (k : Nat) (so : Option Addr) (sc : Nat), k ≤ ps.length ∧ i = .int .i64 k ∧ s = .slice so (jn (ps.take k)).length sc ∧ Own wr w.heap.size (.slice so (jn (ps.take k)).length sc) (jn (ps.take k)) ∧ Below w.heap.size w wr) (fun _ i _ => ps.length - (intOf i).toNat)
     case atStart => exact ⟨0, _, _, by omega, rfl, rfl, hO0, hw0⟩
     case round =>
      clear hO0 hw0 hw
      obtain ⟨k, so, sc, hk, rfl, rfl, hO, hw⟩ := hrel
      by_cases hlt : k < ps.length
      ·have hd2 : decide ((k : Int) < (ps.length : Int)) = true := by simp; omega
       obtain ⟨b, off, uo, uc, e, hb1, hb2, hb3, hb4⟩ := hB.at hlt
       subst e
       replace hb2 := (hw.cell (p := ⟨b, off + k, none⟩) hb1).trans hb2
       have hsn : Hid (jn (ps.take (k + 1)) = jn (ps.take k) ++ itm (gp ps k)) := hide (jn_snoc ps k hlt)
       have hmk := hmono (k + 1)
       rw [hsn.out, List.length_append] at hmk
       have cA := a_addItem (jn (ps.take k)) (gp ps k) w.heap.size wr _ _ hO (hb3.keep hw) (fun V hV => hb3.keep (hw.trans hV)) hw.size (by omega)
       have hk1 : 0 ≤ (k : Int) ∧ (k : Int) < (ps.length : Int) := by omega
       clear hb3 hO hmk
       generalize jn (ps.take k) = J at *
       generalize itm (gp ps k) = I at *
       generalize (gp ps k).length = P at *
       go_wp2_with (fail)
       refine cA.mono ?_
       rintro e_ w3 ⟨x, rfl, hx, hb⟩
       replace hw := hw.trans hb
       obtain ⟨xo, xc, rfl⟩ := slen_own hx
       clear cA hb
       go_wp2_with (fail)
       refine ⟨⟨k + 1, xo, xc, by omega, by go_num, by rw [hsn.out, List.length_append], by rw [hsn.out]; exact hx, hw⟩, ?_⟩
       simp [intOf]; omega
      ·obtain rfl : k = ps.length := by omega
       have hd2 : decide ((ps.length : Int) < (ps.length : Int)) = false := by simp
       rw [List.take_length] at hO
       rw [List.take_length]
       generalize hJ : jn ps = J at *
       go_wp2_with (fail)
       go_ret2
       rw [hfin.out.1, hfin.out.2]
       exact ⟨_, rfl, hO, hw⟩
end Go.Proofs.YtalgcjkiajojoaaGreatDoor
namespace Go.Proofs.YtalgcjkiajojoaaGreatDoor
set_option maxRecDepth 100000
open Go Go.RowKit Go.Sort
attribute [local go_sem] setCell_drewN alloc_drewN
inductive Slt where
 | mk (no kind : Int) (least most : Nat) (sub : List Slt)
namespace Slt
def no : Slt → Int
 | .mk n _ _ _ _ => n
def kind : Slt → Int
 | .mk _ k _ _ _ => k
def least : Slt → Nat
 | .mk _ _ l _ _ => l
def most : Slt → Nat
 | .mk _ _ _ m _ => m
def sub : Slt → List Slt
 | .mk _ _ _ _ s => s
end Slt
def s0 : Slt := .mk 0 0 0 0 []
def gs (ts : List Slt) (i : Nat) : Slt := ts.getD i s0
def gvs (us : List Value) (i : Nat) : Value := us.getD i undef
def srow (t : Slt) (u : Value) : List Value := [.int .i64 t.no, .int .i64 t.kind, .int .u64 (t.least : Int), .int .u64 (t.most : Int), u]
def Sok (t : Slt) : Prop := (-9223372036854775808 ≤ t.no ∧ t.no ≤ 9223372036854775807) ∧ (-9223372036854775808 ≤ t.kind ∧ t.kind ≤ 9223372036854775807) ∧ t.least < 18446744073709551616 ∧ t.most < 18446744073709551616
inductive Slo (W : World) : Value → List Slt → Prop
 | mk (ao : Option Addr) (cap : Nat) (ts : List Slt) (us : List Value) (hl : ts.length ≤ 2932031007317) (hc : ts.length ≤ cap) (hn : ao = none → cap = 0)
  (h : ∀ i, i < ts.length → ∃ b off, ao = some ⟨b, off, none⟩ ∧ b < W.heap.size ∧ W.rangeAt b (off + i * 5) (srow (gs ts i) (gvs us i)) ∧ Sok (gs ts i))
  (hs : ∀ i, i < ts.length → Slo W (gvs us i) (gs ts i).sub) : Slo W (.slice ao ts.length cap) ts
theorem rangeS_keep2 {w W V : World} {b o : Nat} {cs : List Value} (h : W.rangeAt b o cs) (hb : Below w.heap.size W V) (hlt : b < w.heap.size) : V.rangeAt b o cs := fun j v hv => (hb.cell (p := ⟨b, o + j, none⟩) hlt).trans (h j v hv)
theorem Slo.keep {W V : World} {v : Value} {ts : List Slt} (h : Slo W v ts) (hb : Below W.heap.size W V) : Slo V v ts := by
 induction h with
 | mk ao cap ts us hl hc hn h hs ih =>
  refine .mk ao cap ts us hl hc hn (fun i hi => ?_) ih
  obtain ⟨b, off, h1, h2, h3, h4⟩ := h i hi
  exact ⟨b, off, h1, Nat.lt_of_lt_of_le h2 hb.size, rangeS_keep2 h3 hb h2, h4⟩
theorem Slo.form {W : World} {v : Value} {ts : List Slt} (h : Slo W v ts) : ∃ ao cap, v = .slice ao ts.length cap := by
 cases h
 exact ⟨_, _, rfl⟩
theorem sdrop (ts : List Slt) (j : Nat) (h : j < ts.length) : ts.drop j = gs ts j :: ts.drop (j + 1) := by
 rw [List.drop_eq_getElem_cons h, gs, List.getD_eq_getElem?_getD, List.getElem?_eq_getElem h]
 rfl
def slL : List Slt → Int → Int
 | [], l => l
 | .mk _ _ _ _ sub :: ts, l => if 0 ≤ l then slL ts (slL sub (l - 1)) else l
theorem slL_cons (t : Slt) (ts : List Slt) (l : Int) : slL (t :: ts) l = if 0 ≤ l then slL ts (slL t.sub (l - 1)) else l := by
 cases t
 rw [slL]
 rfl
theorem slL_neg (ts : List Slt) (l : Int) (h : l < 0) : slL ts l = l := by
 cases ts with
 | nil => rw [slL]
 | cons t ts => rw [slL_cons, if_neg (by omega)]
theorem slL_le : ∀ (ts : List Slt) (l : Int), slL ts l ≤ l ∧ (-1 ≤ l → -1 ≤ slL ts l)
 | [], l => by rw [slL]; exact ⟨Int.le_refl _, id⟩
 | .mk n k a b sub :: ts, l => by
  rw [slL]
  split
  ·have h1 := slL_le sub (l - 1)
   have h2 := slL_le ts (slL sub (l - 1))
   exact ⟨by omega, fun _ => by omega⟩
  ·exact ⟨Int.le_refl _, id⟩
set_option maxRecDepth 100000 in
set_option maxHeartbeats 4000000 in
theorem l_slotsLeft {W : World} {v : Value} {ts : List Slt} (h : Slo W v ts) : ∀ (w : World) (l : Int), Below W.heap.size W w → -1 ≤ l → l ≤ 10000 → Calls Tryz.prog 16 #[v, .int .i64 l] w fun e w' => e = .returned (.int .i64 (slL ts l)) ∧ Below w.heap.size w w' := by
 induction h with
 | mk ao cap ts us hl hc hn h hs ih =>
  intro w l hw h1 h2
  go_enter Tryz.func16, Tryz.ntmps16
  go_wp2_with (fail)
  go_loopw [1, 5] (fun s i wr => ∃ (k : Nat) (m : Int), k ≤ ts.length ∧ i = .int .i64 k ∧ s = .int .i64 m ∧ -1 ≤ m ∧ m ≤ 10000 ∧ slL ts l = slL (ts.drop k) m ∧ Below w.heap.size w wr) (fun _ i _ => ts.length - (intOf i).toNat)
  case atStart => exact ⟨0, l, by omega, rfl, rfl, h1, h2, rfl, Below.refl _ _⟩
  case round =>
   obtain ⟨k, m, hk, rfl, rfl, hm1, hm2, he, hb⟩ := hrel
   have hww := Below.after hw hb
   by_cases hlt : k < ts.length
   ·have hd : decide ((k : Int) < (ts.length : Int)) = true := by simp; omega
    by_cases hm0 : 0 ≤ m
    ·have hd2 : decide (m ≥ 0) = true := by simpa using hm0
     obtain ⟨b, off, hao, hbl, hra, hok⟩ := h k hlt
     subst hao
     have c4 := rangeS_keep2 hra hww hbl 4 _ rfl
     have hk1 : 0 ≤ (k : Int) ∧ (k : Int) < (ts.length : Int) := by omega
     have cR := ih k hlt wr (m - 1) hww (by omega) (by omega)
     rw [sdrop ts k hlt, slL_cons, if_pos hm0] at he
     have hle := slL_le (gs ts k).sub (m - 1)
     have hle2 := hle.2 (by omega)
     replace hle := hle.1
     replace he := hide he
     generalize slL (gs ts k).sub (m - 1) = m2 at *
     generalize gvs us k = u at *
     clear h hs ih hra hok
     go_wp2_with (fail)
     refine cR.mono ?_
     rintro e_ w1 ⟨rfl, hb1⟩
     replace hb := Below.after hb hb1
     clear cR
     go_wp2_with (fail)
     refine ⟨⟨k + 1, m2, by omega, by go_num, rfl, by omega, by omega, he.out, hb⟩, ?_⟩
     simp [intOf]; omega
    ·have hd2 : decide (m ≥ 0) = false := by simpa using hm0
     rw [slL_neg (ts.drop k) m (by omega)] at he
     replace he := hide he
     clear h hs ih
     go_wp2_with (fail)
     go_ret
     exact ⟨by rw [he.out]; rfl, hb⟩
   ·have hd : decide ((k : Int) < (ts.length : Int)) = false := by simp; omega
    rw [List.drop_eq_nil_of_le (by omega), slL] at he
    replace he := hide he
    clear h hs ih
    go_wp2_with (fail)
    go_ret
    exact ⟨by rw [he.out]; rfl, hb⟩
theorem l_bigSlots {W : World} {v : Value} {ts : List Slt} (h : Slo W v ts) : Calls Tryz.prog 6 #[v] W fun e w' => e = .returned (.bool (decide (slL ts 10000 < 0))) ∧ Below W.heap.size W w' := by
 have cS := l_slotsLeft h W 10000 (Below.refl _ _) (by omega) (by omega)
 generalize slL ts 10000 = m at *
 go_enter Tryz.func6, Tryz.ntmps6
 go_wp2_with (fail)
 refine cS.mono ?_
 rintro e_ w1 ⟨rfl, hb⟩
 go_wp2_with (fail)
 go_ret
 exact ⟨rfl, hb⟩
end Go.Proofs.YtalgcjkiajojoaaGreatDoor
namespace Go.Proofs.YtalgcjkiajojoaaGreatDoor
set_option maxRecDepth 100000
open Go Go.RowKit Go.Sort
attribute [local go_sem] setCell_drewN alloc_drewN
def tyOf (k : Int) : Int := if k = 2 then 5 else if k = 3 ∨ k = 7 then 1 else if k = 1 ∨ k = 4 then 0 else 2
theorem kind_cases (k : Int) : k = 1 ∨ k = 2 ∨ k = 3 ∨ k = 4 ∨ k = 5 ∨ k = 6 ∨ k = 7 ∨ k = 8 ∨ k = 9 ∨ (k ≠ 1 ∧ k ≠ 2 ∧ k ≠ 3 ∧ k ≠ 4 ∧ k ≠ 5 ∧ k ≠ 6 ∧ k ≠ 7 ∧ k ≠ 8 ∧ k ≠ 9) := by omega
def cpd (n : Nat) : Nat := if 4194305 < n then 4194305 else n
theorem cpd_le (n : Nat) : cpd n ≤ 4194305 := by unfold cpd; split <;> omega
def frm (n : Nat) : Nat := cpd (n + (en n).length)
def fitB (k : Int) (r l0 m0 al c5 c6 c7 c8 : Bool) : Bool :=
 if k = 1 ∨ k = 3 then r && al else if k = 2 then r && al && c5 else if k = 4 then l0 && m0 && al else if k = 5 ∨ k = 6 then r && al && c6
 else if k = 7 then l0 && c7 && al else if k = 8 then l0 && m0 else if k = 9 then r && c8 else false
def fitN (k l m : Int) (n : Nat) : Bool := fitB k (decide (l ≤ m)) (l == 0) (m == 0) ((n : Int) == 0) (decide (m < 4294967296)) (decide (m ≤ 4194304)) (decide (m ≤ 9007199254740992)) (decide (m ≤ 4096))
theorem infoS : (Tryz.prog.info? 52).map (·.size) = some 5 := by kernel_rfl
theorem bSl (cs : Array Value) (W : World) : (Instr.box 52 (.agg cs)).run Tryz.prog W = .ok (.pointer (some ⟨W.heap.size, 0, none⟩)) (W.alloc (.cells cs 52)) := by kernel_rfl
end Go.Proofs.YtalgcjkiajojoaaGreatDoor
namespace Go.Proofs.YtalgcjkiajojoaaGreatDoor
set_option maxRecDepth 100000
open Go Go.RowKit Go.Sort
attribute [local go_sem] setCell_drewN alloc_drewN
def lfL : List Slt → Int → Int → Int → Int
 | [], _, _, room => room
 | .mk no k l m sub :: ts, prev, deep, room => if room < 0 then room else
  if no < 1 ∨ 536870911 < no ∨ no ≤ prev ∨ fitN k (l : Int) (m : Int) sub.length = false then -1 else
  lfL ts no deep (if (k = 8 ∨ k = 9) ∧ 0 ≤ room - 1 then (if 16 < sub.length ∨ 6 < deep + 1 then -1 else lfL sub 0 (deep + 1) (room - 1)) else room - 1)
def lft (ts : List Slt) (deep room : Int) : Int := if 16 < ts.length ∨ 6 < deep then -1 else lfL ts 0 deep room
def nst (t : Slt) : Prop := t.kind = 8 ∨ t.kind = 9
instance (t : Slt) : Decidable (nst t) := by unfold nst; infer_instance
def sfit (t : Slt) : Bool := fitN t.kind (t.least : Int) (t.most : Int) t.sub.length
theorem lfL_cons (t : Slt) (ts : List Slt) (prev deep room : Int) : lfL (t :: ts) prev deep room = if room < 0 then room else
 if t.no < 1 ∨ 536870911 < t.no ∨ t.no ≤ prev ∨ sfit t = false then -1 else
 lfL ts t.no deep (if nst t ∧ 0 ≤ room - 1 then lft t.sub (deep + 1) (room - 1) else room - 1) := by
 cases t
 rw [lfL]
 rfl
theorem lfL_neg (ts : List Slt) (prev deep room : Int) (h : room < 0) : lfL ts prev deep room = room := by
 cases ts with
 | nil => rw [lfL]
 | cons t ts => rw [lfL_cons, if_pos h]
theorem lfL_le : ∀ (ts : List Slt) (prev deep room : Int), -1 ≤ room → lfL ts prev deep room ≤ room ∧ -1 ≤ lfL ts prev deep room
 | [], _, _, room, h => by rw [lfL]; exact ⟨Int.le_refl _, h⟩
 | .mk no k l m sub :: ts, prev, deep, room, h => by
  rw [lfL]
  split
  ·exact ⟨Int.le_refl _, h⟩
  ·split
   ·exact ⟨h, Int.le_refl _⟩
   ·have h1 := lfL_le sub 0 (deep + 1) (room - 1) (by omega)
    have key : ∀ r, -1 ≤ r → r ≤ room → lfL ts no deep r ≤ room ∧ -1 ≤ lfL ts no deep r := fun r q1 q2 => by
     have := lfL_le ts no deep r q1
     omega
    apply key
    ·split
     ·split <;> omega
     ·omega
    ·split
     ·split <;> omega
     ·omega
end Go.Proofs.YtalgcjkiajojoaaGreatDoor
namespace Go.Proofs.YtalgcjkiajojoaaGreatDoor
set_option maxRecDepth 100000
open Go Go.RowKit Go.Sort
attribute [local go_sem] setCell_drewN alloc_drewN
def slsz (k : Int) (l m : Nat) (s : Nat × Nat) : Nat × Nat :=
 if k = 1 then ((en l).length, (en m).length) else if k = 2 then (4, 4) else if k = 3 ∨ k = 7 then (8, 8) else if k = 4 then (1, 1) else if k = 5 ∨ k = 6 then (frm l, frm m)
 else if k = 8 then (frm s.1, frm s.2) else (frm (cpd (frm s.1 * l)), frm (cpd (frm s.2 * m)))
def hdl (no k : Int) : Nat := (en (8 * no.toNat + (tyOf k).toNat)).length
def spL : List Slt → Nat → Nat → Nat × Nat
 | [], a, b => (a, b)
 | .mk no k l m sub :: ts, a, b => spL ts (cpd (a + hdl no k + (slsz k l m (spL sub 0 0)).1)) (cpd (b + hdl no k + (slsz k l m (spL sub 0 0)).2))
theorem spL_cons (t : Slt) (ts : List Slt) (a b : Nat) : spL (t :: ts) a b = spL ts (cpd (a + hdl t.no t.kind + (slsz t.kind t.least t.most (spL t.sub 0 0)).1)) (cpd (b + hdl t.no t.kind + (slsz t.kind t.least t.most (spL t.sub 0 0)).2)) := by
 cases t
 rw [spL]
 rfl
def gd : List Slt → Prop
 | [] => True
 | .mk no k l m sub :: ts => ((1 ≤ no ∧ no ≤ 536870911) ∧ fitN k (l : Int) (m : Int) sub.length = true ∧ ((k = 8 ∨ k = 9) → gd sub)) ∧ gd ts
theorem gd_cons (t : Slt) (ts : List Slt) : gd (t :: ts) ↔ ((1 ≤ t.no ∧ t.no ≤ 536870911) ∧ sfit t = true ∧ (nst t → gd t.sub)) ∧ gd ts := by
 cases t
 rw [gd]
 rfl
theorem lfL_gd : ∀ (ts : List Slt) (prev deep room : Int), -1 ≤ room → 0 ≤ lfL ts prev deep room → gd ts
 | [], _, _, _, _, _ => by rw [gd]; trivial
 | .mk no k l m sub :: ts, prev, deep, room, h0, h => by
  rw [gd]
  rw [lfL] at h
  split at h
  ·omega
  ·split at h
   ·omega
   ·rename_i hr hb
    have h1 : ¬ (no < 1) := fun q => hb (.inl q)
    have h2 : ¬ (536870911 < no) := fun q => hb (.inr (.inl q))
    have h3 : fitN k (l : Int) (m : Int) sub.length = true := by
     cases q : fitN k (l : Int) (m : Int) sub.length with
     | true => rfl
     | false => exact absurd (.inr (.inr (.inr q))) hb
    have hl1 := lfL_le sub 0 (deep + 1) (room - 1) (by omega)
    refine ⟨⟨⟨by omega, by omega⟩, h3, fun hk => ?_⟩, ?_⟩
    ·by_cases q : 0 ≤ room - 1
     ·rw [if_pos ⟨hk, q⟩] at h
      by_cases q2 : 16 < sub.length ∨ 6 < deep + 1
      ·rw [if_pos q2, lfL_neg _ _ _ _ (by omega)] at h
       omega
      ·rw [if_neg q2] at h
       by_cases q3 : 0 ≤ lfL sub 0 (deep + 1) (room - 1)
       ·exact lfL_gd sub 0 (deep + 1) (room - 1) (by omega) q3
       ·rw [lfL_neg ts _ _ _ (by omega)] at h
        omega
     ·rw [if_neg (fun x => q x.2), lfL_neg _ _ _ _ (by omega)] at h
      omega
    ·refine lfL_gd ts no deep _ ?_ h
     split
     ·split
      ·omega
      ·exact hl1.2
     ·omega
theorem lft_gd (ts : List Slt) (deep room : Int) (h0 : -1 ≤ room) (h : 0 ≤ lft ts deep room) : gd ts := by
 unfold lft at h
 split at h
 ·omega
 ·exact lfL_gd _ _ _ _ h0 h
theorem gd_at : ∀ (ts : List Slt) (i : Nat), i < ts.length → gd ts → (1 ≤ (gs ts i).no ∧ (gs ts i).no ≤ 536870911) ∧ sfit (gs ts i) = true ∧ (nst (gs ts i) → gd (gs ts i).sub)
 | [], i, hi, _ => by simp at hi
 | t :: ts, 0, _, h => ((gd_cons t ts).1 h).1
 | t :: ts, i + 1, hi, h => gd_at ts i (by simp at hi; omega) ((gd_cons t ts).1 h).2
theorem fit_cases {k : Int} {l m n : Nat} (h : fitN k (l : Int) (m : Int) n = true) : (k = 1 ∧ l ≤ m) ∨ (k = 2 ∧ l ≤ m ∧ m < 4294967296) ∨ (k = 3 ∧ l ≤ m) ∨ k = 4 ∨ ((k = 5 ∨ k = 6) ∧ l ≤ m ∧ m ≤ 4194304) ∨ k = 7 ∨ k = 8 ∨ (k = 9 ∧ l ≤ m ∧ m ≤ 4096) := by
 rcases kind_cases k with rfl | rfl | rfl | rfl | rfl | rfl | rfl | rfl | rfl | ⟨h1, h2, h3, h4, h5, h6, h7, h8, h9⟩
 all_goals try (simp [fitN, fitB] at h; omega)
 simp [fitN, fitB, h1, h2, h3, h4, h5, h6, h7, h8, h9] at h
theorem spL_le : ∀ (ts : List Slt) (a b : Nat), a ≤ 4194305 → b ≤ 4194305 → (spL ts a b).1 ≤ 4194305 ∧ (spL ts a b).2 ≤ 4194305
 | [], a, b, h1, h2 => by rw [spL]; exact ⟨h1, h2⟩
 | t :: ts, a, b, _, _ => by
  rw [spL_cons]
  exact spL_le ts _ _ (cpd_le _) (cpd_le _)
end Go.Proofs.YtalgcjkiajojoaaGreatDoor
namespace Go.Proofs.YtalgcjkiajojoaaGreatDoor
set_option maxRecDepth 100000
open Go Go.RowKit Go.Sort
attribute [local go_sem] setCell_drewN alloc_drewN
theorem tyOf_nat (k : Int) : ∃ T : Nat, tyOf k = (T : Int) ∧ T ≤ 5 := by
 unfold tyOf
 split
 ·exact ⟨5, rfl, by omega⟩
 ·split
  ·exact ⟨1, rfl, by omega⟩
  ·split
   ·exact ⟨0, rfl, by omega⟩
   ·exact ⟨2, rfl, by omega⟩
end Go.Proofs.YtalgcjkiajojoaaGreatDoor
namespace Go.Proofs.YtalgcjkiajojoaaGreatDoor
set_option maxRecDepth 100000
open Go Go.RowKit Go.Sort
attribute [local go_sem] setCell_drewN alloc_drewN
def vld (ts : List Slt) : Int := if lft ts 1 256 < 0 then 80 else if 4194304 < (spL ts 0 0).2 then 2 else 0
end Go.Proofs.YtalgcjkiajojoaaGreatDoor
namespace Go.Proofs.YtalgcjkiajojoaaGreatDoor
set_option maxRecDepth 100000
open Go Go.RowKit Go.Sort
attribute [local go_sem] setCell_drewN alloc_drewN
theorem s_headOf (n : Nat) (hn : n ≤ 536870911) : Gives 35 #[.int .i64 (n : Int)] (.int .u64 ((8 * n : Nat) : Int)) := by
 intro w
 have e : ((8 * n : Nat) : Int) = 8 * (n : Int) := by omega
 rw [e]
 clear e
 go_enter Tryz.func35, Tryz.ntmps35
 go_wp2_with (fail)
 go_ret
 exact ⟨rfl, Below.refl _ _⟩
theorem a_sizeOf (n : Nat) (hn : n < 18446744073709551616) : Gives 34 #[.int .u64 (n : Int)] (.int .u64 ((en n).length : Int)) := by
 intro w
 have cS := a_size n hn w
 have hel := en_ten hn
 generalize (en n).length = m at *
 go_enter Tryz.func34, Tryz.ntmps34
 go_wp2_with (fail)
 refine cS.mono ?_
 rintro e_ w1 ⟨rfl, hb⟩
 go_wp2_with (fail)
 go_ret
 exact ⟨rfl, hb⟩
theorem a_counted (n : Nat) (hn : n < 4611686018427387904) : Gives 118 #[.int .u64 (n : Int)] (.int .u64 (((en n).length + n : Nat) : Int)) := by
 intro w
 have cS := a_sizeOf n (by omega) w
 have hel := en_ten (n := n) (by omega)
 generalize (en n).length = m at *
 have e : ((m + n : Nat) : Int) = (m : Int) + (n : Int) := by omega
 rw [e]
 clear e
 go_enter Tryz.func118, Tryz.ntmps118
 go_wp2_with (fail)
 refine cS.mono ?_
 rintro e_ w1 ⟨rfl, hb⟩
 go_wp2_with (fail)
 go_ret
 exact ⟨rfl, hb⟩
end Go.Proofs.YtalgcjkiajojoaaGreatDoor
namespace Go.Proofs.YtalgcjkiajojoaaGreatDoor
set_option maxRecDepth 100000
open Go Go.RowKit Go.Sort
attribute [local go_sem] setCell_drewN alloc_drewN
def ctd (n : Nat) : Nat := (en n).length + n
theorem bNum (cs : Array Value) (W : World) : (Instr.box 132 (.agg cs)).run Tryz.prog W = .ok (.pointer (some ⟨W.heap.size, 0, none⟩)) (W.alloc (.cells cs 132)) := by kernel_rfl
theorem bOct (cs : Array Value) (W : World) : (Instr.box 141 (.agg cs)).run Tryz.prog W = .ok (.pointer (some ⟨W.heap.size, 0, none⟩)) (W.alloc (.cells cs 141)) := by kernel_rfl
theorem bFlt (cs : Array Value) (W : World) : (Instr.box 138 (.agg cs)).run Tryz.prog W = .ok (.pointer (some ⟨W.heap.size, 0, none⟩)) (W.alloc (.cells cs 138)) := by kernel_rfl
def nsz (ty : Int) (l m : Nat) : Nat × Nat := if ty = 5 then (4, 4) else if ty = 1 then (8, 8) else ((en l).length, (en m).length)
set_option maxRecDepth 100000 in
set_option maxHeartbeats 4000000 in
theorem a_numSize (ty : Int) (l m : Nat) (hl : l < 18446744073709551616) (hm : m < 18446744073709551616) : Gives 133 #[.agg #[.int .i64 ty, .int .u64 (l : Int), .int .u64 (m : Int)]] (.tuple #[.int .u64 ((nsz ty l m).1 : Int), .int .u64 ((nsz ty l m).2 : Int)]) := by
 intro w
 have R0 := hp1_0 w (.cells #[.int .i64 ty, .int .u64 (l : Int), .int .u64 (m : Int)] 132)
 have hw : Below w.heap.size w (w.alloc (.cells #[.int .i64 ty, .int .u64 (l : Int), .int .u64 (m : Int)] 132)) := (Below.refl _ _).alloc (Nat.le_refl _) _
 have c0 : (w.alloc (.cells #[.int .i64 ty, .int .u64 (l : Int), .int .u64 (m : Int)] 132)).cell? ⟨w.heap.size, 0, none⟩ = some (.int .i64 ty) := cell_of_row _ _ _ _ _ _ R0
 have c1 : (w.alloc (.cells #[.int .i64 ty, .int .u64 (l : Int), .int .u64 (m : Int)] 132)).cell? ⟨w.heap.size, 1, none⟩ = some (.int .u64 (l : Int)) := cell_of_row _ _ _ _ _ _ R0
 have c2 : (w.alloc (.cells #[.int .i64 ty, .int .u64 (l : Int), .int .u64 (m : Int)] 132)).cell? ⟨w.heap.size, 2, none⟩ = some (.int .u64 (m : Int)) := cell_of_row _ _ _ _ _ _ R0
 clear R0
 by_cases h5 : ty = 5
 ·subst h5
  go_enter Tryz.func133, Tryz.ntmps133
  go_wp2_with (first | (refine wpList_box rfl 132 _ rfl _ rfl (bNum _) ?_) | fail)
  go_ret2
  exact ⟨rfl, hw⟩
 by_cases h1 : ty = 1
 ·subst h1
  go_enter Tryz.func133, Tryz.ntmps133
  go_wp2_with (first | (refine wpList_box rfl 132 _ rfl _ rfl (bNum _) ?_) | fail)
  go_ret2
  exact ⟨rfl, hw⟩
 have q5 : (ty == 5) = false := by simpa using h5
 have q1 : (ty == 1) = false := by simpa using h1
 have hz : nsz ty l m = ((en l).length, (en m).length) := by unfold nsz; rw [if_neg h5, if_neg h1]
 rw [hz]
 have e1 := en_ten hl
 have e2 := en_ten hm
 have s1 : ∀ V, GivesB V 34 #[.int .u64 (l : Int)] (.int .u64 ((en l).length : Int)) := fun _ V _ => a_sizeOf l hl V
 have s2 : ∀ V, GivesB V 34 #[.int .u64 (m : Int)] (.int .u64 ((en m).length : Int)) := fun _ V _ => a_sizeOf m hm V
 simp only
 generalize (en l).length = A at *
 generalize (en m).length = Bm at *
 clear hz h1 h5
 go_enter Tryz.func133, Tryz.ntmps133
 go_wp2_with (first | (refine wpList_box rfl 132 _ rfl _ rfl (bNum _) ?_) | fail)
 generalize hW : (w.alloc (.cells #[.int .i64 ty, .int .u64 (l : Int), .int .u64 (m : Int)] 132)) = w1 at *
 replace hW := hide hW
 have k1 : ∀ p : Regrown, (grow (redrawn w1 p.d) p.os).cell? ⟨w.heap.size, 1, none⟩ = some (.int .u64 (l : Int)) := fun p => cell_regrown c1 p.d p.os
 have k2 : ∀ p : Regrown, (grow (redrawn w1 p.d) p.os).cell? ⟨w.heap.size, 2, none⟩ = some (.int .u64 (m : Int)) := fun p => cell_regrown c2 p.d p.os
 refine wp_region_quiet_below (by kernel_rfl) (by kernel_rfl) ?_
 go_big_quiet_step (fail)
 go_big_quiet_step (fail)
 go_big_quiet_step (exact (s1 w1).re)
 go_big_quiet_step (fail)
 go_big_quiet_step (fail)
 go_big_quiet_step (exact (s2 w1).re)
 go_big_quiet_step (fail)
 go_big_quiet_step (fail)
 refine wpQuiet_nil ?_
 rintro _ ⟨p, rfl⟩
 have hb2 := below_regrown w1 p.d p.os
 generalize grow (redrawn w1 p.d) p.os = w2 at *
 replace hw := Below.after hw hb2
 clear hb2 k1 k2 s1 s2
 go_wp2_with (fail)
 go_ret2
 exact ⟨rfl, hw⟩
set_option maxRecDepth 100000 in
set_option maxHeartbeats 4000000 in
theorem a_octSize (l m : Nat) (t : Bool) (hl : l < 4611686018427387904) (hm : m < 4611686018427387904) : Gives 135 #[.agg #[.int .u64 (l : Int), .int .u64 (m : Int), .bool t]] (.tuple #[.int .u64 (ctd l : Int), .int .u64 (ctd m : Int)]) := by
 intro w
 have R0 := hp1_0 w (.cells #[.int .u64 (l : Int), .int .u64 (m : Int), .bool t] 141)
 have hw : Below w.heap.size w (w.alloc (.cells #[.int .u64 (l : Int), .int .u64 (m : Int), .bool t] 141)) := (Below.refl _ _).alloc (Nat.le_refl _) _
 have c0 : (w.alloc (.cells #[.int .u64 (l : Int), .int .u64 (m : Int), .bool t] 141)).cell? ⟨w.heap.size, 0, none⟩ = some (.int .u64 (l : Int)) := cell_of_row _ _ _ _ _ _ R0
 have c1 : (w.alloc (.cells #[.int .u64 (l : Int), .int .u64 (m : Int), .bool t] 141)).cell? ⟨w.heap.size, 1, none⟩ = some (.int .u64 (m : Int)) := cell_of_row _ _ _ _ _ _ R0
 have c2 : (w.alloc (.cells #[.int .u64 (l : Int), .int .u64 (m : Int), .bool t] 141)).cell? ⟨w.heap.size, 2, none⟩ = some (.bool t) := cell_of_row _ _ _ _ _ _ R0
 clear R0
 have s1 : ∀ V, GivesB V 118 #[.int .u64 (l : Int)] (.int .u64 (ctd l : Int)) := fun _ V _ => a_counted l hl V
 have s2 : ∀ V, GivesB V 118 #[.int .u64 (m : Int)] (.int .u64 (ctd m : Int)) := fun _ V _ => a_counted m hm V
 generalize ctd l = A at *
 generalize ctd m = Bm at *
 go_enter Tryz.func135, Tryz.ntmps135
 go_wp2_with (first | (refine wpList_box rfl 141 _ rfl _ rfl (bOct _) ?_) | fail)
 generalize hW : (w.alloc (.cells #[.int .u64 (l : Int), .int .u64 (m : Int), .bool t] 141)) = w1 at *
 replace hW := hide hW
 have k0 : ∀ p : Regrown, (grow (redrawn w1 p.d) p.os).cell? ⟨w.heap.size, 0, none⟩ = some (.int .u64 (l : Int)) := fun p => cell_regrown c0 p.d p.os
 have k1 : ∀ p : Regrown, (grow (redrawn w1 p.d) p.os).cell? ⟨w.heap.size, 1, none⟩ = some (.int .u64 (m : Int)) := fun p => cell_regrown c1 p.d p.os
 refine wp_region_quiet_below (by kernel_rfl) (by kernel_rfl) ?_
 go_big_quiet_step (fail)
 go_big_quiet_step (fail)
 go_big_quiet_step (exact (s1 w1).re)
 go_big_quiet_step (fail)
 go_big_quiet_step (fail)
 go_big_quiet_step (exact (s2 w1).re)
 go_big_quiet_step (fail)
 go_big_quiet_step (fail)
 refine wpQuiet_nil ?_
 rintro _ ⟨p, rfl⟩
 have hb2 := below_regrown w1 p.d p.os
 generalize grow (redrawn w1 p.d) p.os = w2 at *
 replace hw := Below.after hw hb2
 clear hb2 k0 k1 s1 s2
 go_wp2_with (fail)
 go_ret2
 exact ⟨rfl, hw⟩
theorem a_fltSize (cs : Array Value) : Gives 134 #[.agg cs] (.tuple #[.int .u64 8, .int .u64 8]) := by
 intro w
 go_enter Tryz.func134, Tryz.ntmps134
 go_wp2_with (first | (refine wpList_box rfl 138 _ rfl _ rfl (bFlt _) ?_) | fail)
 go_ret2
 exact ⟨rfl, (Below.refl _ _).alloc (Nat.le_refl _) _⟩
end Go.Proofs.YtalgcjkiajojoaaGreatDoor

