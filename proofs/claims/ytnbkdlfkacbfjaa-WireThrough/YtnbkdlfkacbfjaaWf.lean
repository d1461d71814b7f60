import Derived.Test.YtnbkdlfkacbfjaaProg
import Derived.WalkKit
import Derived.WalkSpells
import Derived.WalkLawsBesides
import Derived.Lib.QuietBelow
import Derived.Laws.BitsAllLaws
import Derived.BigQuiet
import Derived.WalkMore
import Derived.Test.YtnbkdlfkacbfjaaKit
import Derived.Test.YtnbkdlfkacbfjaaWe
namespace Go.Proofs.Ytnbkdlfkacbfjaa
open Go Go.RowKit Go.Sort
attribute [local go_sem] setCell_drewN alloc_drewN

/-- Digits that go on, and the last one. -/
def hv : List B → Nat → Nat
  | [], x => x
  | h :: t, x => hv t x * 128 + (h.toNat - 128)
theorem hv_nil (x : Nat) : hv [] x = x := rfl
theorem hv_cons (h : B) (t : List B) (x : Nat) : hv (h :: t) x = hv t x * 128 + (h.toNat - 128) := rfl
def bad (n x : Nat) : Prop := (n = 9 ∧ 1 < x) ∨ (0 < n ∧ x = 0)
theorem rd_hv : ∀ (hs : List B) (i : Nat) (x : B) (r : List B), (∀ h ∈ hs, 128 ≤ h.toNat) → x.toNat < 128 → i + hs.length ≤ 9 → ¬ bad (i + hs.length) x.toNat → rd i (hs ++ x :: r) = .ok (hv hs x.toNat) (hs.length + 1)
  | [], i, x, r, _, hx, hi, hb => by
    have hb' : ¬ ((i = 9 ∧ 1 < x.toNat) ∨ (0 < i ∧ x.toNat = 0)) := hb
    rw [List.nil_append, rd, if_neg (by omega), if_neg hb']; rfl
  | h :: t, i, x, r, hh, hx, hi, hb => by
    rw [List.length_cons] at hi hb
    rw [List.cons_append, rd, if_pos (hh h (by simp)), if_neg (by omega), rd_hv t (i + 1) x r (fun a ha => hh a (by simp [ha])) hx (by omega) (by rwa [show i + 1 + t.length = i + (t.length + 1) by omega])]
    rfl
theorem rd_bad : ∀ (hs : List B) (i : Nat) (x : B) (r : List B), (∀ h ∈ hs, 128 ≤ h.toNat) → x.toNat < 128 → i + hs.length ≤ 9 → bad (i + hs.length) x.toNat → rd i (hs ++ x :: r) = .er 70
  | [], i, x, r, _, hx, hi, hb => by
    have hb' : (i = 9 ∧ 1 < x.toNat) ∨ (0 < i ∧ x.toNat = 0) := hb
    rw [List.nil_append, rd, if_neg (by omega), if_pos hb']
  | h :: t, i, x, r, hh, hx, hi, hb => by
    rw [List.length_cons] at hi hb
    rw [List.cons_append, rd, if_pos (hh h (by simp)), if_neg (by omega), rd_bad t (i + 1) x r (fun a ha => hh a (by simp [ha])) hx (by omega) (by rwa [show i + 1 + t.length = i + (t.length + 1) by omega])]
theorem rd_cut : ∀ (hs : List B) (i : Nat), (∀ h ∈ hs, 128 ≤ h.toNat) → i + hs.length ≤ 9 → rd i hs = .er 73
  | [], i, _, _ => by rw [rd]
  | h :: t, i, hh, hi => by
    rw [List.length_cons] at hi
    rw [rd, if_pos (hh h (by simp)), if_neg (by omega), rd_cut t (i + 1) (fun a ha => hh a (by simp [ha])) (by omega)]
theorem rd_ten : ∀ (hs : List B) (i : Nat) (r : List B), (∀ h ∈ hs, 128 ≤ h.toNat) → i + hs.length = 10 → 0 < hs.length → rd i (hs ++ r) = .er 70
  | [], i, _, _, _, h0 => by simp at h0
  | h :: t, i, r, hh, hi, _ => by
    rw [List.length_cons] at hi
    rw [List.cons_append, rd, if_pos (hh h (by simp))]
    by_cases h9 : i = 9
    · rw [if_pos h9]
    · have h1 : i + 1 + t.length = 10 := by omega
      have h2 : 0 < t.length := by omega
      rw [if_neg h9, rd_ten t (i + 1) r (fun a ha => hh a (by simp [ha])) h1 h2]
theorem hv_drop (hs : List B) (j x : Nat) (h : j < hs.length) : hv (hs.drop j) x = hv (hs.drop (j + 1)) x * 128 + ((gb hs j).toNat - 128) := by
  rw [drop_at hs j h, hv_cons]
theorem hv_lt (hs : List B) (x : B) (j : Nat) (hj : j ≤ hs.length) (hh : ∀ h ∈ hs, 128 ≤ h.toNat) (hx : x.toNat < 128) (hi : hs.length ≤ 9) (hb : ¬ bad hs.length x.toNat) : hv (hs.drop j) x.toNat < 2 ^ (64 - 7 * j) := by
  have h1 := rd_hv (hs.drop j) j x [] (fun a ha => hh a (List.mem_of_mem_drop ha)) hx (by rw [List.length_drop]; omega) (by rwa [List.length_drop, show j + (hs.length - j) = hs.length by omega])
  exact (rd_ok _ _ _ _ (by omega) h1).2.2.1
theorem take_hi {bs : List B} {p k : Nat} (h : ∀ i, i < k → 128 ≤ (gb bs (p + i)).toNat) : ∀ a ∈ (bs.drop p).take k, 128 ≤ a.toNat := by
  intro a ha
  obtain ⟨i, hi, rfl⟩ := List.mem_take_iff_getElem.1 ha
  rw [List.length_drop] at hi
  rw [List.getElem_drop]
  have := h i (by omega)
  rwa [gb, List.getD_eq_getElem?_getD, List.getElem?_eq_getElem (by omega)] at this
theorem gb_take (bs : List B) (p k i : Nat) (hi : i < k) (_hk : p + k ≤ bs.length) : gb ((bs.drop p).take k) i = gb bs (p + i) := by
  rw [gb, gb, List.getD_eq_getElem?_getD, List.getElem?_take_of_lt hi, List.getElem?_drop, List.getD_eq_getElem?_getD]
theorem bv8 (x : B) : bv x = (x.toNat : Int) := rfl
set_option maxRecDepth 100000 in
set_option maxHeartbeats 8000000 in
theorem r_number (bs : List B) (p : Nat) (hp : p ≤ bs.length) (w : World) (v : Value) (hB : BysB w v bs) : Calls Try.prog 14 #[v, .int .i64 (p : Int)] w fun e w' => e = .returned (nres p (rd 0 (bs.drop p))) ∧ Below w.heap.size w w' := by
  obtain ⟨ao, cap, rfl⟩ := hB.form
  have hlen := hB.2.1
  have d1 : decide ((p : Int) < 0) = false := by simp
  have d2 : decide ((p : Int) > (bs.length : Int)) = false := by simp; omega
  go_enter Try.func14, Try.ntmps14
  go_wp2
  clear d1 d2
  go_loopw [7] (fun n wr => ∃ k : Nat, n = .int .i64 (k : Int) ∧ k ≤ 10 ∧ p + k ≤ bs.length ∧ (∀ i, i < k → 128 ≤ (gb bs (p + i)).toNat) ∧ wr = w) (fun n _ => 10 - (intOf n).toNat)
  case atStart => exact ⟨0, rfl, by omega, by omega, by intro i hi; omega, rfl⟩
  case round =>
    obtain ⟨k, rfl, hk, hpk, hhi, rfl⟩ := hrel
    by_cases c1 : k < 10 ∧ p + k < bs.length ∧ 128 ≤ (gb bs (p + k)).toNat
    · obtain ⟨c1, c2, c3⟩ := c1
      have d3 : decide ((k : Int) < 10) = true := by simp; omega
      have d4 : decide ((p : Int) + (k : Int) < (bs.length : Int)) = true := by simp; omega
      obtain ⟨b, off, rfl, hbl, hcl⟩ := hB.cellAt (j := p + k) c2
      have hh2 : ∀ i, i < k + 1 → 128 ≤ (gb bs (p + i)).toNat := fun i hi => by
        rcases Nat.lt_or_ge i k with q | q
        · exact hhi i q
        · obtain rfl : i = k := by omega
          exact c3
      replace hh2 := hide hh2
      have d5 : decide (bv (gb bs (p + k)) ≥ 128) = true := by rw [bv8]; simp; omega
      clear hhi
      generalize gb bs (p + k) = x at *
      clear hB
      go_wp2
      refine ⟨⟨k + 1, by go_num, by omega, by omega, hh2.out, trivial⟩, ?_⟩
      simp [intOf]; omega
    · replace hhi := hide hhi
      obtain ⟨hs, hhs⟩ : ∃ hs, (bs.drop p).take k = hs := ⟨_, rfl⟩
      have hsl : hs.length = k := by rw [← hhs, List.length_take, List.length_drop]; omega
      have hall := take_hi hhi.out
      rw [hhs] at hall
      replace hall := hide hall
      by_cases c2 : k < 10 ∧ p + k < bs.length
      · -- the last digit
        obtain ⟨b, off, rfl, hbl, hcl⟩ := hB.cellAt (j := p + k) c2.2
        have hxs := bnd (gb bs (p + k))
        have hspl : bs.drop p = hs ++ gb bs (p + k) :: bs.drop (p + k + 1) := by
          rw [← drop_at bs (p + k) c2.2, ← hhs, ← List.drop_drop, List.take_append_drop]
        replace hspl := hide hspl
        have d3 : decide ((k : Int) < 10) = true := by simp; omega
        have d4 : decide ((p : Int) + (k : Int) < (bs.length : Int)) = true := by simp; omega
        have d5 : decide (bv (gb bs (p + k)) ≥ 128) = false := by rw [bv8]; simp; omega
        have d6 : ((k : Int) == 10) = false := by simp; omega
        have d7 : ((p : Int) + (k : Int) == (bs.length : Int)) = false := by simp; omega
        have hxl : (gb bs (p + k)).toNat < 128 := by omega
        have hqi : 0 ≤ (p : Int) + (k : Int) ∧ (p : Int) + (k : Int) < (bs.length : Int) := by omega
        have hcells : Hid (∀ i, i < k → wr.cell? ⟨b, off + (p + i), none⟩ = some (.int .u8 (bv (gb hs i)))) := hide (fun i hi => by
          obtain ⟨b', off', e, _, hc⟩ := hB.cellAt (j := p + i) (by omega)
          cases e
          rw [hc, ← hhs, gb_take bs p k i hi hpk])
        have hhs2 : Hid (∀ i, i < k → 128 ≤ (gb hs i).toNat) := hide (fun i hi => by rw [← hhs, gb_take bs p k i hi hpk]; exact hhi.out i hi)
        generalize gb bs (p + k) = x at *
        clear hB hhi
        replace hhs := hide hhs
        by_cases c3 : bad k x.toNat
        · have hfin : Hid (nres p (rd 0 (bs.drop p)) = .tuple #[.int .u64 0, .int .i64 0, .int .i64 70]) := hide (by
            rw [hspl.out, rd_bad hs 0 x _ hall.out hxl (by omega) (by rwa [Nat.zero_add, hsl])]; rfl)
          by_cases c4 : k = 9 ∧ 1 < x.toNat
          · have d8 : ((k : Int) == 9) = true := by simp; omega
            have d9 : decide (bv x > 1) = true := by rw [bv8]; simp; omega
            replace c1 := hide c1
            replace c2 := hide c2
            replace c3 := hide c3
            replace c4 := hide c4
            clear hhs2 hcells hsl
            go_wp2
            go_ret3
            exact ⟨by rw [hfin.out]; rfl, Below.refl _ _⟩
          · have c5 : 0 < k ∧ x.toNat = 0 := by unfold bad at c3; omega
            have d9 : decide (bv x > 1) = false := by rw [bv8]; simp; omega
            have d10 : (bv x == 0) = true := by rw [bv8]; simp; omega
            have hk0 : 0 < k := c5.1
            replace c1 := hide c1
            replace c2 := hide c2
            replace c3 := hide c3
            replace c4 := hide c4
            replace c5 := hide c5
            clear hhs2 hcells hsl
            by_cases c6 : k = 9
            · have d8 : ((k : Int) == 9) = true := by simp; omega
              replace c6 := hide c6
              go_wp2
              go_ret3
              exact ⟨by rw [hfin.out]; rfl, Below.refl _ _⟩
            · have d8 : ((k : Int) == 9) = false := by simp; omega
              replace c6 := hide c6
              go_wp2
              go_ret3
              exact ⟨by rw [hfin.out]; rfl, Below.refl _ _⟩
        · have hk9 : k ≤ 9 := by omega
          have hfin : Hid (nres p (rd 0 (bs.drop p)) = .tuple #[.int .u64 ((hv hs x.toNat : Nat) : Int), .int .i64 ((p + k + 1 : Nat) : Int), .int .i64 0]) := hide (by
            rw [hspl.out, rd_hv hs 0 x _ hall.out hxl (by omega) (by rwa [Nat.zero_add, hsl])]
            rw [nres, hsl]
            congr 1)
          have hlt : Hid (∀ j, j ≤ k → hv (hs.drop j) x.toNat < 2 ^ (64 - 7 * j)) := hide (fun j hj => hv_lt hs x j (by omega) hall.out hxl (by omega) (by rwa [hsl]))
          have hhv : Hid (hv (hs.drop k) x.toNat = x.toNat) := hide (by rw [List.drop_of_length_le (by omega), hv_nil])
          have hstep : Hid (∀ j, j < k → hv (hs.drop j) x.toNat = hv (hs.drop (j + 1)) x.toNat * 128 + ((gb hs j).toNat - 128)) := hide (fun j hj => hv_drop hs j _ (by omega))
          have hbx : Hid (bv x = (x.toNat : Int)) := hide rfl
          have hh0 : Hid (hv (hs.drop 0) x.toNat = hv hs x.toNat) := hide (by rw [List.drop_zero])
          generalize hF : (fun j => hv (hs.drop j) x.toNat) = F
          have hF' : ∀ j, hv (hs.drop j) x.toNat = F j := fun j => by rw [← hF]
          replace hF := hide hF
          simp only [hF'] at hlt hhv hstep hh0
          clear hF'
          have hkb : ¬ bad k x.toNat := c3
          replace c1 := hide c1
          replace c2 := hide c2
          replace c3 := hide c3
          replace hsl := hide hsl
          by_cases q9 : k = 9
          · have d8 : ((k : Int) == 9) = true := by simp; omega
            have d9 : decide (bv x > 1) = false := by unfold bad at hkb; rw [bv8]; simp; omega
            have d10 : (bv x == 0) = false := by unfold bad at hkb; rw [bv8]; simp; omega
            have hk0 : 0 < k := by omega
            replace q9 := hide q9
            replace hkb := hide hkb
            go_wp2
            go_loopw [9, 10] (fun m i wr2 => ∃ j : Nat, j ≤ k ∧ m = .int .u64 ((F j : Nat) : Int) ∧ i = .int .i64 ((j : Int) - 1) ∧ wr2 = wr) (fun _ i _ => (intOf i + 1).toNat)
            case atStart => exact ⟨k, Nat.le_refl _, by rw [hhv.out]; rfl, rfl, rfl⟩
            case round =>
              obtain ⟨j, hj, rfl, rfl, rfl⟩ := hrel
              by_cases hj0 : j = 0
              · subst hj0
                have dj : decide (((0 : Nat) : Int) - 1 ≥ 0) = false := by decide
                go_wp2
                go_ret3
                exact ⟨by rw [hfin.out, ← hh0.out]; rfl, Below.refl _ _⟩
              · obtain ⟨i, rfl⟩ : ∃ i, j = i + 1 := ⟨j - 1, by omega⟩
                rw [show ((i + 1 : Nat) : Int) - 1 = (i : Int) by omega]
                have hcj := hcells.out i (by omega)
                have hhj := hhs2.out i (by omega)
                have hsj := hstep.out i (by omega)
                have hl0 := hlt.out i (by omega)
                have hl1 : 2 ^ (64 - 7 * i) ≤ 2 ^ 64 := Nat.pow_le_pow_right (by decide) (by omega)
                have hqj : 0 ≤ (p : Int) + (i : Int) ∧ (p : Int) + (i : Int) < (bs.length : Int) := by omega
                have hyb := bnd (gb hs i)
                have ey : Hid (bv (gb hs i) = ((gb hs i).toNat : Int)) := hide rfl
                have hy8 : 128 ≤ bv (gb hs i) := by rw [ey.out]; omega
                have hF64 : F i < 18446744073709551616 := by omega
                have hmul : (F (i + 1) : Int) * 128 < 18446744073709551616 := by omega
                have hnew : (F (i + 1) : Int) * 128 + (bv (gb hs i) - 128) = ((F i : Nat) : Int) := by rw [ey.out]; omega
                have hsum : (F (i + 1) : Int) * 128 + (bv (gb hs i) - 128) < 18446744073709551616 := by omega
                replace hnew := hide hnew
                clear hsj hl0 hl1 hF64 hhj hj0
                generalize gb hs i = y at *
                generalize hf1 : F (i + 1) = f1 at *
                go_wp2
                refine ⟨⟨i, by omega, by rw [← hnew.out], rfl, trivial⟩, ?_⟩
                simp [intOf]
          · have d8 : ((k : Int) == 9) = false := by simp; omega
            by_cases q0 : k = 0
            · have hk0 : ¬ 0 < k := by omega
              replace q9 := hide q9
              replace q0 := hide q0
              replace hkb := hide hkb
              go_wp2
              go_loopw [9, 10] (fun m i wr2 => ∃ j : Nat, j ≤ k ∧ m = .int .u64 ((F j : Nat) : Int) ∧ i = .int .i64 ((j : Int) - 1) ∧ wr2 = wr) (fun _ i _ => (intOf i + 1).toNat)
              case atStart => exact ⟨k, Nat.le_refl _, by rw [hhv.out]; rfl, rfl, rfl⟩
              case round =>
                obtain ⟨j, hj, rfl, rfl, rfl⟩ := hrel
                by_cases hj0 : j = 0
                · subst hj0
                  have dj : decide (((0 : Nat) : Int) - 1 ≥ 0) = false := by decide
                  go_wp2
                  go_ret3
                  exact ⟨by rw [hfin.out, ← hh0.out]; rfl, Below.refl _ _⟩
                · obtain ⟨i, rfl⟩ : ∃ i, j = i + 1 := ⟨j - 1, by omega⟩
                  rw [show ((i + 1 : Nat) : Int) - 1 = (i : Int) by omega]
                  have hcj := hcells.out i (by omega)
                  have hhj := hhs2.out i (by omega)
                  have hsj := hstep.out i (by omega)
                  have hl0 := hlt.out i (by omega)
                  have hl1 : 2 ^ (64 - 7 * i) ≤ 2 ^ 64 := Nat.pow_le_pow_right (by decide) (by omega)
                  have hqj : 0 ≤ (p : Int) + (i : Int) ∧ (p : Int) + (i : Int) < (bs.length : Int) := by omega
                  have hyb := bnd (gb hs i)
                  have ey : Hid (bv (gb hs i) = ((gb hs i).toNat : Int)) := hide rfl
                  have hy8 : 128 ≤ bv (gb hs i) := by rw [ey.out]; omega
                  have hF64 : F i < 18446744073709551616 := by omega
                  have hmul : (F (i + 1) : Int) * 128 < 18446744073709551616 := by omega
                  have hnew : (F (i + 1) : Int) * 128 + (bv (gb hs i) - 128) = ((F i : Nat) : Int) := by rw [ey.out]; omega
                  have hsum : (F (i + 1) : Int) * 128 + (bv (gb hs i) - 128) < 18446744073709551616 := by omega
                  replace hnew := hide hnew
                  clear hsj hl0 hl1 hF64 hhj hj0
                  generalize gb hs i = y at *
                  generalize hf1 : F (i + 1) = f1 at *
                  go_wp2
                  refine ⟨⟨i, by omega, by rw [← hnew.out], rfl, trivial⟩, ?_⟩
                  simp [intOf]
            · have d10 : (bv x == 0) = false := by unfold bad at hkb; rw [bv8]; simp; omega
              have hk0 : 0 < k := by omega
              replace q9 := hide q9
              replace q0 := hide q0
              replace hkb := hide hkb
              go_wp2
              go_loopw [9, 10] (fun m i wr2 => ∃ j : Nat, j ≤ k ∧ m = .int .u64 ((F j : Nat) : Int) ∧ i = .int .i64 ((j : Int) - 1) ∧ wr2 = wr) (fun _ i _ => (intOf i + 1).toNat)
              case atStart => exact ⟨k, Nat.le_refl _, by rw [hhv.out]; rfl, rfl, rfl⟩
              case round =>
                obtain ⟨j, hj, rfl, rfl, rfl⟩ := hrel
                by_cases hj0 : j = 0
                · subst hj0
                  have dj : decide (((0 : Nat) : Int) - 1 ≥ 0) = false := by decide
                  go_wp2
                  go_ret3
                  exact ⟨by rw [hfin.out, ← hh0.out]; rfl, Below.refl _ _⟩
                · obtain ⟨i, rfl⟩ : ∃ i, j = i + 1 := ⟨j - 1, by omega⟩
                  rw [show ((i + 1 : Nat) : Int) - 1 = (i : Int) by omega]
                  have hcj := hcells.out i (by omega)
                  have hhj := hhs2.out i (by omega)
                  have hsj := hstep.out i (by omega)
                  have hl0 := hlt.out i (by omega)
                  have hl1 : 2 ^ (64 - 7 * i) ≤ 2 ^ 64 := Nat.pow_le_pow_right (by decide) (by omega)
                  have hqj : 0 ≤ (p : Int) + (i : Int) ∧ (p : Int) + (i : Int) < (bs.length : Int) := by omega
                  have hyb := bnd (gb hs i)
                  have ey : Hid (bv (gb hs i) = ((gb hs i).toNat : Int)) := hide rfl
                  have hy8 : 128 ≤ bv (gb hs i) := by rw [ey.out]; omega
                  have hF64 : F i < 18446744073709551616 := by omega
                  have hmul : (F (i + 1) : Int) * 128 < 18446744073709551616 := by omega
                  have hnew : (F (i + 1) : Int) * 128 + (bv (gb hs i) - 128) = ((F i : Nat) : Int) := by rw [ey.out]; omega
                  have hsum : (F (i + 1) : Int) * 128 + (bv (gb hs i) - 128) < 18446744073709551616 := by omega
                  replace hnew := hide hnew
                  clear hsj hl0 hl1 hF64 hhj hj0
                  generalize gb hs i = y at *
                  generalize hf1 : F (i + 1) = f1 at *
                  go_wp2
                  refine ⟨⟨i, by omega, by rw [← hnew.out], rfl, trivial⟩, ?_⟩
                  simp [intOf]
      · have hfin : Hid (nres p (rd 0 (bs.drop p)) = .tuple #[.int .u64 0, .int .i64 0, .int .i64 (if k = 10 then 70 else 73)]) := hide (by
          by_cases h10 : k = 10
          · have hspl : bs.drop p = hs ++ bs.drop (p + k) := by rw [← hhs, ← List.drop_drop, List.take_append_drop]
            rw [hspl, rd_ten hs 0 _ hall.out (by omega) (by omega), if_pos h10]; rfl
          · have hspl : bs.drop p = hs := by rw [← hhs, List.take_of_length_le (by rw [List.length_drop]; omega)]
            rw [hspl, rd_cut hs 0 hall.out (by omega), if_neg h10]; rfl)
        clear hB hall hhs
        by_cases h10 : k = 10
        · rw [if_pos h10] at hfin
          subst h10
          replace c1 := hide c1
          replace c2 := hide c2
          replace hsl := hide hsl
          go_wp2
          go_ret3
          exact ⟨by rw [hfin.out]; rfl, Below.refl _ _⟩
        · rw [if_neg h10] at hfin
          have d3 : decide ((k : Int) < 10) = true := by simp; omega
          have d4 : decide ((p : Int) + (k : Int) < (bs.length : Int)) = false := by simp; omega
          have d6 : ((k : Int) == 10) = false := by simp; omega
          have d7 : ((p : Int) + (k : Int) == (bs.length : Int)) = true := by simp; omega
          replace c1 := hide c1
          replace c2 := hide c2
          replace hsl := hide hsl
          replace h10 := hide h10
          go_wp2
          go_ret3
          exact ⟨by rw [hfin.out]; rfl, Below.refl _ _⟩
set_option maxHeartbeats 1000000 in
theorem r_number_out (bs : List B) (p : Int) (hp : p < 0 ∨ (bs.length : Int) < p) (w : World) (v : Value) (hB : BysB w v bs) : Calls Try.prog 14 #[v, .int .i64 p] w fun e w' => e = .returned (.tuple #[.int .u64 0, .int .i64 0, .int .i64 1]) ∧ Below w.heap.size w w' := by
  obtain ⟨ao, cap, rfl⟩ := hB.form
  by_cases h : p < 0
  · have d1 : decide (p < 0) = true := by simp; omega
    go_enter Try.func14, Try.ntmps14
    go_wp2
    go_ret3
    exact ⟨rfl, Below.refl _ _⟩
  · have d1 : decide (p < 0) = false := by simp; omega
    have d2 : decide (p > (bs.length : Int)) = true := by simp; omega
    go_enter Try.func14, Try.ntmps14
    go_wp2
    go_ret3
    exact ⟨rfl, Below.refl _ _⟩
end Go.Proofs.Ytnbkdlfkacbfjaa
