import Derived.Test.YtdfpmgjholdknaaDoorProg
import Derived.WalkKit
import Derived.WalkSpells
import Derived.WalkLawsBesides
import Derived.Lib.QuietBelow
import Derived.Laws.BitsAllLaws
import Derived.BigQuiet
import Derived.WalkMore
import Derived.Test.YtdfpmgjholdknaaDoorKa
import Derived.Test.YtdfpmgjholdknaaDoorWe
namespace Go.Proofs.YtdfpmgjholdknaaDoor
set_option maxRecDepth 100000
open Go Go.RowKit Go.Sort
attribute [local go_sem] setCell_drewN alloc_drewN

/-- Digits that go on, and the last one. -/
def hv : List B → Nat → Nat
  | [], x => x
  | h :: t, x => hv t x * 128 + (h.toNat - 128)
theorem hv_nil (x : Nat) : hv [] x = x := rfl
theorem hv_cons (h : B) (t : List B) (x : Nat) : hv (h :: t) x = hv t x * 128 + (h.toNat - 128) := rfl
def bad (n x : Nat) : Prop := (n = 9 ∧ 1 < x) ∨ (0 < n ∧ x = 0)
theorem rd_hv : ∀ (hs : List B) (i : Nat) (x : B) (r : List B), (∀ h ∈ hs, 128 ≤ h.toNat) → x.toNat < 128 → i + hs.length ≤ 9 → ¬ bad (i + hs.length) x.toNat → rd i (hs ++ x :: r) = .ok (hv hs x.toNat) (hs.length + 1)
  | [], i, x, r, _, hx, hi, hb => by
    have hb' : ¬ ((i = 9 ∧ 1 < x.toNat) ∨ (0 < i ∧ x.toNat = 0)) := hb
    rw [List.nil_append, rd, if_neg (by omega), if_neg hb']; rfl
  | h :: t, i, x, r, hh, hx, hi, hb => by
    rw [List.length_cons] at hi hb
    rw [List.cons_append, rd, if_pos (hh h (by simp)), if_neg (by omega), rd_hv t (i + 1) x r (fun a ha => hh a (by simp [ha])) hx (by omega) (by rwa [show i + 1 + t.length = i + (t.length + 1) by omega])]
    rfl
theorem rd_bad : ∀ (hs : List B) (i : Nat) (x : B) (r : List B), (∀ h ∈ hs, 128 ≤ h.toNat) → x.toNat < 128 → i + hs.length ≤ 9 → bad (i + hs.length) x.toNat → rd i (hs ++ x :: r) = .er 70
  | [], i, x, r, _, hx, hi, hb => by
    have hb' : (i = 9 ∧ 1 < x.toNat) ∨ (0 < i ∧ x.toNat = 0) := hb
    rw [List.nil_append, rd, if_neg (by omega), if_pos hb']
  | h :: t, i, x, r, hh, hx, hi, hb => by
    rw [List.length_cons] at hi hb
    rw [List.cons_append, rd, if_pos (hh h (by simp)), if_neg (by omega), rd_bad t (i + 1) x r (fun a ha => hh a (by simp [ha])) hx (by omega) (by rwa [show i + 1 + t.length = i + (t.length + 1) by omega])]
theorem rd_cut : ∀ (hs : List B) (i : Nat), (∀ h ∈ hs, 128 ≤ h.toNat) → i + hs.length ≤ 9 → rd i hs = .er 73
  | [], i, _, _ => by rw [rd]
  | h :: t, i, hh, hi => by
    rw [List.length_cons] at hi
    rw [rd, if_pos (hh h (by simp)), if_neg (by omega), rd_cut t (i + 1) (fun a ha => hh a (by simp [ha])) (by omega)]
theorem rd_ten : ∀ (hs : List B) (i : Nat) (r : List B), (∀ h ∈ hs, 128 ≤ h.toNat) → i + hs.length = 10 → 0 < hs.length → rd i (hs ++ r) = .er 70
  | [], i, _, _, _, h0 => by simp at h0
  | h :: t, i, r, hh, hi, _ => by
    rw [List.length_cons] at hi
    rw [List.cons_append, rd, if_pos (hh h (by simp))]
    by_cases h9 : i = 9
    · rw [if_pos h9]
    · have h1 : i + 1 + t.length = 10 := by omega
      have h2 : 0 < t.length := by omega
      rw [if_neg h9, rd_ten t (i + 1) r (fun a ha => hh a (by simp [ha])) h1 h2]
theorem hv_drop (hs : List B) (j x : Nat) (h : j < hs.length) : hv (hs.drop j) x = hv (hs.drop (j + 1)) x * 128 + ((gb hs j).toNat - 128) := by
  rw [drop_at hs j h, hv_cons]
theorem hv_lt (hs : List B) (x : B) (j : Nat) (hj : j ≤ hs.length) (hh : ∀ h ∈ hs, 128 ≤ h.toNat) (hx : x.toNat < 128) (hi : hs.length ≤ 9) (hb : ¬ bad hs.length x.toNat) : hv (hs.drop j) x.toNat < 2 ^ (64 - 7 * j) := by
  have h1 := rd_hv (hs.drop j) j x [] (fun a ha => hh a (List.mem_of_mem_drop ha)) hx (by rw [List.length_drop]; omega) (by rwa [List.length_drop, show j + (hs.length - j) = hs.length by omega])
  exact (rd_ok _ _ _ _ (by omega) h1).2.2.1
theorem take_hi {bs : List B} {p k : Nat} (h : ∀ i, i < k → 128 ≤ (gb bs (p + i)).toNat) : ∀ a ∈ (bs.drop p).take k, 128 ≤ a.toNat := by
  intro a ha
  obtain ⟨i, hi, rfl⟩ := List.mem_take_iff_getElem.1 ha
  rw [List.length_drop] at hi
  rw [List.getElem_drop]
  have := h i (by omega)
  rwa [gb, List.getD_eq_getElem?_getD, List.getElem?_eq_getElem (by omega)] at this
theorem gb_take (bs : List B) (p k i : Nat) (hi : i < k) (_hk : p + k ≤ bs.length) : gb ((bs.drop p).take k) i = gb bs (p + i) := by
  rw [gb, gb, List.getD_eq_getElem?_getD, List.getElem?_take_of_lt hi, List.getElem?_drop, List.getD_eq_getElem?_getD]
theorem bv8 (x : B) : bv x = (x.toNat : Int) := rfl
end Go.Proofs.YtdfpmgjholdknaaDoor
