import Derived.Test.YtleeadbceljfbaaGreatDoorProg
import Derived.WalkKit
import Derived.WalkSpells
import Derived.WalkLawsBesides
import Derived.Lib.QuietBelow
import Derived.Laws.BitsAllLaws
import Derived.BigQuiet
import Derived.WalkMore
import Derived.Test.YtleeadbceljfbaaGreatDoorKa
import Derived.Test.YtleeadbceljfbaaGreatDoorQd3
namespace Go.Proofs.YtleeadbceljfbaaGreatDoor
set_option maxRecDepth 100000
open Go Go.RowKit Go.Sort
attribute [local go_sem] setCell_drewN alloc_drewN

/-- The number, the greatest byte first, of k of the four. -/
def hnr (d : List B) : Nat → Nat
  | 0 => 0
  | k + 1 => hnr d k * 256 + (gb d (3 - k)).toNat
theorem hnr_cnt (d : List B) : hnr d 4 = cnt d := by
  simp only [hnr, cnt, cnk, Nat.pow_zero, Nat.sub_zero, Nat.sub_self, show 3 - 1 = 2 from rfl, show 3 - 2 = 1 from rfl]
  omega
theorem hnr_lt (d : List B) : ∀ k, hnr d k < 256 ^ k
  | 0 => by simp [hnr]
  | k + 1 => by
    have h := hnr_lt d k
    have h2 := (gb d (3 - k)).isLt
    rw [hnr, Nat.pow_succ]
    omega
theorem hnr_bd (d : List B) (k : Nat) (h : k ≤ 4) : hnr d k ≤ 4294967296 := by
  have h1 := hnr_lt d k
  have h2 : 256 ^ k ≤ 256 ^ 4 := Nat.pow_le_pow_right (by decide) h
  have h3 : (256 : Nat) ^ 4 = 4294967296 := by decide
  omega
theorem cnt_lt (d : List B) : cnt d < 4294967296 := by
  have := cnk_lt d 4
  have h3 : (256 : Nat) ^ 4 = 4294967296 := by decide
  unfold cnt
  omega
theorem bit8 (x : Nat) : (BitVec.ofNat 8 x).toNat = x % 256 := by rw [BitVec.toNat_ofNat]
/-- The four bytes of the number that four bytes say are they. -/
theorem pd4_cnt (d : List B) (h : 4 ≤ d.length) : pd4 (cnt d) = d.take 4 := by
  obtain ⟨a, b, c, e, r, rfl⟩ : ∃ a b c e r, d = a :: b :: c :: e :: r := by
    rcases d with _ | ⟨a, _ | ⟨b, _ | ⟨c, _ | ⟨e, r⟩⟩⟩⟩
    · simp at h
    · simp at h
    · simp at h
    · simp at h
    · exact ⟨a, b, c, e, r, rfl⟩
  have ha := a.isLt
  have hb := b.isLt
  have hc := c.isLt
  have he := e.isLt
  have e1 : cnt (a :: b :: c :: e :: r) = a.toNat + b.toNat * 256 + c.toNat * 65536 + e.toNat * 16777216 := by
    simp only [cnt, cnk, gb, Nat.pow_zero, List.getD_cons_zero, List.getD_cons_succ]
    omega
  rw [e1]
  simp only [pd4, List.take_succ_cons, List.take_zero]
  congr 1
  · apply BitVec.eq_of_toNat_eq; rw [bit8]; omega
  · congr 1
    · apply BitVec.eq_of_toNat_eq; rw [bit8]; omega
    · congr 1
      · apply BitVec.eq_of_toNat_eq; rw [bit8]; omega
      · congr 1
        apply BitVec.eq_of_toNat_eq; rw [bit8]; omega
theorem azr_rep (l : List B) : azr l = true ↔ l = List.replicate l.length 0#8 := by
  unfold azr
  rw [List.all_eq_true, List.eq_replicate_iff]
  simp
/-- A body is what Pad makes of the text in it. -/
theorem upo_pad (v : Nat) (d : List B) (hk : known10 v = true) (h4 : ¬ d.length < 4) (hn : cnt d ≤ d.length - 4) :
    (bke v (((d.drop 4).take (cnt d)).length : Int) = 0 ∧ pdr v ((d.drop 4).take (cnt d)) = d) ↔ upo v d = true := by
  have hl : ((d.drop 4).take (cnt d)).length = cnt d := by rw [List.length_take, List.length_drop]; omega
  have hp4 := pd4_cnt d (by omega)
  have hbk : bke v (cnt d : Int) = 0 ↔ cnt d ≤ 1048576 := by
    unfold bke
    rw [hk]
    constructor
    · intro h
      by_cases q : (1048576 : Int) < (cnt d : Int)
      · rw [if_pos rfl, if_neg (by omega), if_pos q] at h
        omega
      · omega
    · intro h
      rw [if_pos rfl, if_neg (by omega), if_neg (by omega)]
  have hge := bkd_ge (dg v) (4 + cnt d) (dg_pos v) (dg_le v)
  have hd : d = d.take 4 ++ (d.drop 4).take (cnt d) ++ d.drop (4 + cnt d) := by
    rw [List.append_assoc, ← List.drop_drop, List.take_append_drop, List.take_append_drop]
  have hu : upo v d = true ↔ cnt d ≤ 1048576 ∧ bkd (dg v) (4 + cnt d) = d.length ∧ azr (d.drop (4 + cnt d)) = true := by
    unfold upo
    simp only [Bool.and_eq_true, Bool.not_eq_true', decide_eq_false_iff_not, decide_eq_true_eq, beq_iff_eq]
    constructor
    · rintro ⟨⟨⟨_, h1⟩, h2⟩, h3⟩; exact ⟨h1, h2, h3⟩
    · rintro ⟨h1, h2, h3⟩; exact ⟨⟨⟨h4, h1⟩, h2⟩, h3⟩
  rw [hl, hbk, hu]
  constructor
  · rintro ⟨h1, h2⟩
    rw [pdr, hl, if_pos (hbk.2 h1)] at h2
    have h3 : bkd (dg v) (4 + cnt d) = d.length := by
      have := congrArg List.length h2
      rw [pdb_len _ _ (by rw [hl]; exact hge)] at this
      exact this
    refine ⟨h1, h3, ?_⟩
    rw [pdb, hl, hp4] at h2
    have h5 := h2.trans hd
    have h6 := List.append_cancel_left h5
    rw [azr_rep, ← h6, List.length_replicate]
  · rintro ⟨h1, h2, h3⟩
    refine ⟨h1, ?_⟩
    rw [pdr, hl, if_pos (hbk.2 h1), pdb, hl, hp4]
    conv => rhs; rw [hd]
    congr 1
    rw [azr_rep] at h3
    rw [h3, List.length_drop, h2]
    congr 1
    omega
theorem upo_len {v : Nat} {d : List B} (h : upo v d = true) : ¬ d.length < 4 ∧ cnt d ≤ d.length - 4 := by
  unfold upo at h
  simp only [Bool.and_eq_true, Bool.not_eq_true', decide_eq_false_iff_not, decide_eq_true_eq, beq_iff_eq] at h
  obtain ⟨⟨⟨h1, _⟩, h2⟩, _⟩ := h
  have hge := bkd_ge (dg v) (4 + cnt d) (dg_pos v) (dg_le v)
  exact ⟨h1, by omega⟩
end Go.Proofs.YtleeadbceljfbaaGreatDoor
