import Derived.Test.YtleeadbceljfbaaGreatDoorCQd3
namespace Go.Proofs.YtleeadbceljfbaaGreatDoor
set_option maxRecDepth 100000
open Go Go.RowKit Go.Sort
theorem en_mono {n m : Nat} (h : n ≤ m) : (en n).length ≤ (en m).length :=
 (en_len n _ (en_pos m)).2 (Nat.lt_of_le_of_lt h ((en_len m _ (en_pos m)).1 (Nat.le_refl _)))
def eln (c : Nat) : Nat := 83 + (en (c + 16)).length + (c + 16)
theorem eln_lt {c d : Nat} (h : c < d) : eln c < eln d := by
 have := en_mono (show c + 16 ≤ d + 16 by omega)
 unfold eln
 omega
theorem eln_eq (c d : Nat) : ((eln c : Int) == (eln d : Int)) = ((c : Int) == (d : Int)) := by
 rcases Nat.lt_trichotomy c d with h | rfl | h
 · have := eln_lt h
   rw [beq_eq_false_iff_ne.2 (by omega), beq_eq_false_iff_ne.2 (by omega)]
 · simp
 · have := eln_lt h
   rw [beq_eq_false_iff_ne.2 (by omega), beq_eq_false_iff_ne.2 (by omega)]
theorem eln_less (c d : Nat) : decide ((eln c : Int) < (eln d : Int)) = decide ((c : Int) < (d : Int)) := by
 rcases Nat.lt_trichotomy c d with h | rfl | h
 · have := eln_lt h
   rw [decide_eq_true (by omega), decide_eq_true (by omega)]
 · simp
 · have := eln_lt h
   rw [decide_eq_false (by omega), decide_eq_false (by omega)]
end Go.Proofs.YtleeadbceljfbaaGreatDoor

