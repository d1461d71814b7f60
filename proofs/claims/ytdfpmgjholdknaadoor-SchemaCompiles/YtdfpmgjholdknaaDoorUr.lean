import Derived.Test.YtdfpmgjholdknaaDoorUq
import Derived.Test.YtdfpmgjholdknaaDoorUf
namespace Go.Proofs.YtdfpmgjholdknaaDoor
set_option maxRecDepth 100000
open Go Go.RowKit Go.Sort
attribute [local go_sem] setCell_drewN alloc_drewN
theorem fit_alone {k : Int} {l m n : Nat} (h : fitN k (l : Int) (m : Int) n = true) (hk : ¬ (k = 8 ∨ k = 9)) : n = 0 := by
  rcases Nat.eq_zero_or_pos n with h0 | h0
  · exact h0
  · exfalso
    have q : ((n : Int) == 0) = false := beq_eq_false_iff_ne.2 (by omega)
    rcases kind_cases k with x | x | x | x | x | x | x | x | x | ⟨m1, m2, m3, m4, m5, m6, m7, m8, m9⟩
    all_goals first | exact hk (.inl x) | exact hk (.inr x) | (rw [x] at h; unfold fitN at h; rw [q] at h; simp [fitB] at h; done) | (simp [fitN, fitB, m1, m2, m3, m4, m5, m6, m7, m8, m9] at h; done)
theorem slL_vok : ∀ (ts : List Slt) (prev deep l : Int), vok ts prev deep → (tot ts : Int) ≤ l → slL ts l = l - tot ts
  | [], _, _, l, _, _ => by rw [slL, tot]; simp
  | .mk no k lo m sub :: ts, prev, deep, l, hv, hl => by
    rw [vok] at hv
    rw [tot] at hl ⊢
    rw [slL, if_pos (by omega)]
    obtain ⟨⟨_, hf, hn⟩, ht⟩ := hv
    by_cases hk : k = 8 ∨ k = 9
    · rw [if_pos hk] at hl ⊢
      rw [slL_vok sub 0 (deep + 1) (l - 1) (hn hk).2.2 (by omega), slL_vok ts no deep _ ht (by omega)]
      omega
    · rw [if_neg hk] at hl ⊢
      have e : sub = [] := List.length_eq_zero_iff.1 (fit_alone hf hk)
      rw [e, slL, slL_vok ts no deep _ ht (by omega)]
      omega
theorem vld_big {ts : List Slt} (h : slL ts 10000 < 0) : vld ts = 80 := by
  refine if_pos ?_
  rcases Int.lt_or_le (lft ts 1 256) 0 with x | x
  · exact x
  · exfalso
    unfold lft at x
    split at x
    · omega
    · obtain ⟨_, a2⟩ := lfL_val ts 0 1 256 (by omega)
      have hv : vok ts 0 1 ∧ (tot ts : Int) ≤ 256 := Classical.byContradiction fun q => by have := a2 q; omega
      have := slL_vok ts 0 1 10000 hv.1 (by omega)
      omega
end Go.Proofs.YtdfpmgjholdknaaDoor
