import Derived.Test.YtdfpmgjholdknaaDoorProg
import Derived.WalkKit
import Derived.Test.YtdfpmgjholdknaaDoorKa
import Derived.Test.YtdfpmgjholdknaaDoorUh
namespace Go.Proofs.YtdfpmgjholdknaaDoor
set_option maxRecDepth 100000
open Go Go.RowKit Go.Sort
/-- The program's size of a slot's values, not cut off. -/
def psz (k : Int) (l m : Nat) (s : Nat × Nat) : Nat × Nat :=
  if k = 1 then ((en l).length, (en m).length) else if k = 2 then (4, 4) else if k = 3 ∨ k = 7 then (8, 8) else if k = 4 then (1, 1) else if k = 5 ∨ k = 6 then (ctd l, ctd m)
  else if k = 8 then (ctd s.1, ctd s.2) else (ctd (l * ctd s.1), ctd (m * ctd s.2))
def phd (no : Int) : Nat := (en (8 * no.toNat)).length
/-- The program's sums: cut off at a message's end alone. -/
def prL : List Slt → Nat → Nat → Nat × Nat
  | [], a, b => (a, b)
  | .mk no k l m sub :: ts, a, b => prL ts (a + (phd no + (psz k l m (cpd (prL sub 0 0).1, cpd (prL sub 0 0).2)).1)) (b + (phd no + (psz k l m (cpd (prL sub 0 0).1, cpd (prL sub 0 0).2)).2))
def prS (ts : List Slt) : Nat × Nat := (cpd (prL ts 0 0).1, cpd (prL ts 0 0).2)
theorem prL_cons (t : Slt) (ts : List Slt) (a b : Nat) : prL (t :: ts) a b = prL ts (a + (phd t.no + (psz t.kind t.least t.most (prS t.sub)).1)) (b + (phd t.no + (psz t.kind t.least t.most (prS t.sub)).2)) := by
  cases t
  rw [prL]
  rfl
theorem cpd_eq (n : Nat) : cpd n = min n 4194305 := by unfold cpd; split <;> omega
theorem cpd_ctd (n : Nat) : cpd (ctd n) = frm n := by rw [ctd, frm, Nat.add_comm]
theorem cpd_ctd_cpd (n : Nat) : cpd (ctd (cpd n)) = cpd (ctd n) := by
  by_cases h : 4194305 < n
  · have e : cpd n = 4194305 := if_pos h
    rw [e, cpd_eq, cpd_eq, ctd, ctd]
    omega
  · have e : cpd n = n := if_neg h
    rw [e]
theorem cpd_mul (x l : Nat) : cpd (cpd x * l) = cpd (l * x) := by
  rw [Nat.mul_comm]
  by_cases h : 4194305 < x
  · have e : cpd x = 4194305 := if_pos h
    rw [e, cpd_eq, cpd_eq]
    cases l with
    | zero => simp
    | succ l =>
      have h1 : 4194305 ≤ (l + 1) * 4194305 := Nat.le_mul_of_pos_left _ (by omega)
      have h2 : 4194305 ≤ (l + 1) * x := Nat.le_trans (by omega) (Nat.le_mul_of_pos_left x (by omega : 0 < l + 1))
      omega
  · have e : cpd x = x := if_neg h
    rw [e]
theorem cpd_add (a x : Nat) : cpd (a + x) = cpd (cpd a + cpd x) := by simp only [cpd_eq]; omega
theorem cpd_idem (a : Nat) : cpd (cpd a) = cpd a := by simp only [cpd_eq]; omega
theorem cpd_c1 (n : Nat) : cpd (ctd n) = cpd (frm n) := by rw [← cpd_ctd, cpd_idem]
theorem cpd_c2 (l x : Nat) : cpd (ctd (l * ctd x)) = cpd (frm (cpd (frm x * l))) := by rw [← cpd_ctd, ← cpd_ctd, cpd_mul, cpd_ctd_cpd, cpd_idem]
theorem psz_cpd (k : Int) (l m : Nat) (s : Nat × Nat) : cpd (psz k l m s).1 = cpd (slsz k l m s).1 ∧ cpd (psz k l m s).2 = cpd (slsz k l m s).2 := by
  unfold psz slsz
  split
  · exact ⟨rfl, rfl⟩
  split
  · exact ⟨rfl, rfl⟩
  split
  · exact ⟨rfl, rfl⟩
  split
  · exact ⟨rfl, rfl⟩
  split
  · exact ⟨cpd_c1 _, cpd_c1 _⟩
  split
  · exact ⟨cpd_c1 _, cpd_c1 _⟩
  · exact ⟨cpd_c2 _ _, cpd_c2 _ _⟩
theorem phd_hdl (no k : Int) : phd no = hdl no k := by
  obtain ⟨T, hT, h5⟩ := tyOf_nat k
  unfold phd hdl
  rw [hT, Int.toNat_natCast]
  generalize no.toNat = n
  have key : ∀ j, 0 < j → ((en (8 * n)).length ≤ j ↔ (en (8 * n + T)).length ≤ j) := by
    intro j hj
    rw [en_len _ j hj, en_len _ j hj]
    obtain ⟨i, rfl⟩ : ∃ i, j = i + 1 := ⟨j - 1, by omega⟩
    have e : 2 ^ (7 * (i + 1)) = 8 * (16 * 2 ^ (7 * i)) := by rw [Nat.mul_add, Nat.pow_add, ← Nat.mul_assoc, Nat.mul_comm]
    rw [e]
    omega
  have p1 : 0 < (en (8 * n)).length := en_pos _
  have p2 : 0 < (en (8 * n + T)).length := en_pos _
  have h1 := (key _ p2).2 (Nat.le_refl _)
  have h2 := (key _ p1).1 (Nat.le_refl _)
  omega
theorem prL_spL : ∀ (ts : List Slt) (a b a' b' : Nat), cpd a = a' → cpd b = b' → (cpd (prL ts a b).1, cpd (prL ts a b).2) = spL ts a' b'
  | [], a, b, a', b', h1, h2 => by rw [prL, spL, h1, h2]
  | .mk no k l m sub :: ts, a, b, a', b', h1, h2 => by
    have hs := prL_spL sub 0 0 0 0 rfl rfl
    rw [prL, spL, ← hs]
    have hp := psz_cpd k l m (cpd (prL sub 0 0).1, cpd (prL sub 0 0).2)
    refine prL_spL ts _ _ _ _ ?_ ?_
    · rw [← h1, ← phd_hdl, Nat.add_assoc]
      generalize (psz k l m (cpd (prL sub 0 0).1, cpd (prL sub 0 0).2)).1 = x at *
      generalize (slsz k l m (cpd (prL sub 0 0).1, cpd (prL sub 0 0).2)).1 = y at *
      have := hp.1
      simp only [cpd_eq] at *
      omega
    · rw [← h2, ← phd_hdl, Nat.add_assoc]
      generalize (psz k l m (cpd (prL sub 0 0).1, cpd (prL sub 0 0).2)).2 = x at *
      generalize (slsz k l m (cpd (prL sub 0 0).1, cpd (prL sub 0 0).2)).2 = y at *
      have := hp.2
      simp only [cpd_eq] at *
      omega
theorem prS_spL (ts : List Slt) : prS ts = spL ts 0 0 := prL_spL ts 0 0 0 0 rfl rfl
end Go.Proofs.YtdfpmgjholdknaaDoor
