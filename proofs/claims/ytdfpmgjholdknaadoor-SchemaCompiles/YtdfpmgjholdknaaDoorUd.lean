import Derived.Test.YtdfpmgjholdknaaDoorProg
import Derived.WalkKit
import Derived.WalkSpells
import Derived.WalkLawsBesides
import Derived.Lib.QuietBelow
import Derived.Laws.BitsAllLaws
import Derived.BigQuiet
import Derived.WalkMore
import Derived.Deep.MidRow
import Derived.Test.YtdfpmgjholdknaaDoorKa
import Derived.Test.YtdfpmgjholdknaaDoorUc
namespace Go.Proofs.YtdfpmgjholdknaaDoor
set_option maxRecDepth 100000
open Go Go.RowKit Go.Sort
attribute [local go_sem] setCell_drewN alloc_drewN
/-- The bytes of the shortest and the longest value of a slot, of its kind and bounds and those of its Sub. -/
def slsz (k : Int) (l m : Nat) (s : Nat × Nat) : Nat × Nat :=
  if k = 1 then ((en l).length, (en m).length) else if k = 2 then (4, 4) else if k = 3 ∨ k = 7 then (8, 8) else if k = 4 then (1, 1) else if k = 5 ∨ k = 6 then (frm l, frm m)
  else if k = 8 then (frm s.1, frm s.2) else (frm (cpd (frm s.1 * l)), frm (cpd (frm s.2 * m)))
def hdl (no k : Int) : Nat := (en (8 * no.toNat + (tyOf k).toNat)).length
/-- The bytes of the shortest and the longest message, so many being there already. -/
def spL : List Slt → Nat → Nat → Nat × Nat
  | [], a, b => (a, b)
  | .mk no k l m sub :: ts, a, b => spL ts (cpd (a + hdl no k + (slsz k l m (spL sub 0 0)).1)) (cpd (b + hdl no k + (slsz k l m (spL sub 0 0)).2))
theorem spL_cons (t : Slt) (ts : List Slt) (a b : Nat) : spL (t :: ts) a b = spL ts (cpd (a + hdl t.no t.kind + (slsz t.kind t.least t.most (spL t.sub 0 0)).1)) (cpd (b + hdl t.no t.kind + (slsz t.kind t.least t.most (spL t.sub 0 0)).2)) := by
  cases t
  rw [spL]
  rfl
/-- Every slot of a schema, and of those within it, is as the table says. -/
def gd : List Slt → Prop
  | [] => True
  | .mk no k l m sub :: ts => ((1 ≤ no ∧ no ≤ 536870911) ∧ fitN k (l : Int) (m : Int) sub.length = true ∧ ((k = 8 ∨ k = 9) → gd sub)) ∧ gd ts
theorem gd_cons (t : Slt) (ts : List Slt) : gd (t :: ts) ↔ ((1 ≤ t.no ∧ t.no ≤ 536870911) ∧ sfit t = true ∧ (nst t → gd t.sub)) ∧ gd ts := by
  cases t
  rw [gd]
  rfl
theorem lfL_gd : ∀ (ts : List Slt) (prev deep room : Int), -1 ≤ room → 0 ≤ lfL ts prev deep room → gd ts
  | [], _, _, _, _, _ => by rw [gd]; trivial
  | .mk no k l m sub :: ts, prev, deep, room, h0, h => by
    rw [gd]
    rw [lfL] at h
    split at h
    · omega
    · split at h
      · omega
      · rename_i hr hb
        have h1 : ¬ (no < 1) := fun q => hb (.inl q)
        have h2 : ¬ (536870911 < no) := fun q => hb (.inr (.inl q))
        have h3 : fitN k (l : Int) (m : Int) sub.length = true := by
          cases q : fitN k (l : Int) (m : Int) sub.length with
          | true => rfl
          | false => exact absurd (.inr (.inr (.inr q))) hb
        have hl1 := lfL_le sub 0 (deep + 1) (room - 1) (by omega)
        refine ⟨⟨⟨by omega, by omega⟩, h3, fun hk => ?_⟩, ?_⟩
        · by_cases q : 0 ≤ room - 1
          · rw [if_pos ⟨hk, q⟩] at h
            by_cases q2 : 16 < sub.length ∨ 6 < deep + 1
            · rw [if_pos q2, lfL_neg _ _ _ _ (by omega)] at h
              omega
            · rw [if_neg q2] at h
              by_cases q3 : 0 ≤ lfL sub 0 (deep + 1) (room - 1)
              · exact lfL_gd sub 0 (deep + 1) (room - 1) (by omega) q3
              · rw [lfL_neg ts _ _ _ (by omega)] at h
                omega
          · rw [if_neg (fun x => q x.2), lfL_neg _ _ _ _ (by omega)] at h
            omega
        · refine lfL_gd ts no deep _ ?_ h
          split
          · split
            · omega
            · exact hl1.2
          · omega
theorem lft_gd (ts : List Slt) (deep room : Int) (h0 : -1 ≤ room) (h : 0 ≤ lft ts deep room) : gd ts := by
  unfold lft at h
  split at h
  · omega
  · exact lfL_gd _ _ _ _ h0 h
theorem gd_at : ∀ (ts : List Slt) (i : Nat), i < ts.length → gd ts → (1 ≤ (gs ts i).no ∧ (gs ts i).no ≤ 536870911) ∧ sfit (gs ts i) = true ∧ (nst (gs ts i) → gd (gs ts i).sub)
  | [], i, hi, _ => by simp at hi
  | t :: ts, 0, _, h => ((gd_cons t ts).1 h).1
  | t :: ts, i + 1, hi, h => gd_at ts i (by simp at hi; omega) ((gd_cons t ts).1 h).2
theorem fit_cases {k : Int} {l m n : Nat} (h : fitN k (l : Int) (m : Int) n = true) : (k = 1 ∧ l ≤ m) ∨ (k = 2 ∧ l ≤ m ∧ m < 4294967296) ∨ (k = 3 ∧ l ≤ m) ∨ k = 4 ∨ ((k = 5 ∨ k = 6) ∧ l ≤ m ∧ m ≤ 4194304) ∨ k = 7 ∨ k = 8 ∨ (k = 9 ∧ l ≤ m ∧ m ≤ 4096) := by
  rcases kind_cases k with rfl | rfl | rfl | rfl | rfl | rfl | rfl | rfl | rfl | ⟨h1, h2, h3, h4, h5, h6, h7, h8, h9⟩
  all_goals try (simp [fitN, fitB] at h; omega)
  simp [fitN, fitB, h1, h2, h3, h4, h5, h6, h7, h8, h9] at h
theorem frm_le (n : Nat) : frm n ≤ 4194305 := cpd_le _
theorem spL_le : ∀ (ts : List Slt) (a b : Nat), a ≤ 4194305 → b ≤ 4194305 → (spL ts a b).1 ≤ 4194305 ∧ (spL ts a b).2 ≤ 4194305
  | [], a, b, h1, h2 => by rw [spL]; exact ⟨h1, h2⟩
  | t :: ts, a, b, _, _ => by
    rw [spL_cons]
    exact spL_le ts _ _ (cpd_le _) (cpd_le _)
end Go.Proofs.YtdfpmgjholdknaaDoor
