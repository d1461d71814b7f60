import Derived.Test.YtkpjpdlamojejaaDoorProg
import Derived.WalkKit
import Derived.WalkSpells
import Derived.WalkLawsBesides
import Derived.Lib.QuietBelow
import Derived.BigQuiet
import Derived.OrdersHeld
import Derived.Deep.RegionHeld3
import Derived.OwnWalk
import Derived.Deep.Cut
import Derived.Test.YtkpjpdlamojejaaDoorKa
import Derived.Test.YtkpjpdlamojejaaDoorAgo
namespace Go.Proofs.YtkpjpdlamojejaaDoor
set_option maxRecDepth 100000
open Go Go.RowKit Go.Sort
attribute [local go_sem] setCell_drewN alloc_drewN

/-- The halves of both sides. -/
def hlv (a b c d e f g i : List Int) (h : Bool) : List (List Int) := [a ++ b, c ++ d, e ++ f] ++ if h then [g ++ i] else []
theorem hlv_f (a b c d e f g i : List Int) : hlv a b c d e f g i false = [a ++ b, c ++ d, e ++ f] := by simp [hlv]
theorem hlv_t (a b c d e f g i : List Int) : hlv a b c d e f g i true = [a ++ b, c ++ d, e ++ f] ++ [g ++ i] := by simp [hlv]
theorem hlv_n (a b c d e f g i : List Int) (h : Bool) : 0 < (hlv a b c d e f g i h).length ∧ (hlv a b c d e f g i h).length ≤ 4 := by
  cases h
  · rw [hlv_f]; exact ⟨by simp, by simp⟩
  · rw [hlv_t]; exact ⟨by simp, by simp⟩
theorem hlv_all {P : List Int → Prop} {a b c d e f g i : List Int} {h : Bool} (h1 : P (a ++ b)) (h2 : P (c ++ d)) (h3 : P (e ++ f)) (h4 : P (g ++ i)) : ∀ m ∈ hlv a b c d e f g i h, P m := by
  intro m hm
  cases h
  · rw [hlv_f] at hm
    simp only [List.mem_cons, List.not_mem_nil, or_false] at hm
    rcases hm with rfl | rfl | rfl <;> assumption
  · rw [hlv_t] at hm
    simp only [List.mem_append, List.mem_cons, List.not_mem_nil, or_false] at hm
    rcases hm with (rfl | rfl | rfl) | rfl <;> assumption
end Go.Proofs.YtkpjpdlamojejaaDoor
