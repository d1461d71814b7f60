import Derived.Test.YtkpjpdlamojejaaDoorProg
import Derived.WalkKit
import Derived.WalkSpells
import Derived.WalkLawsBesides
import Derived.Lib.QuietBelow
import Derived.BigQuiet
import Derived.Test.YtkpjpdlamojejaaDoorKa
import Derived.Test.YtkpjpdlamojejaaDoorCac
import Derived.Test.YtkpjpdlamojejaaDoorCi
namespace Go.Proofs.YtkpjpdlamojejaaDoor.Lo
set_option maxRecDepth 100000
open Go.RowKit Go.Sort
attribute [local go_sem] setCell_drewN alloc_drewN


theorem stp_in (X : Int) (s : Rg) : inP (stp X s).a ∧ inP (stp X s).b ∧ inP (stp X s).c ∧ inP (stp X s).d := ⟨inP_mod _, inP_mod _, inP_mod _, inP_mod _⟩
theorem lad_in (S : Int) {X : Int} (h : inP X) : ∀ k, inP (lad S X k).a ∧ inP (lad S X k).b ∧ inP (lad S X k).c ∧ inP (lad S X k).d
  | 0 => by
    show inP 1 ∧ inP 0 ∧ inP X ∧ inP 1
    exact ⟨⟨by decide, by decide⟩, ⟨by decide, by decide⟩, h, ⟨by decide, by decide⟩⟩
  | k + 1 => by
    show inP (rnd X _ _).a ∧ _
    simp only [lad]
    generalize bt S (254 - k) = on
    generalize lad S X k = s
    obtain ⟨ia, ib, ic, id'⟩ := stp_in X (trn on s)
    cases on
    · exact ⟨ia, ib, ic, id'⟩
    · exact ⟨ic, id', ia, ib⟩
end Go.Proofs.YtkpjpdlamojejaaDoor.Lo

