import Derived.Test.YtgfhoabgbgddbaaDoorProg
import Derived.WalkKit
import Derived.WalkSpells
import Derived.WalkLawsBesides
import Derived.Lib.QuietBelow
import Derived.BigQuiet
import Derived.Test.YtgfhoabgbgddbaaDoorKa
import Derived.Test.YtgfhoabgbgddbaaDoorAc
namespace Go.Proofs.YtgfhoabgbgddbaaDoor
set_option maxRecDepth 100000
open Go.RowKit Go.Sort
attribute [local go_sem] setCell_drewN alloc_drewN


theorem Four.belowN {w w' : World} {n : Nat} (h : Four w) (hn : 3 < n) (hb : Below n w w') : Four w' := by
  obtain ⟨h0, k0, k1, k2, k3, k4⟩ := h
  exact ⟨Nat.lt_of_lt_of_le h0 hb.size, (hb.cell (p := ⟨3, 0, none⟩) hn).trans k0, (hb.cell (p := ⟨3, 1, none⟩) hn).trans k1, (hb.cell (p := ⟨3, 2, none⟩) hn).trans k2, (hb.cell (p := ⟨3, 3, none⟩) hn).trans k3, (hb.cell (p := ⟨3, 4, none⟩) hn).trans k4⟩
theorem Four.setRow {w : World} {g : Nat} (h : Four w) (hg : 3 < g) (cs : Array Value) : Four (w.setRow g cs) :=
  h.belowN (n := 4) (by decide) (below_setRow (Below.refl _ _) hg cs)

end Go.Proofs.YtgfhoabgbgddbaaDoor

