import Derived.Test.YtdimjlbnjhopgaaDoorProg
import Derived.WalkKit
import Derived.WalkSpells
import Derived.WalkLawsBesides
import Derived.Lib.QuietBelow
import Derived.BigQuiet
import Derived.Test.YtdimjlbnjhopgaaDoorKa
import Derived.Test.YtdimjlbnjhopgaaDoorGp
namespace Go.Proofs.YtdimjlbnjhopgaaDoor
open Go.RowKit Go.Sort
attribute [local go_sem] setCell_drewN alloc_drewN


/-- A row of bytes. -/
def brow (l : List Int) : Array Value := (l.map fun z => Value.int .u8 z).toArray
theorem brow_get (l : List Int) (k : Nat) (hk : k < l.length) : (brow l)[k]? = some (.int .u8 (l.getD k 0)) := by
  simp [brow, List.getElem?_eq_getElem hk, List.getD_eq_getElem?_getD]
theorem brow_cell {W : World} {g : Nat} {l : List Int} {t : TypeId} (hg : W.heap[g]? = some (.cells (brow l) t (0, 0))) {k : Nat} (hk : k < l.length) : W.cell? ⟨g, k, none⟩ = some (.int .u8 (l.getD k 0)) := by
  simp only [World.cell?, hg]
  simpa using brow_get l k hk
theorem brow_frozen {W : World} {g : Nat} {l : List Int} {t : TypeId} (hg : W.heap[g]? = some (.cells (brow l) t (0, 0))) (k : Nat) : W.frozen? ⟨g, k, none⟩ = false := by
  simp [World.frozen?, hg]
theorem brow_set {W : World} {g : Nat} {l : List Int} {t : TypeId} (hg : W.heap[g]? = some (.cells (brow l) t (0, 0))) (k : Nat) (z : Int) : (W.setCell ⟨g, k, none⟩ (.int .u8 z)).heap[g]? = some (.cells (brow (l.set k z)) t (0, 0)) := by
  rw [heap_setCell_same W g k _ t _ hg]
  simp [brow, List.map_set]
theorem Bys.of_row {W : World} {g : Nat} {l : List Int} {t : TypeId} (hg : W.heap[g]? = some (.cells (brow l) t (0, 0))) (hl : l.length ≤ 9223372036854775807) (hz : ∀ z ∈ l, 0 ≤ z ∧ z < 256) (cap : Nat) : Bys W (.slice (some ⟨g, 0, none⟩) l.length cap) l := by
  refine ⟨_, cap, rfl, hl, fun j hj => ⟨g, 0, rfl, lt_of_row hg, ?_⟩, hz⟩
  rw [Nat.zero_add]
  exact brow_cell hg hj
def fillL (k : Nat) : List Int := List.replicate k 255 ++ List.replicate (32 - k) 0
theorem fillL_set : ∀ k, k < 32 → (fillL k).set k 255 = fillL (k + 1) := by decide
theorem fillL_255 : ∀ z ∈ fillL 32, z = 255 := by decide
theorem fillL_len : ∀ k, k ≤ 32 → (fillL k).length = 32 := by intro k hk; simp [fillL]; omega


end Go.Proofs.YtdimjlbnjhopgaaDoor

