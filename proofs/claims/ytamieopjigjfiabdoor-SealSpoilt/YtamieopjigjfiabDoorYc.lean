import Derived.Test.YtamieopjigjfiabDoorProg
import Derived.WalkKit
import Derived.WalkSpells
import Derived.WalkLawsBesides
import Derived.Lib.QuietBelow
import Derived.BigQuiet
import Derived.Test.YtamieopjigjfiabDoorKa
import Derived.Test.YtamieopjigjfiabDoorYb
namespace Go.Proofs.YtamieopjigjfiabDoor
set_option maxRecDepth 100000
open Go Go.RowKit Go.Sort
attribute [local go_sem] setCell_drewN alloc_drewN


theorem kr_len (K : List B) (r : Nat) : (kr K r).length = 16 := mk16_len _
theorem bl_kr (K : List B) (hK : K.length = 240) (r : Nat) (h : r < 15) : (irow .u8 (bl (K))).extract (r * 16) (r * 16 + (irow .u8 (bl (kr K r))).size) = (irow .u8 (bl (kr K r))) := by
  apply Array.ext_getElem?
  intro j
  rw [irow_size, bl_len, kr_len, Array.getElem?_extract]
  by_cases hj : j < 16
  · rw [if_pos (by rw [irow_size, bl_len, hK]; omega), irow_get _ _ _ (by rw [bl_len, hK]; omega), irow_get _ _ _ (by rw [bl_len, kr_len]; exact hj), bl_get, bl_get, kr, mk16_get _ hj, Nat.mul_comm r 16]
  · rw [if_neg (by omega), Array.getElem?_eq_none (by rw [irow_size, bl_len, kr_len]; omega)]

end Go.Proofs.YtamieopjigjfiabDoor

