import Derived.Test.YtamieopjigjfiabDoorProg
import Derived.WalkKit
import Derived.WalkSpells
import Derived.WalkLawsBesides
import Derived.Lib.QuietBelow
import Derived.BigQuiet
import Derived.Test.YtamieopjigjfiabDoorKa
import Derived.Test.YtamieopjigjfiabDoorWi
import Derived.Test.YtamieopjigjfiabDoorWf
namespace Go.Proofs.YtamieopjigjfiabDoor
set_option maxRecDepth 100000
open Go Go.RowKit Go.Sort
attribute [local go_sem] setCell_drewN alloc_drewN


/-! A column written byte by byte. -/
def xc (x : B × B × B × B) : Nat → B
  | 0 => x.1
  | 1 => x.2.1
  | 2 => x.2.2.1
  | _ => x.2.2.2
def pj (l : List B) (i : Nat) (x : B × B × B × B) : Nat → List B
  | 0 => l
  | j + 1 => (pj l i x j).set (4 * i + j) (xc x j)
theorem pj_len (l : List B) (i : Nat) (x : B × B × B × B) (j : Nat) : (pj l i x j).length = l.length := by
  induction j with
  | zero => rfl
  | succ j ih => rw [pj, List.length_set, ih]
theorem pj_four (l : List B) (i : Nat) (x : B × B × B × B) : pj l i x 4 = put4 l i x := rfl
theorem pj_low (l : List B) (i : Nat) (x : B × B × B × B) (j n : Nat) (h : n < 4 * i) : (pj l i x j).getD n 0#8 = l.getD n 0#8 := by
  induction j with
  | zero => rfl
  | succ j ih => rw [pj, List.getD_eq_getElem?_getD, List.getElem?_set, if_neg (by omega), ← List.getD_eq_getElem?_getD, ih]
theorem col_get (l : List B) (i j : Nat) (h : j < 4) : l.getD (4 * i + j) 0#8 = xc (colOf l i) j := by
  rcases (show j = 0 ∨ j = 1 ∨ j = 2 ∨ j = 3 by omega) with rfl | rfl | rfl | rfl <;> rfl
theorem xc_xor (x y : B × B × B × B) (j : Nat) (h : j < 4) : xc (xorC x y) j = xc x j ^^^ xc y j := by
  rcases (show j = 0 ∨ j = 1 ∨ j = 2 ∨ j = 3 by omega) with rfl | rfl | rfl | rfl <;> rfl
def L4 (x : B × B × B × B) : List B := [x.1, x.2.1, x.2.2.1, x.2.2.2]
theorem L4_len (x : B × B × B × B) : (L4 x).length = 4 := rfl
theorem L4_get (x : B × B × B × B) (j : Nat) (h : j < 4) : (L4 x).getD j 0#8 = xc x j := by
  rcases (show j = 0 ∨ j = 1 ∨ j = 2 ∨ j = 3 by omega) with rfl | rfl | rfl | rfl <;> rfl
theorem bl_col (l : List B) (hl : l.length = 240) (i : Nat) (h : i < 60) : (irow .u8 (bl (l))).extract (i * 4) (i * 4 + (irow .u8 (bl (L4 (colOf l i)))).size) = (irow .u8 (bl (L4 (colOf l i)))) := by
  apply Array.ext_getElem?
  intro j
  rw [irow_size, bl_len, L4_len, Array.getElem?_extract]
  by_cases hj : j < 4
  · rw [if_pos (by rw [irow_size, bl_len, hl]; omega), irow_get _ _ _ (by rw [bl_len, hl]; omega), irow_get _ _ _ (by rw [bl_len]; exact hj), bl_get, bl_get, L4_get _ _ hj, ← col_get l i j hj, Nat.mul_comm i 4]
  · rw [if_neg (by omega), Array.getElem?_eq_none (by rw [irow_size, bl_len, L4_len]; omega)]
theorem mrk_low (k : Nat) (h : k < 8) : mrk (k + 1) = mrk k := by
  unfold mrk; rw [show (k + 1 - 1) / 8 = (k - 1) / 8 by omega]
theorem ks_lown (key : List B) (k : Nat) (h : k < 8) : ks key (k + 1) = put4 (ks key k) k (colOf key k) := by
  rw [ks, colK, if_pos h]
theorem pt_selfn (l : List B) (n : Nat) (hl : l.length = n) : pt (gb l) n n = l := by
  apply List.ext_getElem (by rw [pt_len, hl])
  intro i h1 h2
  have e := pt_get (gb l) n n (j := i) (by omega) (by omega)
  rw [List.getD_eq_getElem?_getD, List.getElem?_eq_getElem h1] at e
  rw [gb, List.getD_eq_getElem?_getD, List.getElem?_eq_getElem h2] at e
  exact e
end Go.Proofs.YtamieopjigjfiabDoor

