import Derived.Test.YtkickbgiidhpfaaDoorProg
import Derived.WalkKit
import Derived.WalkSpells
import Derived.WalkLawsBesides
import Derived.Lib.QuietBelow
import Derived.BigQuiet
import Derived.OrdersHeld
import Derived.Laws.MakeOwn
import Derived.RangeFuncBox
import Derived.RangeFuncNested
import Derived.RangeFuncBound
import Derived.RangeFuncCalls
import Derived.RangeFuncLeaves
import Derived.Shelf.Abstract
import Derived.Shelf.RegionOpen
import Derived.OwnWalkIn
import Derived.TacticsInMore
import Derived.LoopNIn
import Derived.LoopIn
import Derived.OwnWalk
import Derived.Deep.RegionHeld3
import Derived.Test.YtkickbgiidhpfaaDoorKa
import Derived.Test.YtkickbgiidhpfaaDoorCqh
namespace Go.Proofs.YtkickbgiidhpfaaDoor
open Go Go.RowKit Go.Sort
attribute [local go_sem] setCell_drewN alloc_drewN

theorem kcs_len : ∀ (ks : List (List Int)), (∀ k ∈ ks, k.length = 32) → (kcs ks).length = ks.length * 32
  | [], _ => rfl
  | k :: r, h => by
    have i := kcs_len r (fun x hx => h x (by simp [hx]))
    have e := h k (by simp)
    simp only [kcs, List.flatMap_cons, List.length_append, List.length_map, List.length_cons] at i ⊢
    omega
theorem kcs_get : ∀ (ks : List (List Int)) (i : Nat), (∀ k ∈ ks, k.length = 32) → i < ks.length → ((kcs ks).drop (i * 32)).take 32 = (ks.getD i []).map (Value.int .u8)
  | [], i, _, h => by simp at h
  | k :: r, 0, hl, _ => by
    have e := hl k (by simp)
    simp [kcs, e]
  | k :: r, (i + 1), hl, h => by
    have e := hl k (by simp)
    have j := kcs_get r i (fun x hx => hl x (by simp [hx])) (by simpa using h)
    rw [show kcs (k :: r) = k.map (Value.int .u8) ++ kcs r from rfl, show (i + 1) * 32 = (k.map (Value.int .u8)).length + i * 32 by simp [e]; omega, List.drop_append]
    simp only [Nat.add_sub_cancel_left, List.getD_cons_succ]
    rw [List.drop_eq_nil_of_le (by omega), List.nil_append]
    exact j
/-- A key of a list, as it lies there. -/
theorem OwnK.part {W : World} {b : Nat} {v : Value} {ks : List (List Int)} (h : OwnK W b v ks) (hl : ∀ k ∈ ks, k.length = 32) (i : Nat) (hi : i < ks.length) : ∃ g cap cur, v = .slice (some ⟨g, 0, none⟩) ks.length cap ∧ W.heap[g]? = some (.cells cur 23 (0, 0)) ∧ cur.extract (i * 32) (i * 32 + (irow .u8 (ks.getD i [])).size) = irow .u8 (ks.getD i []) := by
  obtain ⟨_, ⟨rfl, h0⟩ | ⟨g, cap, cur, rfl, _, hg, _, _, _, ht⟩⟩ := h
  · omega
  · refine ⟨g, cap, cur, rfl, hg, ?_⟩
    have hk : (ks.getD i []).length = 32 := hl _ (by rw [List.getD_eq_getElem?_getD, List.getElem?_eq_getElem hi]; exact List.getElem_mem _)
    have e := kcs_get ks i hl hi
    rw [← ht] at e
    apply Array.ext'
    rw [irow_size, hk]
    simp only [Array.toList_extract, irow, List.extract_eq_take_drop]
    rw [← e, List.drop_take, List.take_take]
    congr 1
    omega
end Go.Proofs.YtkickbgiidhpfaaDoor
