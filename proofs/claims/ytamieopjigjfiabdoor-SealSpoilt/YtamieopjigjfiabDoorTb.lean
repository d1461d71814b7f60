import Derived.Test.YtamieopjigjfiabDoorProg
import Derived.WalkKit
import Derived.WalkSpells
import Derived.WalkLawsBesides
import Derived.Lib.QuietBelow
import Derived.BigQuiet
import Derived.OrdersHeld
import Derived.OwnWalk
import Derived.Deep.RegionHeld3
import Derived.Test.YtamieopjigjfiabDoorKa
import Derived.Test.YtamieopjigjfiabDoorSn
namespace Go.Proofs.YtamieopjigjfiabDoor
set_option maxRecDepth 100000
open Go Go.RowKit Go.Sort
attribute [local go_sem] setCell_drewN alloc_drewN

theorem boxr_size (key nonce : List B) (u v : Value) (hk : key.length = 32) (hno : nonce.length = 16) : (boxr key nonce u v).size = 50 := by
  simp [boxr, irow_size, bl_len, hk, hno]
theorem infoBx0 : (Tryd.prog.info? 28).map (·.size) = some 50 := by kernel_rfl
theorem infoBx {key nonce : List B} {u v : Value} (_ : Unit) (hk : key.length = 32) (hno : nonce.length = 16) : (Tryd.prog.info? 28).map (·.size) = some (boxr key nonce u v).size := by rw [boxr_size _ _ _ _ hk hno]; exact infoBx0
set_option maxRecDepth 100000 in
set_option maxHeartbeats 4000000 in
theorem l_long (key nonce extra d : List B) (hk : key.length = 32) (hno : nonce.length = 16) (w : World) (ue ud : Option Addr) (uec udc : Nat) (b : Bool) (hb : b = decide (2097216 < extra.length ∨ 2097216 < d.length)) : Calls Tryd.prog 7 #[.agg (boxr key nonce (.slice ue extra.length uec) (.slice ud d.length udc))] w fun e w' => e = .returned (.bool b) ∧ Below w.heap.size w w' := by
  have RB := hp1_0 w (.cells (boxr key nonce (.slice ue extra.length uec) (.slice ud d.length udc)) 28)
  have hw : Below w.heap.size w (w.alloc (.cells (boxr key nonce (.slice ue extra.length uec) (.slice ud d.length udc)) 28)) := (Below.refl _ _).alloc (Nat.le_refl _) _
  by_cases h1 : 2097216 < extra.length
  · have q1 : decide ((2097216 : Int) < (extra.length : Int)) = true := by simp; omega
    have eb : b = true := by rw [hb]; exact decide_eq_true (.inl h1)
    subst eb
    clear hb
    go_enter Tryd.func7, Tryd.ntmps7
    go_wp2_with (first | (refine wpList_box rfl 28 _ rfl _ rfl (bBox _) ?_; refine wpList_stay ?_) | fail)
    unfold WpStay
    generalize w.alloc (.cells (boxr key nonce (.slice ue extra.length uec) (.slice ud d.length udc)) 28) = w0 at *
    have cE_ := (box_cell RB hk hno).1
    have cD_ := (box_cell RB hk hno).2
    go_wp2
    go_ret
    exact ⟨rfl, hw⟩
  · have q1 : decide ((2097216 : Int) < (extra.length : Int)) = false := by simp; omega
    have q2 : decide ((2097216 : Int) < (d.length : Int)) = b := by
      rw [hb]; exact decide_eq_decide.2 (by omega)
    clear hb
    go_enter Tryd.func7, Tryd.ntmps7
    go_wp2_with (first | (refine wpList_box rfl 28 _ rfl _ rfl (bBox _) ?_; refine wpList_stay ?_) | fail)
    unfold WpStay
    generalize w.alloc (.cells (boxr key nonce (.slice ue extra.length uec) (.slice ud d.length udc)) 28) = w0 at *
    have cE_ := (box_cell RB hk hno).1
    have cD_ := (box_cell RB hk hno).2
    go_wp2
    go_ret
    exact ⟨rfl, hw⟩
end Go.Proofs.YtamieopjigjfiabDoor
