import Derived.Test.YtjofbnilhkmpeaaDoorProg
import Derived.WalkKit
import Derived.WalkSpells
import Derived.WalkLawsBesides
import Derived.Lib.QuietBelow
import Derived.BigQuiet
import Derived.OrdersHeld
import Derived.Deep.RegionHeld3
import Derived.OwnWalk
import Derived.Test.YtjofbnilhkmpeaaDoorKa
import Derived.Test.YtjofbnilhkmpeaaDoorRta
namespace Go.Proofs.YtjofbnilhkmpeaaDoor
set_option maxRecDepth 100000
open Go Go.RowKit Go.Sort Go.ChangeMaps Go.MapKept
attribute [local go_sem] setCell_drewN alloc_drewN

/-- What a config is answered. -/
def cfE (v k c : Int) : Int := if v ≠ 1 ∧ v ≠ 2 then 100 else if k < 0 ∨ 1000 < k ∨ c < 0 ∨ 2000 < c then 1 else 0
set_option maxRecDepth 100000 in
set_option maxHeartbeats 4000000 in
theorem a_checkConfig (v k c : Int) (w : World) : Calls Tryd.prog 25 #[.agg (cfrow v k c)] w fun e w' => e = .returned (.int .i64 (cfE v k c)) ∧ Below w.heap.size w w' := by
  have R0 := hp1_0 w (.cells (cfrow v k c) 27)
  have hw : Below w.heap.size w (w.alloc (.cells (cfrow v k c) 27)) := (Below.refl _ _).alloc (Nat.le_refl _) _
  have c0 : World.cell? _ ⟨w.heap.size, 0, none⟩ = some (.int .i64 v) := cell_of_row _ _ 0 _ _ _ R0
  have c1 : World.cell? _ ⟨w.heap.size, 1, none⟩ = some (.int .i64 k) := cell_of_row _ _ 1 _ _ _ R0
  have c2 : World.cell? _ ⟨w.heap.size, 2, none⟩ = some (.int .i64 c) := cell_of_row _ _ 2 _ _ _ R0
  by_cases e1 : v = 1
  · subst e1
    by_cases e3 : k < 0
    · have hE : cfE 1 k c = 1 := by unfold cfE; rw [if_neg (by omega), if_pos (by omega)]
      rw [hE]
      have d3 : decide (k < 0) = true := by simp; omega
      clear hE
      go_enter Tryd.func25, Tryd.ntmps25
      go_wp2_with (first | (refine wpList_box rfl 27 _ rfl _ rfl (bCfA _) ?_) | fail)
      go_ret
      exact ⟨rfl, hw⟩
    · by_cases e4 : 1000 < k
      · have hE : cfE 1 k c = 1 := by unfold cfE; rw [if_neg (by omega), if_pos (by omega)]
        rw [hE]
        have d3 : decide (k < 0) = false := by simp; omega
        have d4 : decide (k > 1000) = true := by simp; omega
        clear hE
        go_enter Tryd.func25, Tryd.ntmps25
        go_wp2_with (first | (refine wpList_box rfl 27 _ rfl _ rfl (bCfA _) ?_) | fail)
        go_ret
        exact ⟨rfl, hw⟩
      · by_cases e5 : c < 0
        · have hE : cfE 1 k c = 1 := by unfold cfE; rw [if_neg (by omega), if_pos (by omega)]
          rw [hE]
          have d3 : decide (k < 0) = false := by simp; omega
          have d4 : decide (k > 1000) = false := by simp; omega
          have d5 : decide (c < 0) = true := by simp; omega
          clear hE
          go_enter Tryd.func25, Tryd.ntmps25
          go_wp2_with (first | (refine wpList_box rfl 27 _ rfl _ rfl (bCfA _) ?_) | fail)
          go_ret
          exact ⟨rfl, hw⟩
        · by_cases e6 : 2000 < c
          · have hE : cfE 1 k c = 1 := by unfold cfE; rw [if_neg (by omega), if_pos (by omega)]
            rw [hE]
            have d3 : decide (k < 0) = false := by simp; omega
            have d4 : decide (k > 1000) = false := by simp; omega
            have d5 : decide (c < 0) = false := by simp; omega
            have d6 : decide (c > 2000) = true := by simp; omega
            clear hE
            go_enter Tryd.func25, Tryd.ntmps25
            go_wp2_with (first | (refine wpList_box rfl 27 _ rfl _ rfl (bCfA _) ?_) | fail)
            go_ret
            exact ⟨rfl, hw⟩
          · have hE : cfE 1 k c = 0 := by unfold cfE; rw [if_neg (by omega), if_neg (by omega)]
            rw [hE]
            have d3 : decide (k < 0) = false := by simp; omega
            have d4 : decide (k > 1000) = false := by simp; omega
            have d5 : decide (c < 0) = false := by simp; omega
            have d6 : decide (c > 2000) = false := by simp; omega
            clear hE
            go_enter Tryd.func25, Tryd.ntmps25
            go_wp2_with (first | (refine wpList_box rfl 27 _ rfl _ rfl (bCfA _) ?_) | fail)
            go_ret
            exact ⟨rfl, hw⟩
  · by_cases e2 : v = 2
    · subst e2
      by_cases e3 : k < 0
      · have hE : cfE 2 k c = 1 := by unfold cfE; rw [if_neg (by omega), if_pos (by omega)]
        rw [hE]
        have d3 : decide (k < 0) = true := by simp; omega
        clear hE
        go_enter Tryd.func25, Tryd.ntmps25
        go_wp2_with (first | (refine wpList_box rfl 27 _ rfl _ rfl (bCfA _) ?_) | fail)
        go_ret
        exact ⟨rfl, hw⟩
      · by_cases e4 : 1000 < k
        · have hE : cfE 2 k c = 1 := by unfold cfE; rw [if_neg (by omega), if_pos (by omega)]
          rw [hE]
          have d3 : decide (k < 0) = false := by simp; omega
          have d4 : decide (k > 1000) = true := by simp; omega
          clear hE
          go_enter Tryd.func25, Tryd.ntmps25
          go_wp2_with (first | (refine wpList_box rfl 27 _ rfl _ rfl (bCfA _) ?_) | fail)
          go_ret
          exact ⟨rfl, hw⟩
        · by_cases e5 : c < 0
          · have hE : cfE 2 k c = 1 := by unfold cfE; rw [if_neg (by omega), if_pos (by omega)]
            rw [hE]
            have d3 : decide (k < 0) = false := by simp; omega
            have d4 : decide (k > 1000) = false := by simp; omega
            have d5 : decide (c < 0) = true := by simp; omega
            clear hE
            go_enter Tryd.func25, Tryd.ntmps25
            go_wp2_with (first | (refine wpList_box rfl 27 _ rfl _ rfl (bCfA _) ?_) | fail)
            go_ret
            exact ⟨rfl, hw⟩
          · by_cases e6 : 2000 < c
            · have hE : cfE 2 k c = 1 := by unfold cfE; rw [if_neg (by omega), if_pos (by omega)]
              rw [hE]
              have d3 : decide (k < 0) = false := by simp; omega
              have d4 : decide (k > 1000) = false := by simp; omega
              have d5 : decide (c < 0) = false := by simp; omega
              have d6 : decide (c > 2000) = true := by simp; omega
              clear hE
              go_enter Tryd.func25, Tryd.ntmps25
              go_wp2_with (first | (refine wpList_box rfl 27 _ rfl _ rfl (bCfA _) ?_) | fail)
              go_ret
              exact ⟨rfl, hw⟩
            · have hE : cfE 2 k c = 0 := by unfold cfE; rw [if_neg (by omega), if_neg (by omega)]
              rw [hE]
              have d3 : decide (k < 0) = false := by simp; omega
              have d4 : decide (k > 1000) = false := by simp; omega
              have d5 : decide (c < 0) = false := by simp; omega
              have d6 : decide (c > 2000) = false := by simp; omega
              clear hE
              go_enter Tryd.func25, Tryd.ntmps25
              go_wp2_with (first | (refine wpList_box rfl 27 _ rfl _ rfl (bCfA _) ?_) | fail)
              go_ret
              exact ⟨rfl, hw⟩
    · have hE : cfE v k c = 100 := if_pos ⟨e1, e2⟩
      rw [hE]
      have d1 : (v != 1) = true := by simpa using e1
      have d2 : (v != 2) = true := by simpa using e2
      clear e1 e2 hE
      go_enter Tryd.func25, Tryd.ntmps25
      go_wp2_with (first | (refine wpList_box rfl 27 _ rfl _ rfl (bCfA _) ?_) | fail)
      go_ret
      exact ⟨rfl, hw⟩
set_option maxRecDepth 100000 in
set_option maxHeartbeats 4000000 in
theorem r_Config (v k c : Int) (w : World) : Calls Tryd.prog 18 #[.agg (cfrow v k c)] w fun e w' => e = .returned (.int .i64 (cfE v k c)) ∧ Below w.heap.size w w' := by
  have R0 := hp1_0 w (.cells (cfrow v k c) 27)
  have hw : Below w.heap.size w (w.alloc (.cells (cfrow v k c) 27)) := (Below.refl _ _).alloc (Nat.le_refl _) _
  have c0 : World.cell? _ ⟨w.heap.size, 0, none⟩ = some (.int .i64 v) := cell_of_row _ _ 0 _ _ _ R0
  have c1 : World.cell? _ ⟨w.heap.size, 1, none⟩ = some (.int .i64 k) := cell_of_row _ _ 1 _ _ _ R0
  have c2 : World.cell? _ ⟨w.heap.size, 2, none⟩ = some (.int .i64 c) := cell_of_row _ _ 2 _ _ _ R0
  by_cases e1 : v = 1
  · subst e1
    by_cases e3 : k < 0
    · have hE : cfE 1 k c = 1 := by unfold cfE; rw [if_neg (by omega), if_pos (by omega)]
      rw [hE]
      have d3 : decide (k < 0) = true := by simp; omega
      clear hE
      go_enter Tryd.func18, Tryd.ntmps18
      go_wp2_with (first | (refine wpList_box rfl 27 _ rfl _ rfl (bCfA _) ?_) | fail)
      go_ret
      exact ⟨rfl, hw⟩
    · by_cases e4 : 1000 < k
      · have hE : cfE 1 k c = 1 := by unfold cfE; rw [if_neg (by omega), if_pos (by omega)]
        rw [hE]
        have d3 : decide (k < 0) = false := by simp; omega
        have d4 : decide (k > 1000) = true := by simp; omega
        clear hE
        go_enter Tryd.func18, Tryd.ntmps18
        go_wp2_with (first | (refine wpList_box rfl 27 _ rfl _ rfl (bCfA _) ?_) | fail)
        go_ret
        exact ⟨rfl, hw⟩
      · by_cases e5 : c < 0
        · have hE : cfE 1 k c = 1 := by unfold cfE; rw [if_neg (by omega), if_pos (by omega)]
          rw [hE]
          have d3 : decide (k < 0) = false := by simp; omega
          have d4 : decide (k > 1000) = false := by simp; omega
          have d5 : decide (c < 0) = true := by simp; omega
          clear hE
          go_enter Tryd.func18, Tryd.ntmps18
          go_wp2_with (first | (refine wpList_box rfl 27 _ rfl _ rfl (bCfA _) ?_) | fail)
          go_ret
          exact ⟨rfl, hw⟩
        · by_cases e6 : 2000 < c
          · have hE : cfE 1 k c = 1 := by unfold cfE; rw [if_neg (by omega), if_pos (by omega)]
            rw [hE]
            have d3 : decide (k < 0) = false := by simp; omega
            have d4 : decide (k > 1000) = false := by simp; omega
            have d5 : decide (c < 0) = false := by simp; omega
            have d6 : decide (c > 2000) = true := by simp; omega
            clear hE
            go_enter Tryd.func18, Tryd.ntmps18
            go_wp2_with (first | (refine wpList_box rfl 27 _ rfl _ rfl (bCfA _) ?_) | fail)
            go_ret
            exact ⟨rfl, hw⟩
          · have hE : cfE 1 k c = 0 := by unfold cfE; rw [if_neg (by omega), if_neg (by omega)]
            rw [hE]
            have d3 : decide (k < 0) = false := by simp; omega
            have d4 : decide (k > 1000) = false := by simp; omega
            have d5 : decide (c < 0) = false := by simp; omega
            have d6 : decide (c > 2000) = false := by simp; omega
            clear hE
            go_enter Tryd.func18, Tryd.ntmps18
            go_wp2_with (first | (refine wpList_box rfl 27 _ rfl _ rfl (bCfA _) ?_) | fail)
            go_ret
            exact ⟨rfl, hw⟩
  · by_cases e2 : v = 2
    · subst e2
      by_cases e3 : k < 0
      · have hE : cfE 2 k c = 1 := by unfold cfE; rw [if_neg (by omega), if_pos (by omega)]
        rw [hE]
        have d3 : decide (k < 0) = true := by simp; omega
        clear hE
        go_enter Tryd.func18, Tryd.ntmps18
        go_wp2_with (first | (refine wpList_box rfl 27 _ rfl _ rfl (bCfA _) ?_) | fail)
        go_ret
        exact ⟨rfl, hw⟩
      · by_cases e4 : 1000 < k
        · have hE : cfE 2 k c = 1 := by unfold cfE; rw [if_neg (by omega), if_pos (by omega)]
          rw [hE]
          have d3 : decide (k < 0) = false := by simp; omega
          have d4 : decide (k > 1000) = true := by simp; omega
          clear hE
          go_enter Tryd.func18, Tryd.ntmps18
          go_wp2_with (first | (refine wpList_box rfl 27 _ rfl _ rfl (bCfA _) ?_) | fail)
          go_ret
          exact ⟨rfl, hw⟩
        · by_cases e5 : c < 0
          · have hE : cfE 2 k c = 1 := by unfold cfE; rw [if_neg (by omega), if_pos (by omega)]
            rw [hE]
            have d3 : decide (k < 0) = false := by simp; omega
            have d4 : decide (k > 1000) = false := by simp; omega
            have d5 : decide (c < 0) = true := by simp; omega
            clear hE
            go_enter Tryd.func18, Tryd.ntmps18
            go_wp2_with (first | (refine wpList_box rfl 27 _ rfl _ rfl (bCfA _) ?_) | fail)
            go_ret
            exact ⟨rfl, hw⟩
          · by_cases e6 : 2000 < c
            · have hE : cfE 2 k c = 1 := by unfold cfE; rw [if_neg (by omega), if_pos (by omega)]
              rw [hE]
              have d3 : decide (k < 0) = false := by simp; omega
              have d4 : decide (k > 1000) = false := by simp; omega
              have d5 : decide (c < 0) = false := by simp; omega
              have d6 : decide (c > 2000) = true := by simp; omega
              clear hE
              go_enter Tryd.func18, Tryd.ntmps18
              go_wp2_with (first | (refine wpList_box rfl 27 _ rfl _ rfl (bCfA _) ?_) | fail)
              go_ret
              exact ⟨rfl, hw⟩
            · have hE : cfE 2 k c = 0 := by unfold cfE; rw [if_neg (by omega), if_neg (by omega)]
              rw [hE]
              have d3 : decide (k < 0) = false := by simp; omega
              have d4 : decide (k > 1000) = false := by simp; omega
              have d5 : decide (c < 0) = false := by simp; omega
              have d6 : decide (c > 2000) = false := by simp; omega
              clear hE
              go_enter Tryd.func18, Tryd.ntmps18
              go_wp2_with (first | (refine wpList_box rfl 27 _ rfl _ rfl (bCfA _) ?_) | fail)
              go_ret
              exact ⟨rfl, hw⟩
    · have hE : cfE v k c = 100 := if_pos ⟨e1, e2⟩
      rw [hE]
      have d1 : (v != 1) = true := by simpa using e1
      have d2 : (v != 2) = true := by simpa using e2
      clear e1 e2 hE
      go_enter Tryd.func18, Tryd.ntmps18
      go_wp2_with (first | (refine wpList_box rfl 27 _ rfl _ rfl (bCfA _) ?_) | fail)
      go_ret
      exact ⟨rfl, hw⟩
def pcb (s : Stt) : Bool := if s.hp = true then s.tu || s.hs else decide (s.peer = zr 32) && !s.tu && !s.hs && !s.hr
def scb (s : Stt) : Bool := s.hs || (decide (s.snd = zr 32) && decide (s.shd = zr 32) && (s.sn == 0) && (s.pv == 0))
def rcb (s : Stt) : Bool := s.hr || (decide (s.rcv = zr 32) && decide (s.rhd = zr 32) && (s.rn == 0))
set_option maxRecDepth 100000 in
set_option maxHeartbeats 4000000 in
theorem a_peer (s : Stt) (hs : s.ok) (w : World) : Calls Tryd.prog 27 #[.agg (strow s)] w fun e w' => e = .returned (.bool (pcb s)) ∧ Below w.heap.size w w' := by
  unfold pcb
  have R0 := hp1_0 w (.cells (strow s) 38)
  have hw : Below w.heap.size w (w.alloc (.cells (strow s) 38)) := (Below.refl _ _).alloc (Nat.le_refl _) _
  have c_hp : World.cell? _ ⟨w.heap.size, 132, none⟩ = some (.bool s.hp) := (cell_of_row _ _ _ _ _ _ R0).trans (st_hp hs [])
  have c_tu : World.cell? _ ⟨w.heap.size, 133, none⟩ = some (.bool s.tu) := (cell_of_row _ _ _ _ _ _ R0).trans (st_tu hs [])
  have c_hs : World.cell? _ ⟨w.heap.size, 232, none⟩ = some (.bool s.hs) := (cell_of_row _ _ _ _ _ _ R0).trans (st_hs hs [])
  have c_hr : World.cell? _ ⟨w.heap.size, 330, none⟩ = some (.bool s.hr) := (cell_of_row _ _ _ _ _ _ R0).trans (st_hr hs [])
  have e_peer := fun W => eq_k s.peer (zr 32) hs.peer (zr_len 32) W
  generalize s.hp = b_hp at *
  generalize s.tu = b_tu at *
  generalize s.hs = b_hs at *
  generalize s.hr = b_hr at *
  generalize decide (s.peer = zr 32) = d_peer at *
  cases b_hp
  · cases d_peer
    · go_enter Tryd.func27, Tryd.ntmps27
      go_wp2_with (first | (refine wpList_box rfl 38 _ rfl _ rfl (bStA _) ?_) | (refine wpList_load_part rfl 23 _ rfl (w.heap.size) 99 rfl 38 (strow s) (0, 0) (irow .u8 s.peer) _ R0 (st_peer hs _) Tryd.underlying23 rfl (infok8 _ hs.peer) ?_) | (refine wpList_build_want rfl 23 _ rfl [] rfl (irow .u8 (zr 32)) builtZk ?_) | fail)
      go_ret
      exact ⟨rfl, hw⟩
    · cases b_tu
      · cases b_hs
        · cases b_hr
          · go_enter Tryd.func27, Tryd.ntmps27
            go_wp2_with (first | (refine wpList_box rfl 38 _ rfl _ rfl (bStA _) ?_) | (refine wpList_load_part rfl 23 _ rfl (w.heap.size) 99 rfl 38 (strow s) (0, 0) (irow .u8 s.peer) _ R0 (st_peer hs _) Tryd.underlying23 rfl (infok8 _ hs.peer) ?_) | (refine wpList_build_want rfl 23 _ rfl [] rfl (irow .u8 (zr 32)) builtZk ?_) | fail)
            go_ret
            exact ⟨rfl, hw⟩
          · go_enter Tryd.func27, Tryd.ntmps27
            go_wp2_with (first | (refine wpList_box rfl 38 _ rfl _ rfl (bStA _) ?_) | (refine wpList_load_part rfl 23 _ rfl (w.heap.size) 99 rfl 38 (strow s) (0, 0) (irow .u8 s.peer) _ R0 (st_peer hs _) Tryd.underlying23 rfl (infok8 _ hs.peer) ?_) | (refine wpList_build_want rfl 23 _ rfl [] rfl (irow .u8 (zr 32)) builtZk ?_) | fail)
            go_ret
            exact ⟨rfl, hw⟩
        · go_enter Tryd.func27, Tryd.ntmps27
          go_wp2_with (first | (refine wpList_box rfl 38 _ rfl _ rfl (bStA _) ?_) | (refine wpList_load_part rfl 23 _ rfl (w.heap.size) 99 rfl 38 (strow s) (0, 0) (irow .u8 s.peer) _ R0 (st_peer hs _) Tryd.underlying23 rfl (infok8 _ hs.peer) ?_) | (refine wpList_build_want rfl 23 _ rfl [] rfl (irow .u8 (zr 32)) builtZk ?_) | fail)
          go_ret
          exact ⟨rfl, hw⟩
      · go_enter Tryd.func27, Tryd.ntmps27
        go_wp2_with (first | (refine wpList_box rfl 38 _ rfl _ rfl (bStA _) ?_) | (refine wpList_load_part rfl 23 _ rfl (w.heap.size) 99 rfl 38 (strow s) (0, 0) (irow .u8 s.peer) _ R0 (st_peer hs _) Tryd.underlying23 rfl (infok8 _ hs.peer) ?_) | (refine wpList_build_want rfl 23 _ rfl [] rfl (irow .u8 (zr 32)) builtZk ?_) | fail)
        go_ret
        exact ⟨rfl, hw⟩
  · cases b_tu
    · cases b_hs
      · go_enter Tryd.func27, Tryd.ntmps27
        go_wp2_with (first | (refine wpList_box rfl 38 _ rfl _ rfl (bStA _) ?_) | (refine wpList_load_part rfl 23 _ rfl (w.heap.size) 99 rfl 38 (strow s) (0, 0) (irow .u8 s.peer) _ R0 (st_peer hs _) Tryd.underlying23 rfl (infok8 _ hs.peer) ?_) | (refine wpList_build_want rfl 23 _ rfl [] rfl (irow .u8 (zr 32)) builtZk ?_) | fail)
        go_ret
        exact ⟨rfl, hw⟩
      · go_enter Tryd.func27, Tryd.ntmps27
        go_wp2_with (first | (refine wpList_box rfl 38 _ rfl _ rfl (bStA _) ?_) | (refine wpList_load_part rfl 23 _ rfl (w.heap.size) 99 rfl 38 (strow s) (0, 0) (irow .u8 s.peer) _ R0 (st_peer hs _) Tryd.underlying23 rfl (infok8 _ hs.peer) ?_) | (refine wpList_build_want rfl 23 _ rfl [] rfl (irow .u8 (zr 32)) builtZk ?_) | fail)
        go_ret
        exact ⟨rfl, hw⟩
    · go_enter Tryd.func27, Tryd.ntmps27
      go_wp2_with (first | (refine wpList_box rfl 38 _ rfl _ rfl (bStA _) ?_) | (refine wpList_load_part rfl 23 _ rfl (w.heap.size) 99 rfl 38 (strow s) (0, 0) (irow .u8 s.peer) _ R0 (st_peer hs _) Tryd.underlying23 rfl (infok8 _ hs.peer) ?_) | (refine wpList_build_want rfl 23 _ rfl [] rfl (irow .u8 (zr 32)) builtZk ?_) | fail)
      go_ret
      exact ⟨rfl, hw⟩
set_option maxRecDepth 100000 in
set_option maxHeartbeats 4000000 in
theorem a_sending (s : Stt) (hs : s.ok) (w : World) : Calls Tryd.prog 28 #[.agg (strow s)] w fun e w' => e = .returned (.bool (scb s)) ∧ Below w.heap.size w w' := by
  unfold scb
  have R0 := hp1_0 w (.cells (strow s) 38)
  have hw : Below w.heap.size w (w.alloc (.cells (strow s) 38)) := (Below.refl _ _).alloc (Nat.le_refl _) _
  have c_hs : World.cell? _ ⟨w.heap.size, 232, none⟩ = some (.bool s.hs) := (cell_of_row _ _ _ _ _ _ R0).trans (st_hs hs [])
  have c_sn : World.cell? _ ⟨w.heap.size, 230, none⟩ = some (.int .u32 s.sn) := (cell_of_row _ _ _ _ _ _ R0).trans (st_sn hs [])
  have c_pv : World.cell? _ ⟨w.heap.size, 231, none⟩ = some (.int .u32 s.pv) := (cell_of_row _ _ _ _ _ _ R0).trans (st_pv hs [])
  have e_snd := fun W => eq_k s.snd (zr 32) hs.snd (zr_len 32) W
  have e_shd := fun W => eq_k s.shd (zr 32) hs.shd (zr_len 32) W
  generalize s.hs = b_hs at *
  have q_sn : ∃ d_sn, (s.sn == 0) = d_sn := ⟨_, rfl⟩
  obtain ⟨d_sn, q_sn⟩ := q_sn
  rw [q_sn]
  have q_pv : ∃ d_pv, (s.pv == 0) = d_pv := ⟨_, rfl⟩
  obtain ⟨d_pv, q_pv⟩ := q_pv
  rw [q_pv]
  generalize decide (s.snd = zr 32) = d_snd at *
  generalize decide (s.shd = zr 32) = d_shd at *
  cases b_hs
  · cases d_snd
    · go_enter Tryd.func28, Tryd.ntmps28
      go_wp2_with (first | (refine wpList_box rfl 38 _ rfl _ rfl (bStA _) ?_) | (refine wpList_load_part rfl 23 _ rfl (w.heap.size) 134 rfl 38 (strow s) (0, 0) (irow .u8 s.snd) _ R0 (st_snd hs _) Tryd.underlying23 rfl (infok8 _ hs.snd) ?_) | (refine wpList_load_part rfl 23 _ rfl (w.heap.size) 166 rfl 38 (strow s) (0, 0) (irow .u8 s.shd) _ R0 (st_shd hs _) Tryd.underlying23 rfl (infok8 _ hs.shd) ?_) | (refine wpList_build_want rfl 23 _ rfl [] rfl (irow .u8 (zr 32)) builtZk ?_) | fail)
      go_ret
      exact ⟨rfl, hw⟩
    · cases d_shd
      · go_enter Tryd.func28, Tryd.ntmps28
        go_wp2_with (first | (refine wpList_box rfl 38 _ rfl _ rfl (bStA _) ?_) | (refine wpList_load_part rfl 23 _ rfl (w.heap.size) 134 rfl 38 (strow s) (0, 0) (irow .u8 s.snd) _ R0 (st_snd hs _) Tryd.underlying23 rfl (infok8 _ hs.snd) ?_) | (refine wpList_load_part rfl 23 _ rfl (w.heap.size) 166 rfl 38 (strow s) (0, 0) (irow .u8 s.shd) _ R0 (st_shd hs _) Tryd.underlying23 rfl (infok8 _ hs.shd) ?_) | (refine wpList_build_want rfl 23 _ rfl [] rfl (irow .u8 (zr 32)) builtZk ?_) | fail)
        go_ret
        exact ⟨rfl, hw⟩
      · cases d_sn
        · go_enter Tryd.func28, Tryd.ntmps28
          go_wp2_with (first | (refine wpList_box rfl 38 _ rfl _ rfl (bStA _) ?_) | (refine wpList_load_part rfl 23 _ rfl (w.heap.size) 134 rfl 38 (strow s) (0, 0) (irow .u8 s.snd) _ R0 (st_snd hs _) Tryd.underlying23 rfl (infok8 _ hs.snd) ?_) | (refine wpList_load_part rfl 23 _ rfl (w.heap.size) 166 rfl 38 (strow s) (0, 0) (irow .u8 s.shd) _ R0 (st_shd hs _) Tryd.underlying23 rfl (infok8 _ hs.shd) ?_) | (refine wpList_build_want rfl 23 _ rfl [] rfl (irow .u8 (zr 32)) builtZk ?_) | fail)
          go_ret
          exact ⟨rfl, hw⟩
        · cases d_pv
          · go_enter Tryd.func28, Tryd.ntmps28
            go_wp2_with (first | (refine wpList_box rfl 38 _ rfl _ rfl (bStA _) ?_) | (refine wpList_load_part rfl 23 _ rfl (w.heap.size) 134 rfl 38 (strow s) (0, 0) (irow .u8 s.snd) _ R0 (st_snd hs _) Tryd.underlying23 rfl (infok8 _ hs.snd) ?_) | (refine wpList_load_part rfl 23 _ rfl (w.heap.size) 166 rfl 38 (strow s) (0, 0) (irow .u8 s.shd) _ R0 (st_shd hs _) Tryd.underlying23 rfl (infok8 _ hs.shd) ?_) | (refine wpList_build_want rfl 23 _ rfl [] rfl (irow .u8 (zr 32)) builtZk ?_) | fail)
            go_ret
            exact ⟨rfl, hw⟩
          · go_enter Tryd.func28, Tryd.ntmps28
            go_wp2_with (first | (refine wpList_box rfl 38 _ rfl _ rfl (bStA _) ?_) | (refine wpList_load_part rfl 23 _ rfl (w.heap.size) 134 rfl 38 (strow s) (0, 0) (irow .u8 s.snd) _ R0 (st_snd hs _) Tryd.underlying23 rfl (infok8 _ hs.snd) ?_) | (refine wpList_load_part rfl 23 _ rfl (w.heap.size) 166 rfl 38 (strow s) (0, 0) (irow .u8 s.shd) _ R0 (st_shd hs _) Tryd.underlying23 rfl (infok8 _ hs.shd) ?_) | (refine wpList_build_want rfl 23 _ rfl [] rfl (irow .u8 (zr 32)) builtZk ?_) | fail)
            go_ret
            exact ⟨rfl, hw⟩
  · go_enter Tryd.func28, Tryd.ntmps28
    iterate 40 (first | go_skip | go_step | skip)
    go_ret
    exact ⟨rfl, hw⟩
set_option maxRecDepth 100000 in
set_option maxHeartbeats 4000000 in
theorem a_receiving (s : Stt) (hs : s.ok) (w : World) : Calls Tryd.prog 29 #[.agg (strow s)] w fun e w' => e = .returned (.bool (rcb s)) ∧ Below w.heap.size w w' := by
  unfold rcb
  have R0 := hp1_0 w (.cells (strow s) 38)
  have hw : Below w.heap.size w (w.alloc (.cells (strow s) 38)) := (Below.refl _ _).alloc (Nat.le_refl _) _
  have c_hr : World.cell? _ ⟨w.heap.size, 330, none⟩ = some (.bool s.hr) := (cell_of_row _ _ _ _ _ _ R0).trans (st_hr hs [])
  have c_rn : World.cell? _ ⟨w.heap.size, 329, none⟩ = some (.int .u32 s.rn) := (cell_of_row _ _ _ _ _ _ R0).trans (st_rn hs [])
  have e_rcv := fun W => eq_k s.rcv (zr 32) hs.rcv (zr_len 32) W
  have e_rhd := fun W => eq_k s.rhd (zr 32) hs.rhd (zr_len 32) W
  generalize s.hr = b_hr at *
  have q_rn : ∃ d_rn, (s.rn == 0) = d_rn := ⟨_, rfl⟩
  obtain ⟨d_rn, q_rn⟩ := q_rn
  rw [q_rn]
  generalize decide (s.rcv = zr 32) = d_rcv at *
  generalize decide (s.rhd = zr 32) = d_rhd at *
  cases b_hr
  · cases d_rcv
    · go_enter Tryd.func29, Tryd.ntmps29
      go_wp2_with (first | (refine wpList_box rfl 38 _ rfl _ rfl (bStA _) ?_) | (refine wpList_load_part rfl 23 _ rfl (w.heap.size) 233 rfl 38 (strow s) (0, 0) (irow .u8 s.rcv) _ R0 (st_rcv hs _) Tryd.underlying23 rfl (infok8 _ hs.rcv) ?_) | (refine wpList_load_part rfl 23 _ rfl (w.heap.size) 265 rfl 38 (strow s) (0, 0) (irow .u8 s.rhd) _ R0 (st_rhd hs _) Tryd.underlying23 rfl (infok8 _ hs.rhd) ?_) | (refine wpList_build_want rfl 23 _ rfl [] rfl (irow .u8 (zr 32)) builtZk ?_) | fail)
      go_ret
      exact ⟨rfl, hw⟩
    · cases d_rhd
      · go_enter Tryd.func29, Tryd.ntmps29
        go_wp2_with (first | (refine wpList_box rfl 38 _ rfl _ rfl (bStA _) ?_) | (refine wpList_load_part rfl 23 _ rfl (w.heap.size) 233 rfl 38 (strow s) (0, 0) (irow .u8 s.rcv) _ R0 (st_rcv hs _) Tryd.underlying23 rfl (infok8 _ hs.rcv) ?_) | (refine wpList_load_part rfl 23 _ rfl (w.heap.size) 265 rfl 38 (strow s) (0, 0) (irow .u8 s.rhd) _ R0 (st_rhd hs _) Tryd.underlying23 rfl (infok8 _ hs.rhd) ?_) | (refine wpList_build_want rfl 23 _ rfl [] rfl (irow .u8 (zr 32)) builtZk ?_) | fail)
        go_ret
        exact ⟨rfl, hw⟩
      · cases d_rn
        · go_enter Tryd.func29, Tryd.ntmps29
          go_wp2_with (first | (refine wpList_box rfl 38 _ rfl _ rfl (bStA _) ?_) | (refine wpList_load_part rfl 23 _ rfl (w.heap.size) 233 rfl 38 (strow s) (0, 0) (irow .u8 s.rcv) _ R0 (st_rcv hs _) Tryd.underlying23 rfl (infok8 _ hs.rcv) ?_) | (refine wpList_load_part rfl 23 _ rfl (w.heap.size) 265 rfl 38 (strow s) (0, 0) (irow .u8 s.rhd) _ R0 (st_rhd hs _) Tryd.underlying23 rfl (infok8 _ hs.rhd) ?_) | (refine wpList_build_want rfl 23 _ rfl [] rfl (irow .u8 (zr 32)) builtZk ?_) | fail)
          go_ret
          exact ⟨rfl, hw⟩
        · go_enter Tryd.func29, Tryd.ntmps29
          go_wp2_with (first | (refine wpList_box rfl 38 _ rfl _ rfl (bStA _) ?_) | (refine wpList_load_part rfl 23 _ rfl (w.heap.size) 233 rfl 38 (strow s) (0, 0) (irow .u8 s.rcv) _ R0 (st_rcv hs _) Tryd.underlying23 rfl (infok8 _ hs.rcv) ?_) | (refine wpList_load_part rfl 23 _ rfl (w.heap.size) 265 rfl 38 (strow s) (0, 0) (irow .u8 s.rhd) _ R0 (st_rhd hs _) Tryd.underlying23 rfl (infok8 _ hs.rhd) ?_) | (refine wpList_build_want rfl 23 _ rfl [] rfl (irow .u8 (zr 32)) builtZk ?_) | fail)
          go_ret
          exact ⟨rfl, hw⟩
  · go_enter Tryd.func29, Tryd.ntmps29
    iterate 40 (first | go_skip | go_step | skip)
    go_ret
    exact ⟨rfl, hw⟩

end Go.Proofs.YtjofbnilhkmpeaaDoor
