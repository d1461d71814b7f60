import Derived.Test.YtdfpmgjholdknaaDoorProg
import Derived.WalkKit
import Derived.WalkSpells
import Derived.WalkLawsBesides
import Derived.Lib.QuietBelow
import Derived.Laws.BitsAllLaws
import Derived.BigQuiet
import Derived.WalkMore
import Derived.Test.YtdfpmgjholdknaaDoorKa
import Derived.Test.YtdfpmgjholdknaaDoorUg
namespace Go.Proofs.YtdfpmgjholdknaaDoor
set_option maxRecDepth 100000
open Go Go.RowKit Go.Sort
attribute [local go_sem] setCell_drewN alloc_drewN
/-- So many bytes with their number ahead, not cut off. -/
def ctd (n : Nat) : Nat := (en n).length + n
theorem bNum (cs : Array Value) (W : World) : (Instr.box 79 (.agg cs)).run Tryd.prog W = .ok (.pointer (some ⟨W.heap.size, 0, none⟩)) (W.alloc (.cells cs 79)) := by kernel_rfl
theorem bOct (cs : Array Value) (W : World) : (Instr.box 92 (.agg cs)).run Tryd.prog W = .ok (.pointer (some ⟨W.heap.size, 0, none⟩)) (W.alloc (.cells cs 92)) := by kernel_rfl
theorem bFlt (cs : Array Value) (W : World) : (Instr.box 89 (.agg cs)).run Tryd.prog W = .ok (.pointer (some ⟨W.heap.size, 0, none⟩)) (W.alloc (.cells cs 89)) := by kernel_rfl
def nsz (ty : Int) (l m : Nat) : Nat × Nat := if ty = 5 then (4, 4) else if ty = 1 then (8, 8) else ((en l).length, (en m).length)
set_option maxRecDepth 100000 in
set_option maxHeartbeats 4000000 in
theorem a_numSize (ty : Int) (l m : Nat) (hl : l < 18446744073709551616) (hm : m < 18446744073709551616) : Gives 109 #[.agg #[.int .i64 ty, .int .u64 (l : Int), .int .u64 (m : Int)]] (.tuple #[.int .u64 ((nsz ty l m).1 : Int), .int .u64 ((nsz ty l m).2 : Int)]) := by
  intro w
  have R0 := hp1_0 w (.cells #[.int .i64 ty, .int .u64 (l : Int), .int .u64 (m : Int)] 79)
  have hw : Below w.heap.size w (w.alloc (.cells #[.int .i64 ty, .int .u64 (l : Int), .int .u64 (m : Int)] 79)) := (Below.refl _ _).alloc (Nat.le_refl _) _
  have c0 : (w.alloc (.cells #[.int .i64 ty, .int .u64 (l : Int), .int .u64 (m : Int)] 79)).cell? ⟨w.heap.size, 0, none⟩ = some (.int .i64 ty) := cell_of_row _ _ _ _ _ _ R0
  have c1 : (w.alloc (.cells #[.int .i64 ty, .int .u64 (l : Int), .int .u64 (m : Int)] 79)).cell? ⟨w.heap.size, 1, none⟩ = some (.int .u64 (l : Int)) := cell_of_row _ _ _ _ _ _ R0
  have c2 : (w.alloc (.cells #[.int .i64 ty, .int .u64 (l : Int), .int .u64 (m : Int)] 79)).cell? ⟨w.heap.size, 2, none⟩ = some (.int .u64 (m : Int)) := cell_of_row _ _ _ _ _ _ R0
  clear R0
  by_cases h5 : ty = 5
  · subst h5
    go_enter Tryd.func109, Tryd.ntmps109
    go_wp2_with (first | (refine wpList_box rfl 79 _ rfl _ rfl (bNum _) ?_) | fail)
    go_ret2
    exact ⟨rfl, hw⟩
  by_cases h1 : ty = 1
  · subst h1
    go_enter Tryd.func109, Tryd.ntmps109
    go_wp2_with (first | (refine wpList_box rfl 79 _ rfl _ rfl (bNum _) ?_) | fail)
    go_ret2
    exact ⟨rfl, hw⟩
  have q5 : (ty == 5) = false := by simpa using h5
  have q1 : (ty == 1) = false := by simpa using h1
  have hz : nsz ty l m = ((en l).length, (en m).length) := by unfold nsz; rw [if_neg h5, if_neg h1]
  rw [hz]
  have e1 := en_ten hl
  have e2 := en_ten hm
  have s1 : ∀ V, GivesB V 19 #[.int .u64 (l : Int)] (.int .u64 ((en l).length : Int)) := fun _ V _ => a_sizeOf l hl V
  have s2 : ∀ V, GivesB V 19 #[.int .u64 (m : Int)] (.int .u64 ((en m).length : Int)) := fun _ V _ => a_sizeOf m hm V
  simp only
  generalize (en l).length = A at *
  generalize (en m).length = Bm at *
  clear hz h1 h5
  go_enter Tryd.func109, Tryd.ntmps109
  go_wp2_with (first | (refine wpList_box rfl 79 _ rfl _ rfl (bNum _) ?_) | fail)
  generalize hW : (w.alloc (.cells #[.int .i64 ty, .int .u64 (l : Int), .int .u64 (m : Int)] 79)) = w1 at *
  replace hW := hide hW
  have k1 : ∀ p : Regrown, (grow (redrawn w1 p.d) p.os).cell? ⟨w.heap.size, 1, none⟩ = some (.int .u64 (l : Int)) := fun p => cell_regrown c1 p.d p.os
  have k2 : ∀ p : Regrown, (grow (redrawn w1 p.d) p.os).cell? ⟨w.heap.size, 2, none⟩ = some (.int .u64 (m : Int)) := fun p => cell_regrown c2 p.d p.os
  refine wp_region_quiet_below (by kernel_rfl) (by kernel_rfl) ?_
  go_big_quiet_step (fail)
  go_big_quiet_step (fail)
  go_big_quiet_step (exact (s1 w1).re)
  go_big_quiet_step (fail)
  go_big_quiet_step (fail)
  go_big_quiet_step (exact (s2 w1).re)
  go_big_quiet_step (fail)
  go_big_quiet_step (fail)
  refine wpQuiet_nil ?_
  rintro _ ⟨p, rfl⟩
  have hb2 := below_regrown w1 p.d p.os
  generalize grow (redrawn w1 p.d) p.os = w2 at *
  replace hw := Below.after hw hb2
  clear hb2 k1 k2 s1 s2
  go_wp2_with (fail)
  go_ret2
  exact ⟨rfl, hw⟩
set_option maxRecDepth 100000 in
set_option maxHeartbeats 4000000 in
theorem a_octSize (l m : Nat) (t : Bool) (hl : l < 4611686018427387904) (hm : m < 4611686018427387904) : Gives 111 #[.agg #[.int .u64 (l : Int), .int .u64 (m : Int), .bool t]] (.tuple #[.int .u64 (ctd l : Int), .int .u64 (ctd m : Int)]) := by
  intro w
  have R0 := hp1_0 w (.cells #[.int .u64 (l : Int), .int .u64 (m : Int), .bool t] 92)
  have hw : Below w.heap.size w (w.alloc (.cells #[.int .u64 (l : Int), .int .u64 (m : Int), .bool t] 92)) := (Below.refl _ _).alloc (Nat.le_refl _) _
  have c0 : (w.alloc (.cells #[.int .u64 (l : Int), .int .u64 (m : Int), .bool t] 92)).cell? ⟨w.heap.size, 0, none⟩ = some (.int .u64 (l : Int)) := cell_of_row _ _ _ _ _ _ R0
  have c1 : (w.alloc (.cells #[.int .u64 (l : Int), .int .u64 (m : Int), .bool t] 92)).cell? ⟨w.heap.size, 1, none⟩ = some (.int .u64 (m : Int)) := cell_of_row _ _ _ _ _ _ R0
  have c2 : (w.alloc (.cells #[.int .u64 (l : Int), .int .u64 (m : Int), .bool t] 92)).cell? ⟨w.heap.size, 2, none⟩ = some (.bool t) := cell_of_row _ _ _ _ _ _ R0
  clear R0
  have s1 : ∀ V, GivesB V 108 #[.int .u64 (l : Int)] (.int .u64 (ctd l : Int)) := fun _ V _ => a_counted l hl V
  have s2 : ∀ V, GivesB V 108 #[.int .u64 (m : Int)] (.int .u64 (ctd m : Int)) := fun _ V _ => a_counted m hm V
  generalize ctd l = A at *
  generalize ctd m = Bm at *
  go_enter Tryd.func111, Tryd.ntmps111
  go_wp2_with (first | (refine wpList_box rfl 92 _ rfl _ rfl (bOct _) ?_) | fail)
  generalize hW : (w.alloc (.cells #[.int .u64 (l : Int), .int .u64 (m : Int), .bool t] 92)) = w1 at *
  replace hW := hide hW
  have k0 : ∀ p : Regrown, (grow (redrawn w1 p.d) p.os).cell? ⟨w.heap.size, 0, none⟩ = some (.int .u64 (l : Int)) := fun p => cell_regrown c0 p.d p.os
  have k1 : ∀ p : Regrown, (grow (redrawn w1 p.d) p.os).cell? ⟨w.heap.size, 1, none⟩ = some (.int .u64 (m : Int)) := fun p => cell_regrown c1 p.d p.os
  refine wp_region_quiet_below (by kernel_rfl) (by kernel_rfl) ?_
  go_big_quiet_step (fail)
  go_big_quiet_step (fail)
  go_big_quiet_step (exact (s1 w1).re)
  go_big_quiet_step (fail)
  go_big_quiet_step (fail)
  go_big_quiet_step (exact (s2 w1).re)
  go_big_quiet_step (fail)
  go_big_quiet_step (fail)
  refine wpQuiet_nil ?_
  rintro _ ⟨p, rfl⟩
  have hb2 := below_regrown w1 p.d p.os
  generalize grow (redrawn w1 p.d) p.os = w2 at *
  replace hw := Below.after hw hb2
  clear hb2 k0 k1 s1 s2
  go_wp2_with (fail)
  go_ret2
  exact ⟨rfl, hw⟩
theorem a_fltSize (cs : Array Value) : Gives 110 #[.agg cs] (.tuple #[.int .u64 8, .int .u64 8]) := by
  intro w
  go_enter Tryd.func110, Tryd.ntmps110
  go_wp2_with (first | (refine wpList_box rfl 89 _ rfl _ rfl (bFlt _) ?_) | fail)
  go_ret2
  exact ⟨rfl, (Below.refl _ _).alloc (Nat.le_refl _) _⟩
end Go.Proofs.YtdfpmgjholdknaaDoor
