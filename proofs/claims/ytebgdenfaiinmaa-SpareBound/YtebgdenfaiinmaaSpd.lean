import Derived.Test.YtebgdenfaiinmaaProg
import Derived.WalkKit
import Derived.WalkSpells
import Derived.WalkLawsBesides
import Derived.Lib.QuietBelow
import Derived.BigQuiet
import Derived.OrdersHeld
import Derived.Deep.RegionHeld3
import Derived.Test.YtebgdenfaiinmaaKit
import Derived.Test.YtebgdenfaiinmaaSpc
namespace Go.Proofs.Ytebgdenfaiinmaa
open Go Go.RowKit Go.Sort
attribute [local go_sem] setCell_drewN alloc_drewN

theorem builtSt (most : Int) (b : Nat) : Try.prog.built 71 [(0, .int .i64 most), (2, .map (some b))] = some #[.int .i64 most, .slice none 0 0, .map (some b)] := by kernel_rfl
theorem bSt (cs : Array Value) (W : World) : (Instr.box 71 (.agg cs)).run Try.prog W = .ok (.pointer (some ⟨W.heap.size, 0, none⟩)) (W.alloc (.cells cs 71)) := by kernel_rfl
set_option maxRecDepth 100000 in
set_option maxHeartbeats 4000000 in
theorem a_New (most : Int) (h0 : 0 ≤ most) (h1 : most ≤ 2000) (w : World) : Calls Try.prog 9 #[.int .i64 most] w fun e w' => ∃ g b, e = .returned (.tuple #[.pointer (some ⟨g, 0, none⟩), .int .i64 0]) ∧ Sto w' w.heap.size g b (.slice none 0 0) most [] ∧ Below w.heap.size w w' := by
  have d1 : decide (most < 0) = false := by simp; omega
  have d2 : decide (most > 2000) = false := by simp; omega
  have hmm := @run_makeMap Try.prog
  have hb := builtSt most w.heap.size
  have R0 := hp2_0 w (.map #[] 0) (.cells #[.int .i64 most, .slice none 0 0, .map (some w.heap.size)] 71)
  have R1 := hp2_1 w (.map #[] 0) (.cells #[.int .i64 most, .slice none 0 0, .map (some w.heap.size)] 71)
  have hw : Below w.heap.size w ((w.alloc (.map #[] 0)).alloc (.cells #[.int .i64 most, .slice none 0 0, .map (some w.heap.size)] 71)) := ((Below.refl _ _).alloc (Nat.le_refl _) _).alloc (by simp) _
  go_enter Try.func9, Try.ntmps9
  go_wp2_with (first | (refine wpList_build_as rfl 71 _ rfl [(0, .int .i64 most), (2, .map (some w.heap.size))] rfl #[.int .i64 most, .slice none 0 0, .map (some w.heap.size)] hb ?_) | (refine wpList_box rfl 71 _ rfl _ rfl (bSt _) ?_) | fail)
  try simp only [size_alloc1, Act.put, List.setIfInBounds_toArray, List.set_cons_succ, List.set_cons_zero]
  go_ret2
  exact ⟨_, _, rfl, ⟨R1, ⟨rfl, .inl ⟨rfl, rfl⟩⟩, ⟨#[], 0, R0, rfl⟩, AllOk.nil, List.nodup_nil, ⟨h0, h1⟩, h0, Nat.le_succ _, Nat.le_refl _, (fun e => by cases e)⟩, hw⟩
set_option maxRecDepth 100000 in
set_option maxHeartbeats 4000000 in
theorem a_New_no (most : Int) (h0 : most < 0 ∨ 2000 < most) (w : World) : Calls Try.prog 9 #[.int .i64 most] w fun e w' => e = .returned (.tuple #[.pointer none, .int .i64 1]) ∧ w' = w := by
  rcases h0 with h0 | h0
  · have d1 : decide (most < 0) = true := by simp; omega
    go_enter Try.func9, Try.ntmps9
    go_wp2_with (fail)
    go_ret2
    exact ⟨rfl, rfl⟩
  · have d1 : decide (most < 0) = false := by simp; omega
    have d2 : decide (most > 2000) = true := by simp; omega
    go_enter Try.func9, Try.ntmps9
    go_wp2_with (fail)
    go_ret2
    exact ⟨rfl, rfl⟩
theorem cell_sn {W : World} {g : Nat} {t : TypeId} {s : Sr} (h : s.ok) (hr : W.heap[g]? = some (.cells (srow s) t (0, 0))) : W.cell? ⟨g, 32, none⟩ = some (.int .u32 s.n) := by
  rw [cell_of_row W g 32 _ _ _ hr, srow_n h]
set_option maxRecDepth 100000 in
set_option maxHeartbeats 4000000 in
theorem a_labelOf (s : Sr) (hs : s.ok) (w : World) : Calls Try.prog 48 #[.agg (srow s)] w fun e w' => e = .returned (.agg (chc s.h s.n)) ∧ Below w.heap.size w w' := by
  have R0 := hp2_0 w (.cells (srow s) 60) (.cells (chc (zr 32) 0) 86)
  have R1 := hp2_1 w (.cells (srow s) 60) (.cells (chc (zr 32) 0) 86)
  have hw : Below w.heap.size w ((w.alloc (.cells (srow s) 60)).alloc (.cells (chc (zr 32) 0) 86)) := ((Below.refl _ _).alloc (Nat.le_refl _) _).alloc (by simp) _
  have hb := builtL s.h hs.1 s.n
  have c0 := cell_sn hs R0
  go_enter Try.func48, Try.ntmps48
  go_wp2_with (first | (refine wpList_box rfl 60 _ rfl _ rfl (bSp _) ?_) | (refine wpList_alloc rfl 86 rfl (chc (zr 32) 0) zlb ?_) | (refine wpList_load_part rfl 40 _ rfl (w.heap.size) 0 rfl 60 (srow s) (0, 0) (irow .u8 s.h) _ R0 (srow_h hs) Try.underlying40 rfl (infok8 _ hs.1) ?_) | (refine wpList_build_as rfl 86 _ rfl [(0, .agg (irow .u8 s.h)), (1, .int .u32 s.n)] rfl (chc s.h s.n) hb ?_) | (refine wpList_store_row rfl 86 _ _ rfl (w.heap.size + 1) (chc s.h s.n) rfl rfl 86 _ R1 (infoL _ hs.1 _) (by rw [chc_size _ (zr_len 32), chc_size _ hs.1]) (chc_one _ _) ?_) | fail)
  exact bodyPost_ret (results_cell_row Try.results48 _ _ (w.heap.size + 1) _ _ _ _ rfl (setRow_heap _ (w.heap.size + 1) _ (chc s.h s.n) _ _ R1) Try.underlying86 rfl (infoL _ hs.1 _)) rfl ⟨rfl, below_setRow hw (Nat.le_succ _) (chc s.h s.n)⟩
theorem Sto.c0 {W : World} {base g b : Nat} {v : Value} {most : Int} {l : List Sr} (h : Sto W base g b v most l) : W.cell? ⟨g, 0, none⟩ = some (.int .i64 most) := by rw [cell_of_row W g 0 _ _ _ h.row]; rfl
theorem Sto.c1 {W : World} {base g b : Nat} {v : Value} {most : Int} {l : List Sr} (h : Sto W base g b v most l) : W.cell? ⟨g, 1, none⟩ = some v := by rw [cell_of_row W g 1 _ _ _ h.row]; rfl
theorem Sto.c2 {W : World} {base g b : Nat} {v : Value} {most : Int} {l : List Sr} (h : Sto W base g b v most l) : W.cell? ⟨g, 2, none⟩ = some (.map (some b)) := by rw [cell_of_row W g 2 _ _ _ h.row]; rfl
set_option maxRecDepth 100000 in
set_option maxHeartbeats 4000000 in
theorem a_Len (base g b : Nat) (v : Value) (most : Int) (l : List Sr) (w : World) (hS : Sto w base g b v most l) : Calls Try.prog 18 #[.pointer (some ⟨g, 0, none⟩)] w fun e w' => e = .returned (.int .i64 l.length) ∧ w' = w := by
  obtain ⟨ao, cap, rfl⟩ := slen_own hS.own
  have c1 := hS.c1
  go_enter Try.func18, Try.ntmps18
  go_wp2_with (fail)
  go_ret
  exact ⟨rfl, rfl⟩
set_option maxRecDepth 100000 in
set_option maxHeartbeats 4000000 in
theorem a_Room (base g b : Nat) (v : Value) (most : Int) (l : List Sr) (w : World) (hS : Sto w base g b v most l) : Calls Try.prog 28 #[.pointer (some ⟨g, 0, none⟩)] w fun e w' => e = .returned (.int .i64 (most - l.length)) ∧ Below w.heap.size w w' := by
  have hm := hS.most0
  have hl := hS.len
  have c0 : ∀ p : Regrown, (grow (redrawn w p.d) p.os).cell? ⟨g, 0, none⟩ = some (.int .i64 most) := fun p => cell_regrown hS.c0 p.d p.os
  have cL : ∀ p : Regrown, Calls Try.prog 18 #[.pointer (some ⟨g, 0, none⟩)] (grow (redrawn w p.d) p.os) fun e w'' => e = .returned (.int .i64 l.length) ∧ ∃ p : Regrown, w'' = grow (redrawn w p.d) p.os := fun p => (a_Len base g b v most l _ (hS.keep (below_regrown w p.d p.os))).mono (fun e w' h => ⟨h.1, p, h.2⟩)
  go_enter Try.func28, Try.ntmps28
  go_wp2_with (fail)
  refine wp_region_quiet_below (by kernel_rfl) (by kernel_rfl) ?_
  iterate 5 go_big_quiet_step (fail)
  go_big_quiet_step (exact cL ⟨_, _⟩)
  iterate 2 go_big_quiet_step (fail)
  refine wpQuiet_nil ?_
  rintro _ ⟨p, rfl⟩
  have hb := below_regrown w p.d p.os
  go_wp2_with (fail)
  go_ret
  exact ⟨by go_num, hb⟩

end Go.Proofs.Ytebgdenfaiinmaa
