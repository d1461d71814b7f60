import Derived.Test.YtjofbnilhkmpeaaDoorProg
import Derived.WalkKit
import Derived.WalkSpells
import Derived.WalkLawsBesides
import Derived.Lib.QuietBelow
import Derived.BigQuiet
import Derived.OrdersHeld
import Derived.Deep.RegionHeld3
import Derived.OwnWalk
import Derived.Test.YtjofbnilhkmpeaaDoorKa
import Derived.Test.YtjofbnilhkmpeaaDoorRtb
import Derived.Test.YtjofbnilhkmpeaaDoorCl
namespace Go.Proofs.YtjofbnilhkmpeaaDoor
set_option maxRecDepth 100000
open Go Go.RowKit Go.Sort Go.ChangeMaps Go.MapKept
attribute [local go_sem] setCell_drewN alloc_drewN

def kbl (m : Int) : List Int := [Lo.byt m 0, Lo.byt m 1, Lo.byt m 2, Lo.byt m 3, Lo.byt m 4, Lo.byt m 5, Lo.byt m 6, Lo.byt m 7, Lo.byt m 8, Lo.byt m 9, Lo.byt m 10, Lo.byt m 11, Lo.byt m 12, Lo.byt m 13, Lo.byt m 14, Lo.byt m 15, Lo.byt m 16, Lo.byt m 17, Lo.byt m 18, Lo.byt m 19, Lo.byt m 20, Lo.byt m 21, Lo.byt m 22, Lo.byt m 23, Lo.byt m 24, Lo.byt m 25, Lo.byt m 26, Lo.byt m 27, Lo.byt m 28, Lo.byt m 29, Lo.byt m 30, Lo.byt m 31]
theorem kbl_len (m : Int) : (kbl m).length = 32 := rfl
theorem kb_kbl (m : Int) : Lo.kb m = irow .u8 (kbl m) := rfl
def K8 (l : List Int) : Prop := l.length = 32 ∧ ∀ x ∈ l, 0 ≤ x ∧ x < 256
theorem keyOf {l : List Int} (h : K8 l) : Lo.KeyOf (irow .u8 l) (Lo.valB l) := by
  obtain ⟨h1, hb⟩ := h
  obtain ⟨x0, x1, x2, x3, x4, x5, x6, x7, x8, x9, x10, x11, x12, x13, x14, x15, x16, x17, x18, x19, x20, x21, x22, x23, x24, x25, x26, x27, x28, x29, x30, x31, rfl⟩ := len32 l h1
  exact ⟨x0, x1, x2, x3, x4, x5, x6, x7, x8, x9, x10, x11, x12, x13, x14, x15, x16, x17, x18, x19, x20, x21, x22, x23, x24, x25, x26, x27, x28, x29, x30, x31, rfl, ⟨hb x0 (by simp), hb x1 (by simp), hb x2 (by simp), hb x3 (by simp), hb x4 (by simp), hb x5 (by simp), hb x6 (by simp), hb x7 (by simp), hb x8 (by simp), hb x9 (by simp), hb x10 (by simp), hb x11 (by simp), hb x12 (by simp), hb x13 (by simp), hb x14 (by simp), hb x15 (by simp), hb x16 (by simp), hb x17 (by simp), hb x18 (by simp), hb x19 (by simp), hb x20 (by simp), hb x21 (by simp), hb x22 (by simp), hb x23 (by simp), hb x24 (by simp), hb x25 (by simp), hb x26 (by simp), hb x27 (by simp), hb x28 (by simp), hb x29 (by simp), hb x30 (by simp), hb x31 (by simp)⟩, rfl⟩
theorem kbl_K8 (m : Int) : K8 (kbl m) := by
  refine ⟨rfl, fun x hx => ?_⟩
  simp only [kbl, List.mem_cons, List.not_mem_nil, or_false] at hx
  rcases hx with rfl | rfl | rfl | rfl | rfl | rfl | rfl | rfl | rfl | rfl | rfl | rfl | rfl | rfl | rfl | rfl | rfl | rfl | rfl | rfl | rfl | rfl | rfl | rfl | rfl | rfl | rfl | rfl | rfl | rfl | rfl | rfl <;> (unfold Lo.byt; omega)
def clL (l : List Int) : List Int := kbl (Lo.clp (Lo.valB l))
def puL (l : List Int) : List Int := kbl (Lo.scl (Lo.valB l) 9)
/-- A pair as it is used. -/
def ipr (a b : List Int) : Bool := decide (a = clL a) && decide (b = puL a)
theorem c_clamp {l : List Int} (h : K8 l) : Lo.Gives 35 #[.agg (irow .u8 l)] (.agg (irow .u8 (clL l))) := Lo.a_clamp (keyOf h)
theorem d_clamp {l : List Int} (h : K8 l) : Lo.Gives 23 #[.agg (irow .u8 l)] (.agg (irow .u8 (clL l))) := Lo.r_clamp (keyOf h)
theorem c_public {l : List Int} (h : K8 l) : Lo.Gives4 36 #[.agg (irow .u8 l)] (.agg (irow .u8 (puL l))) := Lo.a_public (keyOf h)
theorem d_public {l : List Int} (h : K8 l) : Lo.Gives 24 #[.agg (irow .u8 l)] (.agg (irow .u8 (puL l))) := Lo.r_public (keyOf h)
theorem clL_len (l : List Int) : (clL l).length = 32 := rfl
theorem puL_len (l : List Int) : (puL l).length = 32 := rfl
set_option maxRecDepth 100000 in
set_option maxHeartbeats 4000000 in
theorem r_isPair {a b : List Int} (ha : K8 a) (hb : b.length = 32) (w : World) : Calls Tryd.prog 19 #[.agg (prow a b)] w fun e w' => e = .returned (.bool (ipr a b)) ∧ Below w.heap.size w w' := by
  unfold ipr
  have R0 := hp1_0 w (.cells (prow a b) 25)
  have hw : Below w.heap.size w (w.alloc (.cells (prow a b) 25)) := (Below.refl _ _).alloc (Nat.le_refl _) _
  have e1 := fun W => eq_k a (clL a) ha.1 (clL_len a) W
  have e2 := fun W => eq_k b (puL a) hb (puL_len a) W
  generalize decide (a = clL a) = d1 at *
  generalize decide (b = puL a) = d2 at *
  cases d1
  · go_enter Tryd.func19, Tryd.ntmps19
    go_wp2_with (first | (refine wpList_box rfl 25 _ rfl _ rfl (bPrA _) ?_) | fail)
    have H0 := keepr R0
    refine wp_region_quiet_below (by kernel_rfl) (by kernel_rfl) ?_
    go_big_quiet_step (fail)
    refine wpQuiet_load_part rfl 23 _ rfl (w.heap.size) 0 rfl 25 (prow a b) (0, 0) (irow .u8 a) _ H0.out (pr_a ha.1) Tryd.underlying23 rfl (infok8 _ ha.1) ?_
    simp only [Act.put, List.setIfInBounds_toArray, List.set_cons_succ, List.set_cons_zero]
    go_big_quiet_step (fail)
    refine wpQuiet_load_part rfl 23 _ rfl (w.heap.size) 0 rfl 25 (prow a b) (0, 0) (irow .u8 a) _ H0.out (pr_a ha.1) Tryd.underlying23 rfl (infok8 _ ha.1) ?_
    simp only [Act.put, List.setIfInBounds_toArray, List.set_cons_succ, List.set_cons_zero]
    go_big_quiet_step (exact (d_clamp ha).re)
    go_big_quiet_step (fail)
    go_big_quiet_step (fail)
    go_big_quiet_step (fail)
    go_big_quiet_step (fail)
    go_big_quiet_step (fail)
    go_big_quiet_step (fail)
    go_big_quiet_step (fail)
    go_big_quiet_step (fail)
    go_big_quiet_step (fail)
    go_big_quiet_step (fail)
    refine wpQuiet_nil ?_
    rintro _ ⟨p, rfl⟩
    have hb := below_regrown (w.alloc (.cells (prow a b) 25)) p.d p.os
    generalize grow (redrawn (w.alloc (.cells (prow a b) 25)) p.d) p.os = w2 at *
    replace hw := Below.after hw hb
    clear hb
    go_wp2_with (fail)
    go_ret
    exact ⟨rfl, hw⟩
  · go_enter Tryd.func19, Tryd.ntmps19
    go_wp2_with (first | (refine wpList_box rfl 25 _ rfl _ rfl (bPrA _) ?_) | fail)
    have H0 := keepr R0
    refine wp_region_quiet_below (by kernel_rfl) (by kernel_rfl) ?_
    go_big_quiet_step (fail)
    refine wpQuiet_load_part rfl 23 _ rfl (w.heap.size) 0 rfl 25 (prow a b) (0, 0) (irow .u8 a) _ H0.out (pr_a ha.1) Tryd.underlying23 rfl (infok8 _ ha.1) ?_
    simp only [Act.put, List.setIfInBounds_toArray, List.set_cons_succ, List.set_cons_zero]
    go_big_quiet_step (fail)
    refine wpQuiet_load_part rfl 23 _ rfl (w.heap.size) 0 rfl 25 (prow a b) (0, 0) (irow .u8 a) _ H0.out (pr_a ha.1) Tryd.underlying23 rfl (infok8 _ ha.1) ?_
    simp only [Act.put, List.setIfInBounds_toArray, List.set_cons_succ, List.set_cons_zero]
    go_big_quiet_step (exact (d_clamp ha).re)
    go_big_quiet_step (fail)
    go_big_quiet_step (fail)
    go_big_quiet_step (fail)
    refine wpQuiet_load_part rfl 23 _ rfl (w.heap.size) 32 rfl 25 (prow a b) (0, 0) (irow .u8 b) _ H0.out (pr_b ha.1 hb) Tryd.underlying23 rfl (infok8 _ hb) ?_
    simp only [Act.put, List.setIfInBounds_toArray, List.set_cons_succ, List.set_cons_zero]
    go_big_quiet_step (fail)
    refine wpQuiet_load_part rfl 23 _ rfl (w.heap.size) 0 rfl 25 (prow a b) (0, 0) (irow .u8 a) _ H0.out (pr_a ha.1) Tryd.underlying23 rfl (infok8 _ ha.1) ?_
    simp only [Act.put, List.setIfInBounds_toArray, List.set_cons_succ, List.set_cons_zero]
    go_big_quiet_step (exact (d_public ha).re)
    go_big_quiet_step (fail)
    go_big_quiet_step (fail)
    go_big_quiet_step (fail)
    refine wpQuiet_nil ?_
    rintro _ ⟨p, rfl⟩
    have hb := below_regrown (w.alloc (.cells (prow a b) 25)) p.d p.os
    generalize grow (redrawn (w.alloc (.cells (prow a b) 25)) p.d) p.os = w2 at *
    replace hw := Below.after hw hb
    clear hb
    go_wp2_with (fail)
    go_ret
    exact ⟨rfl, hw⟩
def ocb (s : Stt) : Bool := if s.ho = true then ipr s.opr s.opu else decide (s.opr = zr 32 ∧ s.opu = zr 32) && !s.hs && !s.hr
set_option maxRecDepth 100000 in
set_option maxHeartbeats 4000000 in
theorem a_own (s : Stt) (hs : s.ok) (ha : K8 s.opr) (w : World) (hF : Lo.Four w) : Calls Tryd.prog 30 #[.agg (strow s)] w fun e w' => e = .returned (.bool (ocb s)) ∧ Below w.heap.size w w' := by
  unfold ocb ipr
  have R0 := hp1_0 w (.cells (strow s) 38)
  have hw : Below w.heap.size w (w.alloc (.cells (strow s) 38)) := (Below.refl _ _).alloc (Nat.le_refl _) _
  have c_ho : World.cell? _ ⟨w.heap.size, 131, none⟩ = some (.bool s.ho) := (cell_of_row _ _ _ _ _ _ R0).trans (st_ho hs [])
  have c_hs : World.cell? _ ⟨w.heap.size, 232, none⟩ = some (.bool s.hs) := (cell_of_row _ _ _ _ _ _ R0).trans (st_hs hs [])
  have c_hr : World.cell? _ ⟨w.heap.size, 330, none⟩ = some (.bool s.hr) := (cell_of_row _ _ _ _ _ _ R0).trans (st_hr hs [])
  have e_p := fun W => eq_pair s.opr s.opu (zr 32) (zr 32) hs.opr hs.opu (zr_len 32) (zr_len 32) W
  generalize s.ho = b_ho at *
  generalize s.hs = b_hs at *
  generalize s.hr = b_hr at *
  generalize decide (s.opr = zr 32 ∧ s.opu = zr 32) = d_p at *
  have e1 := fun W => eq_k s.opr (clL s.opr) hs.opr (clL_len s.opr) W
  have e2 := fun W => eq_k s.opu (puL s.opr) hs.opu (puL_len s.opr) W
  generalize decide (s.opr = clL s.opr) = d1 at *
  generalize decide (s.opu = puL s.opr) = d2 at *
  cases b_ho
  · clear e1 e2
    cases d_p
    · go_enter Tryd.func30, Tryd.ntmps30
      go_wp2_with (first | (refine wpList_box rfl 38 _ rfl _ rfl (bStA _) ?_) | (refine wpList_load_part rfl 25 _ rfl (w.heap.size) 35 rfl 38 (strow s) (0, 0) (prow s.opr s.opu) _ R0 (st_own hs _) Tryd.underlying25 rfl (infoPr hs.opr hs.opu) ?_) | (refine wpList_build_want rfl 25 _ rfl [] rfl (prow (zr 32) (zr 32)) builtZp ?_) | fail)
      go_ret
      exact ⟨rfl, hw⟩
    · cases b_hs
      · cases b_hr
        · go_enter Tryd.func30, Tryd.ntmps30
          go_wp2_with (first | (refine wpList_box rfl 38 _ rfl _ rfl (bStA _) ?_) | (refine wpList_load_part rfl 25 _ rfl (w.heap.size) 35 rfl 38 (strow s) (0, 0) (prow s.opr s.opu) _ R0 (st_own hs _) Tryd.underlying25 rfl (infoPr hs.opr hs.opu) ?_) | (refine wpList_build_want rfl 25 _ rfl [] rfl (prow (zr 32) (zr 32)) builtZp ?_) | fail)
          go_ret
          exact ⟨rfl, hw⟩
        · go_enter Tryd.func30, Tryd.ntmps30
          go_wp2_with (first | (refine wpList_box rfl 38 _ rfl _ rfl (bStA _) ?_) | (refine wpList_load_part rfl 25 _ rfl (w.heap.size) 35 rfl 38 (strow s) (0, 0) (prow s.opr s.opu) _ R0 (st_own hs _) Tryd.underlying25 rfl (infoPr hs.opr hs.opu) ?_) | (refine wpList_build_want rfl 25 _ rfl [] rfl (prow (zr 32) (zr 32)) builtZp ?_) | fail)
          go_ret
          exact ⟨rfl, hw⟩
      · go_enter Tryd.func30, Tryd.ntmps30
        go_wp2_with (first | (refine wpList_box rfl 38 _ rfl _ rfl (bStA _) ?_) | (refine wpList_load_part rfl 25 _ rfl (w.heap.size) 35 rfl 38 (strow s) (0, 0) (prow s.opr s.opu) _ R0 (st_own hs _) Tryd.underlying25 rfl (infoPr hs.opr hs.opu) ?_) | (refine wpList_build_want rfl 25 _ rfl [] rfl (prow (zr 32) (zr 32)) builtZp ?_) | fail)
        go_ret
        exact ⟨rfl, hw⟩
  · clear e_p
    cases d1
    · go_enter Tryd.func30, Tryd.ntmps30
      go_wp2_with (first | (refine wpList_box rfl 38 _ rfl _ rfl (bStA _) ?_) | fail)
      have H0 := keepr R0
      refine wp_region_quiet_below (by kernel_rfl) (by kernel_rfl) ?_
      go_big_quiet_step (fail)
      go_big_quiet_step (fail)
      refine wpQuiet_load_part rfl 23 _ rfl (w.heap.size) 35 rfl 38 (strow s) (0, 0) (irow .u8 s.opr) _ H0.out (st_opr hs _) Tryd.underlying23 rfl (infok8 _ hs.opr) ?_
      simp only [Act.put, List.setIfInBounds_toArray, List.set_cons_succ, List.set_cons_zero]
      go_big_quiet_step (fail)
      go_big_quiet_step (fail)
      refine wpQuiet_load_part rfl 23 _ rfl (w.heap.size) 35 rfl 38 (strow s) (0, 0) (irow .u8 s.opr) _ H0.out (st_opr hs _) Tryd.underlying23 rfl (infok8 _ hs.opr) ?_
      simp only [Act.put, List.setIfInBounds_toArray, List.set_cons_succ, List.set_cons_zero]
      go_big_quiet_step (exact (c_clamp ha).re)
      go_big_quiet_step (fail)
      go_big_quiet_step (fail)
      go_big_quiet_step (fail)
      go_big_quiet_step (fail)
      go_big_quiet_step (fail)
      go_big_quiet_step (fail)
      go_big_quiet_step (fail)
      go_big_quiet_step (fail)
      go_big_quiet_step (fail)
      go_big_quiet_step (fail)
      go_big_quiet_step (fail)
      go_big_quiet_step (fail)
      refine wpQuiet_nil ?_
      rintro _ ⟨p, rfl⟩
      have hb := below_regrown (w.alloc (.cells (strow s) 38)) p.d p.os
      generalize grow (redrawn (w.alloc (.cells (strow s) 38)) p.d) p.os = w2 at *
      replace hw := Below.after hw hb
      clear hb
      go_wp2_with (fail)
      go_ret
      exact ⟨rfl, hw⟩
    · go_enter Tryd.func30, Tryd.ntmps30
      go_wp2_with (first | (refine wpList_box rfl 38 _ rfl _ rfl (bStA _) ?_) | fail)
      have H0 := keepr R0
      refine wp_region_quiet_below (by kernel_rfl) (by kernel_rfl) ?_
      go_big_quiet_step (fail)
      go_big_quiet_step (fail)
      refine wpQuiet_load_part rfl 23 _ rfl (w.heap.size) 35 rfl 38 (strow s) (0, 0) (irow .u8 s.opr) _ H0.out (st_opr hs _) Tryd.underlying23 rfl (infok8 _ hs.opr) ?_
      simp only [Act.put, List.setIfInBounds_toArray, List.set_cons_succ, List.set_cons_zero]
      go_big_quiet_step (fail)
      go_big_quiet_step (fail)
      refine wpQuiet_load_part rfl 23 _ rfl (w.heap.size) 35 rfl 38 (strow s) (0, 0) (irow .u8 s.opr) _ H0.out (st_opr hs _) Tryd.underlying23 rfl (infok8 _ hs.opr) ?_
      simp only [Act.put, List.setIfInBounds_toArray, List.set_cons_succ, List.set_cons_zero]
      go_big_quiet_step (exact (c_clamp ha).re)
      go_big_quiet_step (fail)
      go_big_quiet_step (fail)
      go_big_quiet_step (fail)
      go_big_quiet_step (fail)
      refine wpQuiet_load_part rfl 23 _ rfl (w.heap.size) 67 rfl 38 (strow s) (0, 0) (irow .u8 s.opu) _ H0.out (st_opu hs _) Tryd.underlying23 rfl (infok8 _ hs.opu) ?_
      simp only [Act.put, List.setIfInBounds_toArray, List.set_cons_succ, List.set_cons_zero]
      go_big_quiet_step (fail)
      go_big_quiet_step (fail)
      refine wpQuiet_load_part rfl 23 _ rfl (w.heap.size) 35 rfl 38 (strow s) (0, 0) (irow .u8 s.opr) _ H0.out (st_opr hs _) Tryd.underlying23 rfl (infok8 _ hs.opr) ?_
      simp only [Act.put, List.setIfInBounds_toArray, List.set_cons_succ, List.set_cons_zero]
      go_big_quiet_step (exact (c_public ha).re (hF.alloc _))
      go_big_quiet_step (fail)
      go_big_quiet_step (fail)
      go_big_quiet_step (fail)
      refine wpQuiet_nil ?_
      rintro _ ⟨p, rfl⟩
      have hb := below_regrown (w.alloc (.cells (strow s) 38)) p.d p.os
      generalize grow (redrawn (w.alloc (.cells (strow s) 38)) p.d) p.os = w2 at *
      replace hw := Below.after hw hb
      clear hb
      go_wp2_with (fail)
      go_ret
      exact ⟨rfl, hw⟩

end Go.Proofs.YtjofbnilhkmpeaaDoor
