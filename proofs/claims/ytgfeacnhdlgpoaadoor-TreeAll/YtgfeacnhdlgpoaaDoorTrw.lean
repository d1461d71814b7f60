import Derived.Test.YtgfeacnhdlgpoaaDoorProg
import Derived.WalkKit
import Derived.WalkSpells
import Derived.WalkLawsBesides
import Derived.Lib.QuietBelow
import Derived.BigQuiet
import Derived.OrdersHeld
import Derived.OwnWalk
import Derived.Deep.RegionHeld3
import Derived.Deep.Cut
import Derived.Deep.CutRange
import Derived.Test.YtgfeacnhdlgpoaaDoorTri
import Derived.Test.YtgfeacnhdlgpoaaDoorTrj
import Derived.Test.YtgfeacnhdlgpoaaDoorTrr
import Derived.Test.YtgfeacnhdlgpoaaDoorTrg
namespace Go.Proofs.YtgfeacnhdlgpoaaDoor
set_option maxRecDepth 100000
open Go Go.RowKit Go.Sort
attribute [local go_sem] setCell_drewN alloc_drewN
/-- A Grove's cells. -/
def gvrow (v : Value) (m n i : Int) : Array Value := #[v, .int .i64 m, .int .i64 n, .int .i64 i]
theorem keepc {w W : World} (hb : Below w.heap.size w W) {g j : Nat} {v : Value} (h : w.cell? ⟨g, j, none⟩ = some v) : W.cell? ⟨g, j, none⟩ = some v := by
  have hl : g < w.heap.size := by
    rcases Nat.lt_or_ge g w.heap.size with q | q
    · exact q
    · simp [World.cell?, Array.getElem?_eq_none q] at h
  exact (hb.cell (p := ⟨g, j, none⟩) hl).trans h
set_option maxRecDepth 100000 in
set_option maxHeartbeats 8000000 in
theorem complete_big (l : List (List Int)) (m n i : Int) (w : World) (vo : Option Addr) (vc : Nat) (hL : Ksl w (.slice vo l.length vc) l) (hbl : l.length ≤ 4398046510990) (hbig : 65536 < l.length) : Calls Tryd.prog 8 #[.agg (gvrow (.slice vo l.length vc) m n i)] w fun e w' => e = .returned (.bool true) ∧ Below w.heap.size w w' := by
  have db : decide ((l.length : Int) > 65536) = true := by simp; omega
  have dbn : decide (65536 < l.length) = true := by simp; omega
  have rp0 := hp1_0 w (.cells (gvrow (.slice vo l.length vc) m n i) 60)
  have hw : Below w.heap.size w (w.alloc (.cells (gvrow (.slice vo l.length vc) m n i) 60)) := ((Below.refl _ _).alloc (Nat.le_refl _) _)
  go_enter Tryd.func8, Tryd.ntmps8
  iterate 6 go_step
  generalize (w.alloc (.cells (gvrow (.slice vo l.length vc) m n i) 60)) = w0 at *
  go_wp2_with (fail)
  have k0 : w0.cell? ⟨w.heap.size, 0, none⟩ = some (.slice vo l.length vc) := cell_of rp0 rfl
  have k1 : w0.cell? ⟨w.heap.size, 1, none⟩ = some (.int .i64 m) := cell_of rp0 rfl
  have k2 : w0.cell? ⟨w.heap.size, 2, none⟩ = some (.int .i64 n) := cell_of rp0 rfl
  have k3 : w0.cell? ⟨w.heap.size, 3, none⟩ = some (.int .i64 i) := cell_of rp0 rfl
  have hb : Below w0.heap.size w0 w0.drew := below_drN (Below.refl _ _) 1
  replace rp0 := keep hb rp0
  replace k0 := keepc hb k0
  replace k1 := keepc hb k1
  replace k2 := keepc hb k2
  replace k3 := keepc hb k3
  replace hw := Below.after hw hb
  clear hb
  refine wp_region_noPanic ?_
  refine wp_region_held (S := fun W_ => W_.cell? ⟨w.heap.size, 0, none⟩ = some (.slice vo l.length vc) ∧ W_.cell? ⟨w.heap.size, 1, none⟩ = some (.int .i64 m) ∧ W_.cell? ⟨w.heap.size, 2, none⟩ = some (.int .i64 n) ∧ W_.cell? ⟨w.heap.size, 3, none⟩ = some (.int .i64 i)) (by kernel_rfl) ?_
  change wpAnyH _ _ _ _ _ _ _ _ (World.drew _)
  generalize w0.drew = wd9 at *
  refine wpAnyH_take (i := 0) (v := ?v10) rfl (by kernel_rfl) (by kernel_rfl) (by kernel_rfl) (fun _ _ _ h => h) (Or.inl ⟨by rfl, ?y10⟩) (⟨k0, k1, k2, k3⟩) ?r10
  case y10 =>
    intro w_ hS_
    go_simp
    try with_reducible rfl
  simp only [Act.put, List.getElem_toArray, List.getElem_cons_zero, List.setIfInBounds_toArray, List.set_cons_succ, List.set_cons_zero]
  refine wpAnyH_take (i := 1) (v := .slice vo l.length vc) rfl (by kernel_rfl) (by kernel_rfl) (by kernel_rfl) (fun _ _ _ h => h) (Or.inl ⟨by rfl, ?y11⟩) (⟨k0, k1, k2, k3⟩) ?r11
  case y11 =>
    intro w_ hS_
    obtain ⟨q0, q1, q2, q3⟩ := hS_
    go_simp
    try with_reducible rfl
  simp only [Act.put, List.getElem_toArray, List.getElem_cons_succ, List.getElem_cons_zero, List.setIfInBounds_toArray, List.set_cons_succ, List.set_cons_zero]
  refine wpAnyH_take (i := 2) (v := ?v12) rfl (by kernel_rfl) (by kernel_rfl) (by kernel_rfl) (fun _ _ _ h => h) (Or.inl ⟨by rfl, ?y12⟩) (⟨k0, k1, k2, k3⟩) ?r12
  case y12 =>
    intro w_ hS_
    go_simp
    try with_reducible rfl
  simp only [Act.put, List.getElem_toArray, List.getElem_cons_succ, List.getElem_cons_zero, List.setIfInBounds_toArray, List.set_cons_succ, List.set_cons_zero]
  refine wpAnyH_take (i := 3) (v := .int .i64 m) rfl (by kernel_rfl) (by kernel_rfl) (by kernel_rfl) (fun _ _ _ h => h) (Or.inl ⟨by rfl, ?y13⟩) (⟨k0, k1, k2, k3⟩) ?r13
  case y13 =>
    intro w_ hS_
    obtain ⟨q0, q1, q2, q3⟩ := hS_
    go_simp
    try with_reducible rfl
  simp only [Act.put, List.getElem_toArray, List.getElem_cons_succ, List.getElem_cons_zero, List.setIfInBounds_toArray, List.set_cons_succ, List.set_cons_zero]
  refine wpAnyH_take (i := 4) (v := ?v14) rfl (by kernel_rfl) (by kernel_rfl) (by kernel_rfl) (fun _ _ _ h => h) (Or.inl ⟨by rfl, ?y14⟩) (⟨k0, k1, k2, k3⟩) ?r14
  case y14 =>
    intro w_ hS_
    go_simp
    try with_reducible rfl
  simp only [Act.put, List.getElem_toArray, List.getElem_cons_succ, List.getElem_cons_zero, List.setIfInBounds_toArray, List.set_cons_succ, List.set_cons_zero]
  refine wpAnyH_take (i := 5) (v := .int .i64 n) rfl (by kernel_rfl) (by kernel_rfl) (by kernel_rfl) (fun _ _ _ h => h) (Or.inl ⟨by rfl, ?y15⟩) (⟨k0, k1, k2, k3⟩) ?r15
  case y15 =>
    intro w_ hS_
    obtain ⟨q0, q1, q2, q3⟩ := hS_
    go_simp
    try with_reducible rfl
  simp only [Act.put, List.getElem_toArray, List.getElem_cons_succ, List.getElem_cons_zero, List.setIfInBounds_toArray, List.set_cons_succ, List.set_cons_zero]
  refine wpAnyH_take (i := 6) (v := ?v16) rfl (by kernel_rfl) (by kernel_rfl) (by kernel_rfl) (fun _ _ _ h => h) (Or.inl ⟨by rfl, ?y16⟩) (⟨k0, k1, k2, k3⟩) ?r16
  case y16 =>
    intro w_ hS_
    go_simp
    try with_reducible rfl
  simp only [Act.put, List.getElem_toArray, List.getElem_cons_succ, List.getElem_cons_zero, List.setIfInBounds_toArray, List.set_cons_succ, List.set_cons_zero]
  refine wpAnyH_take (i := 7) (v := .int .i64 i) rfl (by kernel_rfl) (by kernel_rfl) (by kernel_rfl) (fun _ _ _ h => h) (Or.inl ⟨by rfl, ?y17⟩) (⟨k0, k1, k2, k3⟩) ?r17
  case y17 =>
    intro w_ hS_
    obtain ⟨q0, q1, q2, q3⟩ := hS_
    go_simp
    try with_reducible rfl
  simp only [Act.put, List.getElem_toArray, List.getElem_cons_succ, List.getElem_cons_zero, List.setIfInBounds_toArray, List.set_cons_succ, List.set_cons_zero]
  refine wpAnyH_take (i := 8) (v := ?v18) rfl (by kernel_rfl) (by kernel_rfl) (by kernel_rfl) (fun _ _ _ h => h) (Or.inl ⟨by rfl, ?y18⟩) (⟨k0, k1, k2, k3⟩) ?r18
  case y18 =>
    intro w_ hS_
    go_simp
    try with_reducible rfl
  simp only [Act.put, List.getElem_toArray, List.getElem_cons_succ, List.getElem_cons_zero, List.setIfInBounds_toArray, List.set_cons_succ, List.set_cons_zero]
  refine wpAnyH_take (i := 9) (v := ?v19) rfl (by kernel_rfl) (by kernel_rfl) (by kernel_rfl) (fun _ _ _ h => h) (Or.inl ⟨by rfl, ?y19⟩) (⟨k0, k1, k2, k3⟩) ?r19
  case y19 =>
    intro w_ hS_
    go_simp
    try with_reducible rfl
  simp only [Act.put, List.getElem_toArray, List.getElem_cons_succ, List.getElem_cons_zero, List.setIfInBounds_toArray, List.set_cons_succ, List.set_cons_zero]
  refine wpAnyH_take (i := 10) (v := ?v20) rfl (by kernel_rfl) (by kernel_rfl) (by kernel_rfl) (fun _ _ _ h => h) (Or.inl ⟨by rfl, ?y20⟩) (⟨k0, k1, k2, k3⟩) ?r20
  case y20 =>
    intro w_ hS_
    go_simp
    try with_reducible rfl
  simp only [Act.put, List.getElem_toArray, List.getElem_cons_succ, List.getElem_cons_zero, List.setIfInBounds_toArray, List.set_cons_succ, List.set_cons_zero]
  refine wpAnyH_take (i := 11) (v := ?v21) rfl (by kernel_rfl) (by kernel_rfl) (by kernel_rfl) (fun _ _ _ h => h) (Or.inl ⟨by rfl, ?y21⟩) (⟨k0, k1, k2, k3⟩) ?r21
  case y21 =>
    intro w_ hS_
    go_simp
    try with_reducible rfl
  simp only [Act.put, List.getElem_toArray, List.getElem_cons_succ, List.getElem_cons_zero, List.setIfInBounds_toArray, List.set_cons_succ, List.set_cons_zero]
  refine wpAnyH_done (by kernel_rfl) ?_ _
  refine NoPanic.normal ?_
  clear k0 k1 k2 k3
  have hO : OwnK (wd9.alloc (.cells #[] 24)) wd9.heap.size (.slice (some ⟨wd9.heap.size, 0, none⟩) 0 0) [] := OwnK.empty wd9 (Nat.le_refl _)
  have hs1 := hw.size
  have hb1 : Below wd9.heap.size wd9 (wd9.alloc (.cells #[] 24)) := (Below.refl _ _).alloc (Nat.le_refl _) _
  go_wp2_with (at_builtin; refine wpList_append_Ks rfl (.tmp 26) (.tmp 27) rfl wd9.heap.size _ [] rfl hO _ l rfl (hL.keep (Below.after hw hb1)) (by simp only [List.length_nil]; omega) hb1.size ?_)
  intro vc_ wc_ hC hgr _
  have hb : Below wd9.heap.size wd9 wc_ := hb1.grown hgr hb1.size (fun k e => (hO.lt k e).1)
  clear hO hgr hb1
  replace rp0 := keep hb rp0
  replace hw := Below.after hw hb
  clear hb
  replace hC : OwnK wc_ wd9.heap.size vc_ l := hC
  replace hC := hC.ksl hL.ok (by omega)
  obtain ⟨co, cc, ec, _, _⟩ := hC.slc
  subst ec
  go_wp2_with (fail)
  refine (a_From_no l _ _ hC hbig).mono ?_
  rintro e_ w3 ⟨rfl, hb⟩
  replace rp0 := keep hb rp0
  replace hw := Below.after hw hb
  clear hb
  go_wp2_with (fail)
  go_ret
  exact ⟨rfl, hw⟩
set_option maxRecDepth 100000 in
set_option maxHeartbeats 8000000 in
theorem complete_out (l : List (List Int)) (m n i : Int) (w : World) (vo : Option Addr) (vc : Nat) (hL : Ksl w (.slice vo l.length vc) l) (hle : l.length ≤ 65536) (hno : m < 0 ∨ (¬ m < 0 ∧ n < m) ∨ (¬ m < 0 ∧ ¬ n < m ∧ (l.length : Int) < n)) : Calls Tryd.prog 8 #[.agg (gvrow (.slice vo l.length vc) m n i)] w fun e w' => e = .returned (.bool true) ∧ Below w.heap.size w w' := by
  have db : decide ((l.length : Int) > 65536) = false := by simp; omega
  have dbn : decide (65536 < l.length) = false := by simp; omega
  have rp0 := hp1_0 w (.cells (gvrow (.slice vo l.length vc) m n i) 60)
  have hw : Below w.heap.size w (w.alloc (.cells (gvrow (.slice vo l.length vc) m n i) 60)) := ((Below.refl _ _).alloc (Nat.le_refl _) _)
  go_enter Tryd.func8, Tryd.ntmps8
  iterate 6 go_step
  generalize (w.alloc (.cells (gvrow (.slice vo l.length vc) m n i) 60)) = w0 at *
  go_wp2_with (fail)
  have k0 : w0.cell? ⟨w.heap.size, 0, none⟩ = some (.slice vo l.length vc) := cell_of rp0 rfl
  have k1 : w0.cell? ⟨w.heap.size, 1, none⟩ = some (.int .i64 m) := cell_of rp0 rfl
  have k2 : w0.cell? ⟨w.heap.size, 2, none⟩ = some (.int .i64 n) := cell_of rp0 rfl
  have k3 : w0.cell? ⟨w.heap.size, 3, none⟩ = some (.int .i64 i) := cell_of rp0 rfl
  have hb : Below w0.heap.size w0 w0.drew := below_drN (Below.refl _ _) 1
  replace rp0 := keep hb rp0
  replace k0 := keepc hb k0
  replace k1 := keepc hb k1
  replace k2 := keepc hb k2
  replace k3 := keepc hb k3
  replace hw := Below.after hw hb
  clear hb
  refine wp_region_noPanic ?_
  refine wp_region_held (S := fun W_ => W_.cell? ⟨w.heap.size, 0, none⟩ = some (.slice vo l.length vc) ∧ W_.cell? ⟨w.heap.size, 1, none⟩ = some (.int .i64 m) ∧ W_.cell? ⟨w.heap.size, 2, none⟩ = some (.int .i64 n) ∧ W_.cell? ⟨w.heap.size, 3, none⟩ = some (.int .i64 i)) (by kernel_rfl) ?_
  change wpAnyH _ _ _ _ _ _ _ _ (World.drew _)
  generalize w0.drew = wd22 at *
  refine wpAnyH_take (i := 0) (v := ?v23) rfl (by kernel_rfl) (by kernel_rfl) (by kernel_rfl) (fun _ _ _ h => h) (Or.inl ⟨by rfl, ?y23⟩) (⟨k0, k1, k2, k3⟩) ?r23
  case y23 =>
    intro w_ hS_
    go_simp
    try with_reducible rfl
  simp only [Act.put, List.getElem_toArray, List.getElem_cons_zero, List.setIfInBounds_toArray, List.set_cons_succ, List.set_cons_zero]
  refine wpAnyH_take (i := 1) (v := .slice vo l.length vc) rfl (by kernel_rfl) (by kernel_rfl) (by kernel_rfl) (fun _ _ _ h => h) (Or.inl ⟨by rfl, ?y24⟩) (⟨k0, k1, k2, k3⟩) ?r24
  case y24 =>
    intro w_ hS_
    obtain ⟨q0, q1, q2, q3⟩ := hS_
    go_simp
    try with_reducible rfl
  simp only [Act.put, List.getElem_toArray, List.getElem_cons_succ, List.getElem_cons_zero, List.setIfInBounds_toArray, List.set_cons_succ, List.set_cons_zero]
  refine wpAnyH_take (i := 2) (v := ?v25) rfl (by kernel_rfl) (by kernel_rfl) (by kernel_rfl) (fun _ _ _ h => h) (Or.inl ⟨by rfl, ?y25⟩) (⟨k0, k1, k2, k3⟩) ?r25
  case y25 =>
    intro w_ hS_
    go_simp
    try with_reducible rfl
  simp only [Act.put, List.getElem_toArray, List.getElem_cons_succ, List.getElem_cons_zero, List.setIfInBounds_toArray, List.set_cons_succ, List.set_cons_zero]
  refine wpAnyH_take (i := 3) (v := .int .i64 m) rfl (by kernel_rfl) (by kernel_rfl) (by kernel_rfl) (fun _ _ _ h => h) (Or.inl ⟨by rfl, ?y26⟩) (⟨k0, k1, k2, k3⟩) ?r26
  case y26 =>
    intro w_ hS_
    obtain ⟨q0, q1, q2, q3⟩ := hS_
    go_simp
    try with_reducible rfl
  simp only [Act.put, List.getElem_toArray, List.getElem_cons_succ, List.getElem_cons_zero, List.setIfInBounds_toArray, List.set_cons_succ, List.set_cons_zero]
  refine wpAnyH_take (i := 4) (v := ?v27) rfl (by kernel_rfl) (by kernel_rfl) (by kernel_rfl) (fun _ _ _ h => h) (Or.inl ⟨by rfl, ?y27⟩) (⟨k0, k1, k2, k3⟩) ?r27
  case y27 =>
    intro w_ hS_
    go_simp
    try with_reducible rfl
  simp only [Act.put, List.getElem_toArray, List.getElem_cons_succ, List.getElem_cons_zero, List.setIfInBounds_toArray, List.set_cons_succ, List.set_cons_zero]
  refine wpAnyH_take (i := 5) (v := .int .i64 n) rfl (by kernel_rfl) (by kernel_rfl) (by kernel_rfl) (fun _ _ _ h => h) (Or.inl ⟨by rfl, ?y28⟩) (⟨k0, k1, k2, k3⟩) ?r28
  case y28 =>
    intro w_ hS_
    obtain ⟨q0, q1, q2, q3⟩ := hS_
    go_simp
    try with_reducible rfl
  simp only [Act.put, List.getElem_toArray, List.getElem_cons_succ, List.getElem_cons_zero, List.setIfInBounds_toArray, List.set_cons_succ, List.set_cons_zero]
  refine wpAnyH_take (i := 6) (v := ?v29) rfl (by kernel_rfl) (by kernel_rfl) (by kernel_rfl) (fun _ _ _ h => h) (Or.inl ⟨by rfl, ?y29⟩) (⟨k0, k1, k2, k3⟩) ?r29
  case y29 =>
    intro w_ hS_
    go_simp
    try with_reducible rfl
  simp only [Act.put, List.getElem_toArray, List.getElem_cons_succ, List.getElem_cons_zero, List.setIfInBounds_toArray, List.set_cons_succ, List.set_cons_zero]
  refine wpAnyH_take (i := 7) (v := .int .i64 i) rfl (by kernel_rfl) (by kernel_rfl) (by kernel_rfl) (fun _ _ _ h => h) (Or.inl ⟨by rfl, ?y30⟩) (⟨k0, k1, k2, k3⟩) ?r30
  case y30 =>
    intro w_ hS_
    obtain ⟨q0, q1, q2, q3⟩ := hS_
    go_simp
    try with_reducible rfl
  simp only [Act.put, List.getElem_toArray, List.getElem_cons_succ, List.getElem_cons_zero, List.setIfInBounds_toArray, List.set_cons_succ, List.set_cons_zero]
  refine wpAnyH_take (i := 8) (v := ?v31) rfl (by kernel_rfl) (by kernel_rfl) (by kernel_rfl) (fun _ _ _ h => h) (Or.inl ⟨by rfl, ?y31⟩) (⟨k0, k1, k2, k3⟩) ?r31
  case y31 =>
    intro w_ hS_
    go_simp
    try with_reducible rfl
  simp only [Act.put, List.getElem_toArray, List.getElem_cons_succ, List.getElem_cons_zero, List.setIfInBounds_toArray, List.set_cons_succ, List.set_cons_zero]
  refine wpAnyH_take (i := 9) (v := ?v32) rfl (by kernel_rfl) (by kernel_rfl) (by kernel_rfl) (fun _ _ _ h => h) (Or.inl ⟨by rfl, ?y32⟩) (⟨k0, k1, k2, k3⟩) ?r32
  case y32 =>
    intro w_ hS_
    go_simp
    try with_reducible rfl
  simp only [Act.put, List.getElem_toArray, List.getElem_cons_succ, List.getElem_cons_zero, List.setIfInBounds_toArray, List.set_cons_succ, List.set_cons_zero]
  refine wpAnyH_take (i := 10) (v := ?v33) rfl (by kernel_rfl) (by kernel_rfl) (by kernel_rfl) (fun _ _ _ h => h) (Or.inl ⟨by rfl, ?y33⟩) (⟨k0, k1, k2, k3⟩) ?r33
  case y33 =>
    intro w_ hS_
    go_simp
    try with_reducible rfl
  simp only [Act.put, List.getElem_toArray, List.getElem_cons_succ, List.getElem_cons_zero, List.setIfInBounds_toArray, List.set_cons_succ, List.set_cons_zero]
  refine wpAnyH_take (i := 11) (v := ?v34) rfl (by kernel_rfl) (by kernel_rfl) (by kernel_rfl) (fun _ _ _ h => h) (Or.inl ⟨by rfl, ?y34⟩) (⟨k0, k1, k2, k3⟩) ?r34
  case y34 =>
    intro w_ hS_
    go_simp
    try with_reducible rfl
  simp only [Act.put, List.getElem_toArray, List.getElem_cons_succ, List.getElem_cons_zero, List.setIfInBounds_toArray, List.set_cons_succ, List.set_cons_zero]
  refine wpAnyH_done (by kernel_rfl) ?_ _
  refine NoPanic.normal ?_
  clear k0 k1 k2 k3
  have hO : OwnK (wd22.alloc (.cells #[] 24)) wd22.heap.size (.slice (some ⟨wd22.heap.size, 0, none⟩) 0 0) [] := OwnK.empty wd22 (Nat.le_refl _)
  have hs1 := hw.size
  have hb1 : Below wd22.heap.size wd22 (wd22.alloc (.cells #[] 24)) := (Below.refl _ _).alloc (Nat.le_refl _) _
  go_wp2_with (at_builtin; refine wpList_append_Ks rfl (.tmp 26) (.tmp 27) rfl wd22.heap.size _ [] rfl hO _ l rfl (hL.keep (Below.after hw hb1)) (by simp only [List.length_nil]; omega) hb1.size ?_)
  intro vc_ wc_ hC hgr _
  have hb : Below wd22.heap.size wd22 wc_ := hb1.grown hgr hb1.size (fun k e => (hO.lt k e).1)
  clear hO hgr hb1
  replace rp0 := keep hb rp0
  replace hw := Below.after hw hb
  clear hb
  replace hC : OwnK wc_ wd22.heap.size vc_ l := hC
  replace hC := hC.ksl hL.ok (by omega)
  obtain ⟨co, cc, ec, _, _⟩ := hC.slc
  subst ec
  go_wp2_with (fail)
  refine (a_From l _ _ hC hle).mono ?_
  rintro e_ w3 ⟨_, g, rfl, lv, rfl, hG, hb⟩
  clear hC
  replace rp0 := keep hb rp0
  replace hw := Below.after hw hb
  clear hb
  clear hG
  rcases hno with h | ⟨h, h1⟩ | ⟨h, h0, h1⟩
  · skip
    have d0 : decide (m < 0) = true := by simp; omega
    go_wp2_with (fail)
    go_ret
    exact ⟨rfl, hw⟩
  · skip
    have d0 : decide (m < 0) = false := by simp; omega
    have d1 : decide (m > n) = true := by simp; omega
    go_wp2_with (fail)
    go_ret
    exact ⟨rfl, hw⟩
  · skip
    have d0 : decide (m < 0) = false := by simp; omega
    have d1 : decide (m > n) = false := by simp; omega
    have d2 : decide (n > (l.length : Int)) = true := by simp; omega
    go_wp2_with (fail)
    go_ret
    exact ⟨rfl, hw⟩
set_option maxRecDepth 100000 in
set_option maxHeartbeats 8000000 in
theorem complete_beside (l : List (List Int)) (M N : Nat) (i : Int) (w : World) (vo : Option Addr) (vc : Nat) (hL : Ksl w (.slice vo l.length vc) l) (hle : l.length ≤ 65536) (hMN : M ≤ N) (hN : N ≤ l.length) (hz : vo = none → vc = 0) (hvc : l.length ≤ vc) {R1 R2 : List Int} {P : List (List Int)} (h1 : R1.length = 32) (h2 : R2.length = 32) (hPo : Kok P) (hPl : P.length ≤ 17) (hS : Sta w) (hK : Kon w) (cR1 : (∀ W b g u, Sta W → Kon W → LogS W b g u l → Calls Tryd.prog 33 #[.pointer (some ⟨g, 0, none⟩), .int .i64 (M : Int)] W fun e w' => e = .returned (.tuple #[.agg (irow .u8 R1), .int .i64 0]) ∧ Below W.heap.size W w')) (cR2 : (∀ W b g u, Sta W → Kon W → LogS W b g u l → Calls Tryd.prog 33 #[.pointer (some ⟨g, 0, none⟩), .int .i64 (N : Int)] W fun e w' => e = .returned (.tuple #[.agg (irow .u8 R2), .int .i64 0]) ∧ Below W.heap.size W w')) (cGr : (∀ W b g u, Sta W → Kon W → LogS W b g u l → Calls Tryd.prog 34 #[.pointer (some ⟨g, 0, none⟩), .int .i64 (M : Int), .int .i64 (N : Int)] W fun e w' => ∃ v', e = .returned (.tuple #[v', .int .i64 0]) ∧ OwnK w' W.heap.size v' P ∧ Below W.heap.size W w')) (cGw : ∀ W, Sta W → Kon W → ∀ {u : Value}, Ksl W u P → Calls Tryd.prog 31 #[.agg (irow .u8 R1), .int .i64 (M : Int), .agg (irow .u8 R2), .int .i64 (N : Int), u] W fun e w' => e = .returned (.int .i64 0) ∧ Below W.heap.size W w') (cRt : ∀ W, Below w.heap.size w W → Calls Tryd.prog 18 #[.slice vo N vc] W fun e w' => e = .returned (.agg (irow .u8 R2)) ∧ Below W.heap.size W w') (hi : i < 0 ∨ (¬ i < 0 ∧ (N : Int) ≤ i)) : Calls Tryd.prog 8 #[.agg (gvrow (.slice vo l.length vc) (M : Int) (N : Int) i)] w fun e w' => e = .returned (.bool true) ∧ Below w.heap.size w w' := by
  have db : decide ((l.length : Int) > 65536) = false := by simp; omega
  have dbn : decide (65536 < l.length) = false := by simp; omega
  have e2 := eqKs R2 h2
  have d0 : decide ((M : Int) < 0) = false := by simp
  have d1 : decide ((M : Int) > (N : Int)) = false := by simp; omega
  have d2 : decide ((N : Int) > (l.length : Int)) = false := by simp; omega
  have d3 : decide ((P.length : Int) > 17) = false := by simp; omega
  have d4 : decide (17 < P.length) = false := by simp; omega
  have rp0 := hp1_0 w (.cells (gvrow (.slice vo l.length vc) (M : Int) (N : Int) i) 60)
  have hw : Below w.heap.size w (w.alloc (.cells (gvrow (.slice vo l.length vc) (M : Int) (N : Int) i) 60)) := ((Below.refl _ _).alloc (Nat.le_refl _) _)
  go_enter Tryd.func8, Tryd.ntmps8
  iterate 6 go_step
  generalize (w.alloc (.cells (gvrow (.slice vo l.length vc) (M : Int) (N : Int) i) 60)) = w0 at *
  go_wp2_with (fail)
  have k0 : w0.cell? ⟨w.heap.size, 0, none⟩ = some (.slice vo l.length vc) := cell_of rp0 rfl
  have k1 : w0.cell? ⟨w.heap.size, 1, none⟩ = some (.int .i64 (M : Int)) := cell_of rp0 rfl
  have k2 : w0.cell? ⟨w.heap.size, 2, none⟩ = some (.int .i64 (N : Int)) := cell_of rp0 rfl
  have k3 : w0.cell? ⟨w.heap.size, 3, none⟩ = some (.int .i64 i) := cell_of rp0 rfl
  have hb : Below w0.heap.size w0 w0.drew := below_drN (Below.refl _ _) 1
  replace rp0 := keep hb rp0
  replace k0 := keepc hb k0
  replace k1 := keepc hb k1
  replace k2 := keepc hb k2
  replace k3 := keepc hb k3
  replace hw := Below.after hw hb
  clear hb
  refine wp_region_noPanic ?_
  refine wp_region_held (S := fun W_ => W_.cell? ⟨w.heap.size, 0, none⟩ = some (.slice vo l.length vc) ∧ W_.cell? ⟨w.heap.size, 1, none⟩ = some (.int .i64 (M : Int)) ∧ W_.cell? ⟨w.heap.size, 2, none⟩ = some (.int .i64 (N : Int)) ∧ W_.cell? ⟨w.heap.size, 3, none⟩ = some (.int .i64 i)) (by kernel_rfl) ?_
  change wpAnyH _ _ _ _ _ _ _ _ (World.drew _)
  generalize w0.drew = wd35 at *
  refine wpAnyH_take (i := 0) (v := ?v36) rfl (by kernel_rfl) (by kernel_rfl) (by kernel_rfl) (fun _ _ _ h => h) (Or.inl ⟨by rfl, ?y36⟩) (⟨k0, k1, k2, k3⟩) ?r36
  case y36 =>
    intro w_ hS_
    go_simp
    try with_reducible rfl
  simp only [Act.put, List.getElem_toArray, List.getElem_cons_zero, List.setIfInBounds_toArray, List.set_cons_succ, List.set_cons_zero]
  refine wpAnyH_take (i := 1) (v := .slice vo l.length vc) rfl (by kernel_rfl) (by kernel_rfl) (by kernel_rfl) (fun _ _ _ h => h) (Or.inl ⟨by rfl, ?y37⟩) (⟨k0, k1, k2, k3⟩) ?r37
  case y37 =>
    intro w_ hS_
    obtain ⟨q0, q1, q2, q3⟩ := hS_
    go_simp
    try with_reducible rfl
  simp only [Act.put, List.getElem_toArray, List.getElem_cons_succ, List.getElem_cons_zero, List.setIfInBounds_toArray, List.set_cons_succ, List.set_cons_zero]
  refine wpAnyH_take (i := 2) (v := ?v38) rfl (by kernel_rfl) (by kernel_rfl) (by kernel_rfl) (fun _ _ _ h => h) (Or.inl ⟨by rfl, ?y38⟩) (⟨k0, k1, k2, k3⟩) ?r38
  case y38 =>
    intro w_ hS_
    go_simp
    try with_reducible rfl
  simp only [Act.put, List.getElem_toArray, List.getElem_cons_succ, List.getElem_cons_zero, List.setIfInBounds_toArray, List.set_cons_succ, List.set_cons_zero]
  refine wpAnyH_take (i := 3) (v := .int .i64 (M : Int)) rfl (by kernel_rfl) (by kernel_rfl) (by kernel_rfl) (fun _ _ _ h => h) (Or.inl ⟨by rfl, ?y39⟩) (⟨k0, k1, k2, k3⟩) ?r39
  case y39 =>
    intro w_ hS_
    obtain ⟨q0, q1, q2, q3⟩ := hS_
    go_simp
    try with_reducible rfl
  simp only [Act.put, List.getElem_toArray, List.getElem_cons_succ, List.getElem_cons_zero, List.setIfInBounds_toArray, List.set_cons_succ, List.set_cons_zero]
  refine wpAnyH_take (i := 4) (v := ?v40) rfl (by kernel_rfl) (by kernel_rfl) (by kernel_rfl) (fun _ _ _ h => h) (Or.inl ⟨by rfl, ?y40⟩) (⟨k0, k1, k2, k3⟩) ?r40
  case y40 =>
    intro w_ hS_
    go_simp
    try with_reducible rfl
  simp only [Act.put, List.getElem_toArray, List.getElem_cons_succ, List.getElem_cons_zero, List.setIfInBounds_toArray, List.set_cons_succ, List.set_cons_zero]
  refine wpAnyH_take (i := 5) (v := .int .i64 (N : Int)) rfl (by kernel_rfl) (by kernel_rfl) (by kernel_rfl) (fun _ _ _ h => h) (Or.inl ⟨by rfl, ?y41⟩) (⟨k0, k1, k2, k3⟩) ?r41
  case y41 =>
    intro w_ hS_
    obtain ⟨q0, q1, q2, q3⟩ := hS_
    go_simp
    try with_reducible rfl
  simp only [Act.put, List.getElem_toArray, List.getElem_cons_succ, List.getElem_cons_zero, List.setIfInBounds_toArray, List.set_cons_succ, List.set_cons_zero]
  refine wpAnyH_take (i := 6) (v := ?v42) rfl (by kernel_rfl) (by kernel_rfl) (by kernel_rfl) (fun _ _ _ h => h) (Or.inl ⟨by rfl, ?y42⟩) (⟨k0, k1, k2, k3⟩) ?r42
  case y42 =>
    intro w_ hS_
    go_simp
    try with_reducible rfl
  simp only [Act.put, List.getElem_toArray, List.getElem_cons_succ, List.getElem_cons_zero, List.setIfInBounds_toArray, List.set_cons_succ, List.set_cons_zero]
  refine wpAnyH_take (i := 7) (v := .int .i64 i) rfl (by kernel_rfl) (by kernel_rfl) (by kernel_rfl) (fun _ _ _ h => h) (Or.inl ⟨by rfl, ?y43⟩) (⟨k0, k1, k2, k3⟩) ?r43
  case y43 =>
    intro w_ hS_
    obtain ⟨q0, q1, q2, q3⟩ := hS_
    go_simp
    try with_reducible rfl
  simp only [Act.put, List.getElem_toArray, List.getElem_cons_succ, List.getElem_cons_zero, List.setIfInBounds_toArray, List.set_cons_succ, List.set_cons_zero]
  refine wpAnyH_take (i := 8) (v := ?v44) rfl (by kernel_rfl) (by kernel_rfl) (by kernel_rfl) (fun _ _ _ h => h) (Or.inl ⟨by rfl, ?y44⟩) (⟨k0, k1, k2, k3⟩) ?r44
  case y44 =>
    intro w_ hS_
    go_simp
    try with_reducible rfl
  simp only [Act.put, List.getElem_toArray, List.getElem_cons_succ, List.getElem_cons_zero, List.setIfInBounds_toArray, List.set_cons_succ, List.set_cons_zero]
  refine wpAnyH_take (i := 9) (v := ?v45) rfl (by kernel_rfl) (by kernel_rfl) (by kernel_rfl) (fun _ _ _ h => h) (Or.inl ⟨by rfl, ?y45⟩) (⟨k0, k1, k2, k3⟩) ?r45
  case y45 =>
    intro w_ hS_
    go_simp
    try with_reducible rfl
  simp only [Act.put, List.getElem_toArray, List.getElem_cons_succ, List.getElem_cons_zero, List.setIfInBounds_toArray, List.set_cons_succ, List.set_cons_zero]
  refine wpAnyH_take (i := 10) (v := ?v46) rfl (by kernel_rfl) (by kernel_rfl) (by kernel_rfl) (fun _ _ _ h => h) (Or.inl ⟨by rfl, ?y46⟩) (⟨k0, k1, k2, k3⟩) ?r46
  case y46 =>
    intro w_ hS_
    go_simp
    try with_reducible rfl
  simp only [Act.put, List.getElem_toArray, List.getElem_cons_succ, List.getElem_cons_zero, List.setIfInBounds_toArray, List.set_cons_succ, List.set_cons_zero]
  refine wpAnyH_take (i := 11) (v := ?v47) rfl (by kernel_rfl) (by kernel_rfl) (by kernel_rfl) (fun _ _ _ h => h) (Or.inl ⟨by rfl, ?y47⟩) (⟨k0, k1, k2, k3⟩) ?r47
  case y47 =>
    intro w_ hS_
    go_simp
    try with_reducible rfl
  simp only [Act.put, List.getElem_toArray, List.getElem_cons_succ, List.getElem_cons_zero, List.setIfInBounds_toArray, List.set_cons_succ, List.set_cons_zero]
  refine wpAnyH_done (by kernel_rfl) ?_ _
  refine NoPanic.normal ?_
  clear k0 k1 k2 k3
  have hO : OwnK (wd35.alloc (.cells #[] 24)) wd35.heap.size (.slice (some ⟨wd35.heap.size, 0, none⟩) 0 0) [] := OwnK.empty wd35 (Nat.le_refl _)
  have hs1 := hw.size
  have hb1 : Below wd35.heap.size wd35 (wd35.alloc (.cells #[] 24)) := (Below.refl _ _).alloc (Nat.le_refl _) _
  go_wp2_with (at_builtin; refine wpList_append_Ks rfl (.tmp 26) (.tmp 27) rfl wd35.heap.size _ [] rfl hO _ l rfl (hL.keep (Below.after hw hb1)) (by simp only [List.length_nil]; omega) hb1.size ?_)
  intro vc_ wc_ hC hgr _
  have hb : Below wd35.heap.size wd35 wc_ := hb1.grown hgr hb1.size (fun k e => (hO.lt k e).1)
  clear hO hgr hb1
  replace rp0 := keep hb rp0
  replace hw := Below.after hw hb
  clear hb
  replace hC : OwnK wc_ wd35.heap.size vc_ l := hC
  replace hC := hC.ksl hL.ok (by omega)
  obtain ⟨co, cc, ec, _, _⟩ := hC.slc
  subst ec
  go_wp2_with (fail)
  refine (a_From l _ _ hC hle).mono ?_
  rintro e_ w3 ⟨_, g, rfl, lv, rfl, hG, hb⟩
  clear hC
  replace rp0 := keep hb rp0
  replace hw := Below.after hw hb
  clear hb
  go_wp2_with (fail)
  refine (cR1 _ _ _ _ (hS.below hw) (hK.below hw) hG).mono ?_
  rintro e_ w4 ⟨rfl, hb⟩
  replace rp0 := keep hb rp0
  replace hG := hG.keep hb
  replace hw := Below.after hw hb
  clear hb
  go_wp2_with (first | (refine wpList_store_row rfl 24 _ _ rfl (w4.heap.size) (irow .u8 R1) rfl rfl 24 (irow .u8 (zr 32)) (hp1_0 w4 _) (infok8 _ h1) (((irow_size _ _).trans (zr_len 32)).trans ((irow_size _ _).trans h1).symm) (irow_one8 _) ?_; rw [setRow_alloc_new _ _ _ _ _ _ (by simp)]; refine wpList_stay ?_) | fail)
  unfold WpStay
  try simp only [Act.put]
  have rl9 : (w4.alloc (.cells (irow .u8 R1) 24)).heap[w4.heap.size]? = some (.cells (irow .u8 R1) 24 (0, 0)) := hp1_0 w4 _
  have hb : Below w4.heap.size w4 (w4.alloc (.cells (irow .u8 R1) 24)) := ((Below.refl _ _).alloc (Nat.le_refl _) _)
  generalize (w4.alloc (.cells (irow .u8 R1) 24)) = w5 at *
  have lt_g9_0 := lt_of_row rp0
  have sz_g9 := hw.size
  replace rp0 := keep hb rp0
  replace hG := hG.keep hb
  replace hw := Below.after hw hb
  clear hb
  generalize w4.heap.size = g9 at *
  clear w4
  go_wp2_with (fail)
  refine (cR2 _ _ _ _ (hS.below hw) (hK.below hw) hG).mono ?_
  rintro e_ w6 ⟨rfl, hb⟩
  replace rp0 := keep hb rp0
  replace rl9 := keep hb rl9
  replace hG := hG.keep hb
  replace hw := Below.after hw hb
  clear hb
  go_wp2_with (first | (refine wpList_store_row rfl 24 _ _ rfl (w6.heap.size) (irow .u8 R2) rfl rfl 24 (irow .u8 (zr 32)) (hp1_0 w6 _) (infok8 _ h2) (((irow_size _ _).trans (zr_len 32)).trans ((irow_size _ _).trans h2).symm) (irow_one8 _) ?_; rw [setRow_alloc_new _ _ _ _ _ _ (by simp)]; refine wpList_stay ?_) | fail)
  unfold WpStay
  try simp only [Act.put]
  have rl11 : (w6.alloc (.cells (irow .u8 R2) 24)).heap[w6.heap.size]? = some (.cells (irow .u8 R2) 24 (0, 0)) := hp1_0 w6 _
  have hb : Below w6.heap.size w6 (w6.alloc (.cells (irow .u8 R2) 24)) := ((Below.refl _ _).alloc (Nat.le_refl _) _)
  generalize (w6.alloc (.cells (irow .u8 R2) 24)) = w7 at *
  have lt_g11_0 := lt_of_row rp0
  have lt_g11_1 := lt_of_row rl9
  have sz_g11 := hw.size
  replace rp0 := keep hb rp0
  replace rl9 := keep hb rl9
  replace hG := hG.keep hb
  replace hw := Below.after hw hb
  clear hb
  generalize w6.heap.size = g11 at *
  clear w6
  go_wp2_with (fail)
  refine (cGr _ _ _ _ (hS.below hw) (hK.below hw) hG).mono ?_
  rintro e_ w8 ⟨pv, rfl, hP, hb⟩
  replace rp0 := keep hb rp0
  replace rl9 := keep hb rl9
  replace rl11 := keep hb rl11
  replace hG := hG.keep hb
  replace hw := Below.after hw hb
  clear hb
  replace hP := hP.ksl hPo (by omega)
  obtain ⟨po, pc, ep, _, _⟩ := hP.slc
  subst ep
  go_wp2_with (first | (refine wpList_load_part rfl 24 _ rfl (g9) 0 rfl 24 (irow .u8 R1) (0, 0) (irow .u8 R1) _ rl9 (all_rowe _) Tryd.underlying24 rfl (infok8 _ h1) ?_) | (refine wpList_load_part rfl 24 _ rfl (g11) 0 rfl 24 (irow .u8 R2) (0, 0) (irow .u8 R2) _ rl11 (all_rowe _) Tryd.underlying24 rfl (infok8 _ h2) ?_) | fail)
  refine (cGw _ (hS.below hw) (hK.below hw) hP).mono ?_
  rintro e_ w9 ⟨rfl, hb⟩
  replace rp0 := keep hb rp0
  replace rl9 := keep hb rl9
  replace rl11 := keep hb rl11
  replace hG := hG.keep hb
  replace hP := hP.keep hb
  replace hw := Below.after hw hb
  clear hb
  go_wp2_with (fail)
  have hb : Below w9.heap.size w9 w9.drew := below_drN (Below.refl _ _) 1
  replace rp0 := keep hb rp0
  replace rl9 := keep hb rl9
  replace rl11 := keep hb rl11
  replace hG := hG.keep hb
  replace hP := hP.keep hb
  replace hw := Below.after hw hb
  clear hb
  refine wp_region_noPanic ?_
  refine wp_region_held (S := fun W_ => W_.heap[g11]? = some (.cells (irow .u8 R2) 24 (0, 0))) (by kernel_rfl) ?_
  change wpAnyH _ _ _ _ _ _ _ _ (World.drew _)
  generalize w9.drew = wd48 at *
  refine wpAnyH_take (i := 0) (v := .agg (irow .u8 R2)) rfl (by kernel_rfl) (by kernel_rfl) (by kernel_rfl) (fun _ _ _ h => h) (Or.inl ⟨by rfl, ?y49⟩) (rl11) ?r49
  case y49 =>
    intro w_ hS_
    simp only [List.getElem_toArray, List.getElem_cons_zero]
    exact e_load_part 24 _ (by rfl) (g11) 0 (by rfl) 24 (irow .u8 R2) (0, 0) (irow .u8 R2) _ (hS_) (all_rowe _) Tryd.underlying24 rfl (infok8 _ h2)
  simp only [Act.put, List.getElem_toArray, List.getElem_cons_zero, List.setIfInBounds_toArray, List.set_cons_succ, List.set_cons_zero]
  refine wpAnyH_take (i := 1) (v := ?v50) rfl (by kernel_rfl) (by kernel_rfl) (by kernel_rfl) (fun _ _ _ h => h) (Or.inl ⟨by rfl, ?y50⟩) (rl11) ?r50
  case y50 =>
    intro w_ hS_
    go_simp
    try with_reducible rfl
  simp only [Act.put, List.getElem_toArray, List.getElem_cons_succ, List.getElem_cons_zero, List.setIfInBounds_toArray, List.set_cons_succ, List.set_cons_zero]
  refine wpAnyH_take (i := 2) (v := ?v51) rfl (by kernel_rfl) (by kernel_rfl) (by kernel_rfl) (fun _ _ _ h => h) (Or.inl ⟨by rfl, ?y51⟩) (rl11) ?r51
  case y51 =>
    intro w_ hS_
    go_simp
    try with_reducible rfl
  simp only [Act.put, List.getElem_toArray, List.getElem_cons_succ, List.getElem_cons_zero, List.setIfInBounds_toArray, List.set_cons_succ, List.set_cons_zero]
  refine wpAnyH_take (i := 3) (v := .slice vo N vc) rfl (by kernel_rfl) (by kernel_rfl) (by kernel_rfl) (fun _ _ _ h => h) (Or.inl ⟨by rfl, ?y52⟩) (rl11) ?r52
  case y52 =>
    intro w_ hS_
    simp only [List.getElem_toArray, List.getElem_cons_succ, List.getElem_cons_zero]
    exact e_slice _ _ _ _ rfl _ (slk_head vo l.length vc N (by omega) hz _)
  simp only [Act.put, List.getElem_toArray, List.getElem_cons_succ, List.getElem_cons_zero, List.setIfInBounds_toArray, List.set_cons_succ, List.set_cons_zero]
  refine eH_one (k := 4) (fuel := 1) (by kernel_rfl) rfl (by kernel_rfl) (fun K_ hK_ => ?_)
  refine wp_call_ex (f := 18) (by kernel_rfl) (ex1e (cRt _ hw)) (fun v_ wq53 hX_ => ?_)
  obtain ⟨rfl, hb⟩ := hX_
  replace rp0 := keep hb rp0
  replace rl9 := keep hb rl9
  replace rl11 := keep hb rl11
  replace hG := hG.keep hb
  replace hP := hP.keep hb
  replace hw := Below.after hw hb
  clear hb
  refine hK_ _ _ (rl11) ?_
  simp only [Act.put, List.getElem_toArray, List.getElem_cons_succ, List.getElem_cons_zero, List.setIfInBounds_toArray, List.set_cons_succ, List.set_cons_zero]
  clear hK_
  refine wpAnyH_take (i := 5) (v := ?v54) rfl (by kernel_rfl) (by kernel_rfl) (by kernel_rfl) (fun _ _ _ h => h) (Or.inl ⟨by rfl, ?y54⟩) (rl11) ?r54
  case y54 =>
    intro w_ hS_
    go_simp
    try with_reducible rfl
  simp only [Act.put, List.getElem_toArray, List.getElem_cons_succ, List.getElem_cons_zero, List.setIfInBounds_toArray, List.set_cons_succ, List.set_cons_zero]
  refine wpAnyH_done (by kernel_rfl) ?_ _
  refine NoPanic.normal ?_
  rcases hi with h | ⟨h, h3⟩
  · skip
    have d5 : decide (i < 0) = true := by simp; omega
    go_wp2_with (fail)
    go_ret
    exact ⟨rfl, hw⟩
  · skip
    have d5 : decide (i < 0) = false := by simp; omega
    have d6 : decide (i ≥ (N : Int)) = true := by simp; omega
    go_wp2_with (fail)
    go_ret
    exact ⟨rfl, hw⟩
set_option maxRecDepth 100000 in
set_option maxHeartbeats 8000000 in
theorem complete_in (l : List (List Int)) (M N I : Nat) (w : World) (vo : Option Addr) (vc : Nat) (hL : Ksl w (.slice vo l.length vc) l) (hle : l.length ≤ 65536) (hMN : M ≤ N) (hN : N ≤ l.length) (hz : vo = none → vc = 0) (hvc : l.length ≤ vc) {R1 R2 : List Int} {P : List (List Int)} (h1 : R1.length = 32) (h2 : R2.length = 32) (hPo : Kok P) (hPl : P.length ≤ 17) (hS : Sta w) (hK : Kon w) (cR1 : (∀ W b g u, Sta W → Kon W → LogS W b g u l → Calls Tryd.prog 33 #[.pointer (some ⟨g, 0, none⟩), .int .i64 (M : Int)] W fun e w' => e = .returned (.tuple #[.agg (irow .u8 R1), .int .i64 0]) ∧ Below W.heap.size W w')) (cR2 : (∀ W b g u, Sta W → Kon W → LogS W b g u l → Calls Tryd.prog 33 #[.pointer (some ⟨g, 0, none⟩), .int .i64 (N : Int)] W fun e w' => e = .returned (.tuple #[.agg (irow .u8 R2), .int .i64 0]) ∧ Below W.heap.size W w')) (cGr : (∀ W b g u, Sta W → Kon W → LogS W b g u l → Calls Tryd.prog 34 #[.pointer (some ⟨g, 0, none⟩), .int .i64 (M : Int), .int .i64 (N : Int)] W fun e w' => ∃ v', e = .returned (.tuple #[v', .int .i64 0]) ∧ OwnK w' W.heap.size v' P ∧ Below W.heap.size W w')) (cGw : ∀ W, Sta W → Kon W → ∀ {u : Value}, Ksl W u P → Calls Tryd.prog 31 #[.agg (irow .u8 R1), .int .i64 (M : Int), .agg (irow .u8 R2), .int .i64 (N : Int), u] W fun e w' => e = .returned (.int .i64 0) ∧ Below W.heap.size W w') (cRt : ∀ W, Below w.heap.size w W → Calls Tryd.prog 18 #[.slice vo N vc] W fun e w' => e = .returned (.agg (irow .u8 R2)) ∧ Below W.heap.size W w') {E : List Int} {Q : List (List Int)} (hE : E.length = 32) (hQo : Kok Q) (hQl : Q.length ≤ 16) (hI : I < N) (pg po_ : Nat) (pcs : Array Value) (pt : TypeId) (pf : Nat × Nat) (hvo : vo = some ⟨pg, po_, none⟩) (hpg : w.heap[pg]? = some (.cells pcs pt pf)) (hx : pcs.extract (po_ + I * 32) (po_ + I * 32 + (irow .u8 E).size) = irow .u8 E) (cPa : (∀ W b g u, Sta W → Kon W → LogS W b g u l → Calls Tryd.prog 35 #[.pointer (some ⟨g, 0, none⟩), .int .i64 (I : Int), .int .i64 (N : Int)] W fun e w' => ∃ v', e = .returned (.tuple #[v', .int .i64 0]) ∧ OwnK w' W.heap.size v' Q ∧ Below W.heap.size W w')) (cIn : ∀ W, Sta W → Kon W → ∀ {u : Value}, Ksl W u Q → Calls Tryd.prog 29 #[.agg (irow .u8 R2), .int .i64 (N : Int), .int .i64 (I : Int), .agg (irow .u8 E), u] W fun e w' => e = .returned (.int .i64 0) ∧ Below W.heap.size W w') : Calls Tryd.prog 8 #[.agg (gvrow (.slice vo l.length vc) (M : Int) (N : Int) (I : Int))] w fun e w' => e = .returned (.bool true) ∧ Below w.heap.size w w' := by
  have db : decide ((l.length : Int) > 65536) = false := by simp; omega
  have dbn : decide (65536 < l.length) = false := by simp; omega
  have e2 := eqKs R2 h2
  have d0 : decide ((M : Int) < 0) = false := by simp
  have d1 : decide ((M : Int) > (N : Int)) = false := by simp; omega
  have d2 : decide ((N : Int) > (l.length : Int)) = false := by simp; omega
  have d3 : decide ((P.length : Int) > 17) = false := by simp; omega
  have d4 : decide (17 < P.length) = false := by simp; omega
  have d5 : decide ((I : Int) < 0) = false := by simp
  have d6 : decide ((I : Int) ≥ (N : Int)) = false := by simp; omega
  have d7 : decide ((Q.length : Int) ≤ 16) = true := by simp; omega
  have d8 : decide (Q.length ≤ 16) = true := by simp; omega
  have j1 : (I : Int) < (l.length : Int) := by omega
  subst hvo
  have rp0 := hp1_0 w (.cells (gvrow (.slice (some ⟨pg, po_, none⟩) l.length vc) (M : Int) (N : Int) (I : Int)) 60)
  have hw : Below w.heap.size w (w.alloc (.cells (gvrow (.slice (some ⟨pg, po_, none⟩) l.length vc) (M : Int) (N : Int) (I : Int)) 60)) := ((Below.refl _ _).alloc (Nat.le_refl _) _)
  go_enter Tryd.func8, Tryd.ntmps8
  iterate 6 go_step
  generalize (w.alloc (.cells (gvrow (.slice (some ⟨pg, po_, none⟩) l.length vc) (M : Int) (N : Int) (I : Int)) 60)) = w0 at *
  go_wp2_with (fail)
  have k0 : w0.cell? ⟨w.heap.size, 0, none⟩ = some (.slice (some ⟨pg, po_, none⟩) l.length vc) := cell_of rp0 rfl
  have k1 : w0.cell? ⟨w.heap.size, 1, none⟩ = some (.int .i64 (M : Int)) := cell_of rp0 rfl
  have k2 : w0.cell? ⟨w.heap.size, 2, none⟩ = some (.int .i64 (N : Int)) := cell_of rp0 rfl
  have k3 : w0.cell? ⟨w.heap.size, 3, none⟩ = some (.int .i64 (I : Int)) := cell_of rp0 rfl
  have hb : Below w0.heap.size w0 w0.drew := below_drN (Below.refl _ _) 1
  replace rp0 := keep hb rp0
  replace k0 := keepc hb k0
  replace k1 := keepc hb k1
  replace k2 := keepc hb k2
  replace k3 := keepc hb k3
  replace hw := Below.after hw hb
  clear hb
  refine wp_region_noPanic ?_
  refine wp_region_held (S := fun W_ => W_.cell? ⟨w.heap.size, 0, none⟩ = some (.slice (some ⟨pg, po_, none⟩) l.length vc) ∧ W_.cell? ⟨w.heap.size, 1, none⟩ = some (.int .i64 (M : Int)) ∧ W_.cell? ⟨w.heap.size, 2, none⟩ = some (.int .i64 (N : Int)) ∧ W_.cell? ⟨w.heap.size, 3, none⟩ = some (.int .i64 (I : Int))) (by kernel_rfl) ?_
  change wpAnyH _ _ _ _ _ _ _ _ (World.drew _)
  generalize w0.drew = wd55 at *
  refine wpAnyH_take (i := 0) (v := ?v56) rfl (by kernel_rfl) (by kernel_rfl) (by kernel_rfl) (fun _ _ _ h => h) (Or.inl ⟨by rfl, ?y56⟩) (⟨k0, k1, k2, k3⟩) ?r56
  case y56 =>
    intro w_ hS_
    go_simp
    try with_reducible rfl
  simp only [Act.put, List.getElem_toArray, List.getElem_cons_zero, List.setIfInBounds_toArray, List.set_cons_succ, List.set_cons_zero]
  refine wpAnyH_take (i := 1) (v := .slice (some ⟨pg, po_, none⟩) l.length vc) rfl (by kernel_rfl) (by kernel_rfl) (by kernel_rfl) (fun _ _ _ h => h) (Or.inl ⟨by rfl, ?y57⟩) (⟨k0, k1, k2, k3⟩) ?r57
  case y57 =>
    intro w_ hS_
    obtain ⟨q0, q1, q2, q3⟩ := hS_
    go_simp
    try with_reducible rfl
  simp only [Act.put, List.getElem_toArray, List.getElem_cons_succ, List.getElem_cons_zero, List.setIfInBounds_toArray, List.set_cons_succ, List.set_cons_zero]
  refine wpAnyH_take (i := 2) (v := ?v58) rfl (by kernel_rfl) (by kernel_rfl) (by kernel_rfl) (fun _ _ _ h => h) (Or.inl ⟨by rfl, ?y58⟩) (⟨k0, k1, k2, k3⟩) ?r58
  case y58 =>
    intro w_ hS_
    go_simp
    try with_reducible rfl
  simp only [Act.put, List.getElem_toArray, List.getElem_cons_succ, List.getElem_cons_zero, List.setIfInBounds_toArray, List.set_cons_succ, List.set_cons_zero]
  refine wpAnyH_take (i := 3) (v := .int .i64 (M : Int)) rfl (by kernel_rfl) (by kernel_rfl) (by kernel_rfl) (fun _ _ _ h => h) (Or.inl ⟨by rfl, ?y59⟩) (⟨k0, k1, k2, k3⟩) ?r59
  case y59 =>
    intro w_ hS_
    obtain ⟨q0, q1, q2, q3⟩ := hS_
    go_simp
    try with_reducible rfl
  simp only [Act.put, List.getElem_toArray, List.getElem_cons_succ, List.getElem_cons_zero, List.setIfInBounds_toArray, List.set_cons_succ, List.set_cons_zero]
  refine wpAnyH_take (i := 4) (v := ?v60) rfl (by kernel_rfl) (by kernel_rfl) (by kernel_rfl) (fun _ _ _ h => h) (Or.inl ⟨by rfl, ?y60⟩) (⟨k0, k1, k2, k3⟩) ?r60
  case y60 =>
    intro w_ hS_
    go_simp
    try with_reducible rfl
  simp only [Act.put, List.getElem_toArray, List.getElem_cons_succ, List.getElem_cons_zero, List.setIfInBounds_toArray, List.set_cons_succ, List.set_cons_zero]
  refine wpAnyH_take (i := 5) (v := .int .i64 (N : Int)) rfl (by kernel_rfl) (by kernel_rfl) (by kernel_rfl) (fun _ _ _ h => h) (Or.inl ⟨by rfl, ?y61⟩) (⟨k0, k1, k2, k3⟩) ?r61
  case y61 =>
    intro w_ hS_
    obtain ⟨q0, q1, q2, q3⟩ := hS_
    go_simp
    try with_reducible rfl
  simp only [Act.put, List.getElem_toArray, List.getElem_cons_succ, List.getElem_cons_zero, List.setIfInBounds_toArray, List.set_cons_succ, List.set_cons_zero]
  refine wpAnyH_take (i := 6) (v := ?v62) rfl (by kernel_rfl) (by kernel_rfl) (by kernel_rfl) (fun _ _ _ h => h) (Or.inl ⟨by rfl, ?y62⟩) (⟨k0, k1, k2, k3⟩) ?r62
  case y62 =>
    intro w_ hS_
    go_simp
    try with_reducible rfl
  simp only [Act.put, List.getElem_toArray, List.getElem_cons_succ, List.getElem_cons_zero, List.setIfInBounds_toArray, List.set_cons_succ, List.set_cons_zero]
  refine wpAnyH_take (i := 7) (v := .int .i64 (I : Int)) rfl (by kernel_rfl) (by kernel_rfl) (by kernel_rfl) (fun _ _ _ h => h) (Or.inl ⟨by rfl, ?y63⟩) (⟨k0, k1, k2, k3⟩) ?r63
  case y63 =>
    intro w_ hS_
    obtain ⟨q0, q1, q2, q3⟩ := hS_
    go_simp
    try with_reducible rfl
  simp only [Act.put, List.getElem_toArray, List.getElem_cons_succ, List.getElem_cons_zero, List.setIfInBounds_toArray, List.set_cons_succ, List.set_cons_zero]
  refine wpAnyH_take (i := 8) (v := ?v64) rfl (by kernel_rfl) (by kernel_rfl) (by kernel_rfl) (fun _ _ _ h => h) (Or.inl ⟨by rfl, ?y64⟩) (⟨k0, k1, k2, k3⟩) ?r64
  case y64 =>
    intro w_ hS_
    go_simp
    try with_reducible rfl
  simp only [Act.put, List.getElem_toArray, List.getElem_cons_succ, List.getElem_cons_zero, List.setIfInBounds_toArray, List.set_cons_succ, List.set_cons_zero]
  refine wpAnyH_take (i := 9) (v := ?v65) rfl (by kernel_rfl) (by kernel_rfl) (by kernel_rfl) (fun _ _ _ h => h) (Or.inl ⟨by rfl, ?y65⟩) (⟨k0, k1, k2, k3⟩) ?r65
  case y65 =>
    intro w_ hS_
    go_simp
    try with_reducible rfl
  simp only [Act.put, List.getElem_toArray, List.getElem_cons_succ, List.getElem_cons_zero, List.setIfInBounds_toArray, List.set_cons_succ, List.set_cons_zero]
  refine wpAnyH_take (i := 10) (v := ?v66) rfl (by kernel_rfl) (by kernel_rfl) (by kernel_rfl) (fun _ _ _ h => h) (Or.inl ⟨by rfl, ?y66⟩) (⟨k0, k1, k2, k3⟩) ?r66
  case y66 =>
    intro w_ hS_
    go_simp
    try with_reducible rfl
  simp only [Act.put, List.getElem_toArray, List.getElem_cons_succ, List.getElem_cons_zero, List.setIfInBounds_toArray, List.set_cons_succ, List.set_cons_zero]
  refine wpAnyH_take (i := 11) (v := ?v67) rfl (by kernel_rfl) (by kernel_rfl) (by kernel_rfl) (fun _ _ _ h => h) (Or.inl ⟨by rfl, ?y67⟩) (⟨k0, k1, k2, k3⟩) ?r67
  case y67 =>
    intro w_ hS_
    go_simp
    try with_reducible rfl
  simp only [Act.put, List.getElem_toArray, List.getElem_cons_succ, List.getElem_cons_zero, List.setIfInBounds_toArray, List.set_cons_succ, List.set_cons_zero]
  refine wpAnyH_done (by kernel_rfl) ?_ _
  refine NoPanic.normal ?_
  clear k0 k1 k2 k3
  have hO : OwnK (wd55.alloc (.cells #[] 24)) wd55.heap.size (.slice (some ⟨wd55.heap.size, 0, none⟩) 0 0) [] := OwnK.empty wd55 (Nat.le_refl _)
  have hs1 := hw.size
  have hb1 : Below wd55.heap.size wd55 (wd55.alloc (.cells #[] 24)) := (Below.refl _ _).alloc (Nat.le_refl _) _
  go_wp2_with (at_builtin; refine wpList_append_Ks rfl (.tmp 26) (.tmp 27) rfl wd55.heap.size _ [] rfl hO _ l rfl (hL.keep (Below.after hw hb1)) (by simp only [List.length_nil]; omega) hb1.size ?_)
  intro vc_ wc_ hC hgr _
  have hb : Below wd55.heap.size wd55 wc_ := hb1.grown hgr hb1.size (fun k e => (hO.lt k e).1)
  clear hO hgr hb1
  replace rp0 := keep hb rp0
  replace hw := Below.after hw hb
  clear hb
  replace hC : OwnK wc_ wd55.heap.size vc_ l := hC
  replace hC := hC.ksl hL.ok (by omega)
  obtain ⟨co, cc, ec, _, _⟩ := hC.slc
  subst ec
  go_wp2_with (fail)
  refine (a_From l _ _ hC hle).mono ?_
  rintro e_ w3 ⟨_, g, rfl, lv, rfl, hG, hb⟩
  clear hC
  replace rp0 := keep hb rp0
  replace hw := Below.after hw hb
  clear hb
  go_wp2_with (fail)
  refine (cR1 _ _ _ _ (hS.below hw) (hK.below hw) hG).mono ?_
  rintro e_ w4 ⟨rfl, hb⟩
  replace rp0 := keep hb rp0
  replace hG := hG.keep hb
  replace hw := Below.after hw hb
  clear hb
  go_wp2_with (first | (refine wpList_store_row rfl 24 _ _ rfl (w4.heap.size) (irow .u8 R1) rfl rfl 24 (irow .u8 (zr 32)) (hp1_0 w4 _) (infok8 _ h1) (((irow_size _ _).trans (zr_len 32)).trans ((irow_size _ _).trans h1).symm) (irow_one8 _) ?_; rw [setRow_alloc_new _ _ _ _ _ _ (by simp)]; refine wpList_stay ?_) | fail)
  unfold WpStay
  try simp only [Act.put]
  have rl9 : (w4.alloc (.cells (irow .u8 R1) 24)).heap[w4.heap.size]? = some (.cells (irow .u8 R1) 24 (0, 0)) := hp1_0 w4 _
  have hb : Below w4.heap.size w4 (w4.alloc (.cells (irow .u8 R1) 24)) := ((Below.refl _ _).alloc (Nat.le_refl _) _)
  generalize (w4.alloc (.cells (irow .u8 R1) 24)) = w5 at *
  have lt_g9_0 := lt_of_row rp0
  have sz_g9 := hw.size
  replace rp0 := keep hb rp0
  replace hG := hG.keep hb
  replace hw := Below.after hw hb
  clear hb
  generalize w4.heap.size = g9 at *
  clear w4
  go_wp2_with (fail)
  refine (cR2 _ _ _ _ (hS.below hw) (hK.below hw) hG).mono ?_
  rintro e_ w6 ⟨rfl, hb⟩
  replace rp0 := keep hb rp0
  replace rl9 := keep hb rl9
  replace hG := hG.keep hb
  replace hw := Below.after hw hb
  clear hb
  go_wp2_with (first | (refine wpList_store_row rfl 24 _ _ rfl (w6.heap.size) (irow .u8 R2) rfl rfl 24 (irow .u8 (zr 32)) (hp1_0 w6 _) (infok8 _ h2) (((irow_size _ _).trans (zr_len 32)).trans ((irow_size _ _).trans h2).symm) (irow_one8 _) ?_; rw [setRow_alloc_new _ _ _ _ _ _ (by simp)]; refine wpList_stay ?_) | fail)
  unfold WpStay
  try simp only [Act.put]
  have rl11 : (w6.alloc (.cells (irow .u8 R2) 24)).heap[w6.heap.size]? = some (.cells (irow .u8 R2) 24 (0, 0)) := hp1_0 w6 _
  have hb : Below w6.heap.size w6 (w6.alloc (.cells (irow .u8 R2) 24)) := ((Below.refl _ _).alloc (Nat.le_refl _) _)
  generalize (w6.alloc (.cells (irow .u8 R2) 24)) = w7 at *
  have lt_g11_0 := lt_of_row rp0
  have lt_g11_1 := lt_of_row rl9
  have sz_g11 := hw.size
  replace rp0 := keep hb rp0
  replace rl9 := keep hb rl9
  replace hG := hG.keep hb
  replace hw := Below.after hw hb
  clear hb
  generalize w6.heap.size = g11 at *
  clear w6
  go_wp2_with (fail)
  refine (cGr _ _ _ _ (hS.below hw) (hK.below hw) hG).mono ?_
  rintro e_ w8 ⟨pv, rfl, hP, hb⟩
  replace rp0 := keep hb rp0
  replace rl9 := keep hb rl9
  replace rl11 := keep hb rl11
  replace hG := hG.keep hb
  replace hw := Below.after hw hb
  clear hb
  replace hP := hP.ksl hPo (by omega)
  obtain ⟨po, pc, ep, _, _⟩ := hP.slc
  subst ep
  go_wp2_with (first | (refine wpList_load_part rfl 24 _ rfl (g9) 0 rfl 24 (irow .u8 R1) (0, 0) (irow .u8 R1) _ rl9 (all_rowe _) Tryd.underlying24 rfl (infok8 _ h1) ?_) | (refine wpList_load_part rfl 24 _ rfl (g11) 0 rfl 24 (irow .u8 R2) (0, 0) (irow .u8 R2) _ rl11 (all_rowe _) Tryd.underlying24 rfl (infok8 _ h2) ?_) | fail)
  refine (cGw _ (hS.below hw) (hK.below hw) hP).mono ?_
  rintro e_ w9 ⟨rfl, hb⟩
  replace rp0 := keep hb rp0
  replace rl9 := keep hb rl9
  replace rl11 := keep hb rl11
  replace hG := hG.keep hb
  replace hP := hP.keep hb
  replace hw := Below.after hw hb
  clear hb
  go_wp2_with (fail)
  have hb : Below w9.heap.size w9 w9.drew := below_drN (Below.refl _ _) 1
  replace rp0 := keep hb rp0
  replace rl9 := keep hb rl9
  replace rl11 := keep hb rl11
  replace hG := hG.keep hb
  replace hP := hP.keep hb
  replace hw := Below.after hw hb
  clear hb
  refine wp_region_noPanic ?_
  refine wp_region_held (S := fun W_ => W_.heap[g11]? = some (.cells (irow .u8 R2) 24 (0, 0))) (by kernel_rfl) ?_
  change wpAnyH _ _ _ _ _ _ _ _ (World.drew _)
  generalize w9.drew = wd68 at *
  refine wpAnyH_take (i := 0) (v := .agg (irow .u8 R2)) rfl (by kernel_rfl) (by kernel_rfl) (by kernel_rfl) (fun _ _ _ h => h) (Or.inl ⟨by rfl, ?y69⟩) (rl11) ?r69
  case y69 =>
    intro w_ hS_
    simp only [List.getElem_toArray, List.getElem_cons_zero]
    exact e_load_part 24 _ (by rfl) (g11) 0 (by rfl) 24 (irow .u8 R2) (0, 0) (irow .u8 R2) _ (hS_) (all_rowe _) Tryd.underlying24 rfl (infok8 _ h2)
  simp only [Act.put, List.getElem_toArray, List.getElem_cons_zero, List.setIfInBounds_toArray, List.set_cons_succ, List.set_cons_zero]
  refine wpAnyH_take (i := 1) (v := ?v70) rfl (by kernel_rfl) (by kernel_rfl) (by kernel_rfl) (fun _ _ _ h => h) (Or.inl ⟨by rfl, ?y70⟩) (rl11) ?r70
  case y70 =>
    intro w_ hS_
    go_simp
    try with_reducible rfl
  simp only [Act.put, List.getElem_toArray, List.getElem_cons_succ, List.getElem_cons_zero, List.setIfInBounds_toArray, List.set_cons_succ, List.set_cons_zero]
  refine wpAnyH_take (i := 2) (v := ?v71) rfl (by kernel_rfl) (by kernel_rfl) (by kernel_rfl) (fun _ _ _ h => h) (Or.inl ⟨by rfl, ?y71⟩) (rl11) ?r71
  case y71 =>
    intro w_ hS_
    go_simp
    try with_reducible rfl
  simp only [Act.put, List.getElem_toArray, List.getElem_cons_succ, List.getElem_cons_zero, List.setIfInBounds_toArray, List.set_cons_succ, List.set_cons_zero]
  refine wpAnyH_take (i := 3) (v := .slice (some ⟨pg, po_, none⟩) N vc) rfl (by kernel_rfl) (by kernel_rfl) (by kernel_rfl) (fun _ _ _ h => h) (Or.inl ⟨by rfl, ?y72⟩) (rl11) ?r72
  case y72 =>
    intro w_ hS_
    simp only [List.getElem_toArray, List.getElem_cons_succ, List.getElem_cons_zero]
    exact e_slice _ _ _ _ rfl _ (slk_head (some ⟨pg, po_, none⟩) l.length vc N (by omega) hz _)
  simp only [Act.put, List.getElem_toArray, List.getElem_cons_succ, List.getElem_cons_zero, List.setIfInBounds_toArray, List.set_cons_succ, List.set_cons_zero]
  refine eH_one (k := 4) (fuel := 1) (by kernel_rfl) rfl (by kernel_rfl) (fun K_ hK_ => ?_)
  refine wp_call_ex (f := 18) (by kernel_rfl) (ex1e (cRt _ hw)) (fun v_ wq73 hX_ => ?_)
  obtain ⟨rfl, hb⟩ := hX_
  replace rp0 := keep hb rp0
  replace rl9 := keep hb rl9
  replace rl11 := keep hb rl11
  replace hG := hG.keep hb
  replace hP := hP.keep hb
  replace hw := Below.after hw hb
  clear hb
  refine hK_ _ _ (rl11) ?_
  simp only [Act.put, List.getElem_toArray, List.getElem_cons_succ, List.getElem_cons_zero, List.setIfInBounds_toArray, List.set_cons_succ, List.set_cons_zero]
  clear hK_
  refine wpAnyH_take (i := 5) (v := ?v74) rfl (by kernel_rfl) (by kernel_rfl) (by kernel_rfl) (fun _ _ _ h => h) (Or.inl ⟨by rfl, ?y74⟩) (rl11) ?r74
  case y74 =>
    intro w_ hS_
    go_simp
    try with_reducible rfl
  simp only [Act.put, List.getElem_toArray, List.getElem_cons_succ, List.getElem_cons_zero, List.setIfInBounds_toArray, List.set_cons_succ, List.set_cons_zero]
  refine wpAnyH_done (by kernel_rfl) ?_ _
  refine NoPanic.normal ?_
  go_wp2_with (fail)
  refine (cPa _ _ _ _ (hS.below hw) (hK.below hw) hG).mono ?_
  rintro e_ w10 ⟨qv, rfl, hQ, hb⟩
  replace rp0 := keep hb rp0
  replace rl9 := keep hb rl9
  replace rl11 := keep hb rl11
  replace hG := hG.keep hb
  replace hP := hP.keep hb
  replace hw := Below.after hw hb
  clear hb
  replace hQ := hQ.ksl hQo (by omega)
  obtain ⟨qo, qc, eq_, _, _⟩ := hQ.slc
  subst eq_
  have rq := keep hw hpg
  have lpg := lt_of_row hpg
  go_wp2_with (fail)
  have hb : Below w10.heap.size w10 w10.drew := below_drN (Below.refl _ _) 1
  replace rp0 := keep hb rp0
  replace rl9 := keep hb rl9
  replace rl11 := keep hb rl11
  replace hG := hG.keep hb
  replace hP := hP.keep hb
  replace hQ := hQ.keep hb
  replace rq := keep hb rq
  replace hw := Below.after hw hb
  clear hb
  refine wp_region_noPanic ?_
  refine wp_region_held (S := fun W_ => W_.heap[g11]? = some (.cells (irow .u8 R2) 24 (0, 0)) ∧ W_.heap[pg]? = some (.cells pcs pt pf)) (by kernel_rfl) ?_
  change wpAnyH _ _ _ _ _ _ _ _ (World.drew _)
  generalize w10.drew = wd75 at *
  refine wpAnyH_take (i := 0) (v := ?v76) rfl (by kernel_rfl) (by kernel_rfl) (by kernel_rfl) (fun _ _ _ h => h) (Or.inl ⟨by rfl, ?y76⟩) (⟨rl11, rq⟩) ?r76
  case y76 =>
    intro w_ hS_
    go_simp
    try with_reducible rfl
  simp only [Act.put, List.getElem_toArray, List.getElem_cons_zero, List.setIfInBounds_toArray, List.set_cons_succ, List.set_cons_zero]
  refine wpAnyH_take (i := 1) (v := ?v77) rfl (by kernel_rfl) (by kernel_rfl) (by kernel_rfl) (fun _ _ _ h => h) (Or.inl ⟨by rfl, ?y77⟩) (⟨rl11, rq⟩) ?r77
  case y77 =>
    intro w_ hS_
    go_simp
    try with_reducible rfl
  simp only [Act.put, List.getElem_toArray, List.getElem_cons_succ, List.getElem_cons_zero, List.setIfInBounds_toArray, List.set_cons_succ, List.set_cons_zero]
  refine wpAnyH_take (i := 2) (v := ?v78) rfl (by kernel_rfl) (by kernel_rfl) (by kernel_rfl) (fun _ _ _ h => h) (Or.inl ⟨by rfl, ?y78⟩) (⟨rl11, rq⟩) ?r78
  case y78 =>
    intro w_ hS_
    go_simp
    try with_reducible rfl
  simp only [Act.put, List.getElem_toArray, List.getElem_cons_succ, List.getElem_cons_zero, List.setIfInBounds_toArray, List.set_cons_succ, List.set_cons_zero]
  refine wpAnyH_take (i := 3) (v := ?v79) rfl (by kernel_rfl) (by kernel_rfl) (by kernel_rfl) (fun _ _ _ h => h) (Or.inl ⟨by rfl, ?y79⟩) (⟨rl11, rq⟩) ?r79
  case y79 =>
    intro w_ hS_
    go_simp
    try with_reducible rfl
  simp only [Act.put, List.getElem_toArray, List.getElem_cons_succ, List.getElem_cons_zero, List.setIfInBounds_toArray, List.set_cons_succ, List.set_cons_zero]
  refine wpAnyH_take (i := 4) (v := ?v80) rfl (by kernel_rfl) (by kernel_rfl) (by kernel_rfl) (fun _ _ _ h => h) (Or.inl ⟨by rfl, ?y80⟩) (⟨rl11, rq⟩) ?r80
  case y80 =>
    intro w_ hS_
    go_simp
    try with_reducible rfl
  simp only [Act.put, List.getElem_toArray, List.getElem_cons_succ, List.getElem_cons_zero, List.setIfInBounds_toArray, List.set_cons_succ, List.set_cons_zero]
  refine wpAnyH_take (i := 5) (v := ?v81) rfl (by kernel_rfl) (by kernel_rfl) (by kernel_rfl) (fun _ _ _ h => h) (Or.inl ⟨by rfl, ?y81⟩) (⟨rl11, rq⟩) ?r81
  case y81 =>
    intro w_ hS_
    go_simp
    try with_reducible rfl
  simp only [Act.put, List.getElem_toArray, List.getElem_cons_succ, List.getElem_cons_zero, List.setIfInBounds_toArray, List.set_cons_succ, List.set_cons_zero]
  refine wpAnyH_take (i := 6) (v := ?v82) rfl (by kernel_rfl) (by kernel_rfl) (by kernel_rfl) (fun _ _ _ h => h) (Or.inl ⟨by rfl, ?y82⟩) (⟨rl11, rq⟩) ?r82
  case y82 =>
    intro w_ hS_
    go_simp
    try with_reducible rfl
  simp only [Act.put, List.getElem_toArray, List.getElem_cons_succ, List.getElem_cons_zero, List.setIfInBounds_toArray, List.set_cons_succ, List.set_cons_zero]
  refine wpAnyH_take (i := 7) (v := ?v83) rfl (by kernel_rfl) (by kernel_rfl) (by kernel_rfl) (fun _ _ _ h => h) (Or.inl ⟨by rfl, ?y83⟩) (⟨rl11, rq⟩) ?r83
  case y83 =>
    intro w_ hS_
    go_simp
    try with_reducible rfl
  simp only [Act.put, List.getElem_toArray, List.getElem_cons_succ, List.getElem_cons_zero, List.setIfInBounds_toArray, List.set_cons_succ, List.set_cons_zero]
  refine wpAnyH_take (i := 8) (v := .agg (irow .u8 R2)) rfl (by kernel_rfl) (by kernel_rfl) (by kernel_rfl) (fun _ _ _ h => h) (Or.inl ⟨by rfl, ?y84⟩) (⟨rl11, rq⟩) ?r84
  case y84 =>
    intro w_ hS_
    simp only [List.getElem_toArray, List.getElem_cons_succ, List.getElem_cons_zero]
    exact e_load_part 24 _ (by rfl) (g11) 0 (by rfl) 24 (irow .u8 R2) (0, 0) (irow .u8 R2) _ (hS_.1) (all_rowe _) Tryd.underlying24 rfl (infok8 _ h2)
  simp only [Act.put, List.getElem_toArray, List.getElem_cons_succ, List.getElem_cons_zero, List.setIfInBounds_toArray, List.set_cons_succ, List.set_cons_zero]
  refine wpAnyH_take (i := 9) (v := ?v85) rfl (by kernel_rfl) (by kernel_rfl) (by kernel_rfl) (fun _ _ _ h => h) (Or.inl ⟨by rfl, ?y85⟩) (⟨rl11, rq⟩) ?r85
  case y85 =>
    intro w_ hS_
    go_simp
    try with_reducible rfl
  simp only [Act.put, List.getElem_toArray, List.getElem_cons_succ, List.getElem_cons_zero, List.setIfInBounds_toArray, List.set_cons_succ, List.set_cons_zero]
  refine wpAnyH_take (i := 10) (v := ?v86) rfl (by kernel_rfl) (by kernel_rfl) (by kernel_rfl) (fun _ _ _ h => h) (Or.inl ⟨by rfl, ?y86⟩) (⟨rl11, rq⟩) ?r86
  case y86 =>
    intro w_ hS_
    go_simp
    try with_reducible rfl
  simp only [Act.put, List.getElem_toArray, List.getElem_cons_succ, List.getElem_cons_zero, List.setIfInBounds_toArray, List.set_cons_succ, List.set_cons_zero]
  refine wpAnyH_take (i := 11) (v := ?v87) rfl (by kernel_rfl) (by kernel_rfl) (by kernel_rfl) (fun _ _ _ h => h) (Or.inl ⟨by rfl, ?y87⟩) (⟨rl11, rq⟩) ?r87
  case y87 =>
    intro w_ hS_
    go_simp
    try with_reducible rfl
  simp only [Act.put, List.getElem_toArray, List.getElem_cons_succ, List.getElem_cons_zero, List.setIfInBounds_toArray, List.set_cons_succ, List.set_cons_zero]
  refine wpAnyH_take (i := 12) (v := ?v88) rfl (by kernel_rfl) (by kernel_rfl) (by kernel_rfl) (fun _ _ _ h => h) (Or.inl ⟨by rfl, ?y88⟩) (⟨rl11, rq⟩) ?r88
  case y88 =>
    intro w_ hS_
    go_simp
    try with_reducible rfl
  simp only [Act.put, List.getElem_toArray, List.getElem_cons_succ, List.getElem_cons_zero, List.setIfInBounds_toArray, List.set_cons_succ, List.set_cons_zero]
  refine wpAnyH_take (i := 13) (v := ?v89) rfl (by kernel_rfl) (by kernel_rfl) (by kernel_rfl) (fun _ _ _ h => h) (Or.inl ⟨by rfl, ?y89⟩) (⟨rl11, rq⟩) ?r89
  case y89 =>
    intro w_ hS_
    go_simp
    try with_reducible rfl
  simp only [Act.put, List.getElem_toArray, List.getElem_cons_succ, List.getElem_cons_zero, List.setIfInBounds_toArray, List.set_cons_succ, List.set_cons_zero]
  refine wpAnyH_take (i := 14) (v := .agg (irow .u8 E)) rfl (by kernel_rfl) (by kernel_rfl) (by kernel_rfl) (fun _ _ _ h => h) (Or.inl ⟨by rfl, ?y90⟩) (⟨rl11, rq⟩) ?r90
  case y90 =>
    intro w_ hS_
    simp only [List.getElem_toArray, List.getElem_cons_succ, List.getElem_cons_zero]
    exact e_load_part 24 _ (by rfl) pg (po_ + I * 32) (by rfl) pt pcs pf (irow .u8 E) _ (hS_.2) hx Tryd.underlying24 rfl (infok8 _ hE)
  simp only [Act.put, List.getElem_toArray, List.getElem_cons_succ, List.getElem_cons_zero, List.setIfInBounds_toArray, List.set_cons_succ, List.set_cons_zero]
  refine wpAnyH_take (i := 15) (v := ?v91) rfl (by kernel_rfl) (by kernel_rfl) (by kernel_rfl) (fun _ _ _ h => h) (Or.inl ⟨by rfl, ?y91⟩) (⟨rl11, rq⟩) ?r91
  case y91 =>
    intro w_ hS_
    go_simp
    try with_reducible rfl
  simp only [Act.put, List.getElem_toArray, List.getElem_cons_succ, List.getElem_cons_zero, List.setIfInBounds_toArray, List.set_cons_succ, List.set_cons_zero]
  refine eH_one (k := 16) (fuel := 3) (by kernel_rfl) rfl (by kernel_rfl) (fun K_ hK_ => ?_)
  refine wp_call_ex (f := 29) (by kernel_rfl) (ex1e (cIn _ (hS.below hw) (hK.below hw) hQ)) (fun v_ wq92 hX_ => ?_)
  obtain ⟨rfl, hb⟩ := hX_
  replace rp0 := keep hb rp0
  replace rl9 := keep hb rl9
  replace rl11 := keep hb rl11
  replace hG := hG.keep hb
  replace hP := hP.keep hb
  replace hQ := hQ.keep hb
  replace rq := keep hb rq
  replace hw := Below.after hw hb
  clear hb
  refine hK_ _ _ (⟨rl11, rq⟩) ?_
  simp only [Act.put, List.getElem_toArray, List.getElem_cons_succ, List.getElem_cons_zero, List.setIfInBounds_toArray, List.set_cons_succ, List.set_cons_zero]
  clear hK_
  refine wpAnyH_take (i := 17) (v := ?v93) rfl (by kernel_rfl) (by kernel_rfl) (by kernel_rfl) (fun _ _ _ h => h) (Or.inl ⟨by rfl, ?y93⟩) (⟨rl11, rq⟩) ?r93
  case y93 =>
    intro w_ hS_
    go_simp
    try with_reducible rfl
  simp only [Act.put, List.getElem_toArray, List.getElem_cons_succ, List.getElem_cons_zero, List.setIfInBounds_toArray, List.set_cons_succ, List.set_cons_zero]
  refine wpAnyH_take (i := 18) (v := ?v94) rfl (by kernel_rfl) (by kernel_rfl) (by kernel_rfl) (fun _ _ _ h => h) (Or.inl ⟨by rfl, ?y94⟩) (⟨rl11, rq⟩) ?r94
  case y94 =>
    intro w_ hS_
    go_simp
    try with_reducible rfl
  simp only [Act.put, List.getElem_toArray, List.getElem_cons_succ, List.getElem_cons_zero, List.setIfInBounds_toArray, List.set_cons_succ, List.set_cons_zero]
  refine wpAnyH_take (i := 19) (v := ?v95) rfl (by kernel_rfl) (by kernel_rfl) (by kernel_rfl) (fun _ _ _ h => h) (Or.inl ⟨by rfl, ?y95⟩) (⟨rl11, rq⟩) ?r95
  case y95 =>
    intro w_ hS_
    go_simp
    try with_reducible rfl
  simp only [Act.put, List.getElem_toArray, List.getElem_cons_succ, List.getElem_cons_zero, List.setIfInBounds_toArray, List.set_cons_succ, List.set_cons_zero]
  refine wpAnyH_done (by kernel_rfl) ?_ _
  refine NoPanic.normal ?_
  go_wp2_with (fail)
  go_ret
  exact ⟨rfl, hw⟩
end Go.Proofs.YtgfeacnhdlgpoaaDoor
