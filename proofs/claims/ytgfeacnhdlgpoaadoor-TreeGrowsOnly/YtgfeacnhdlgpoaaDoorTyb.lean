import Derived.Test.YtgfeacnhdlgpoaaDoorProg
import Derived.WalkKit
import Derived.WalkSpells
import Derived.WalkLawsBesides
import Derived.Lib.QuietBelow
import Derived.BigQuiet
import Derived.OrdersHeld
import Derived.OwnWalk
import Derived.Deep.RegionHeld3
import Derived.Deep.Cut
import Derived.Deep.CutRange
import Derived.Test.YtgfeacnhdlgpoaaDoorTya
import Derived.Test.YtgfeacnhdlgpoaaDoorTrx
namespace Go.Proofs.YtgfeacnhdlgpoaaDoor
set_option maxRecDepth 100000
open Go Go.RowKit Go.Sort
attribute [local go_sem] setCell_drewN alloc_drewN
set_option maxRecDepth 100000 in
set_option maxHeartbeats 8000000 in
theorem only_big (l : List (List Int)) (k : List Int) (_hk : Ky k) (m n i : Int) (w : World) (vo : Option Addr) (vc : Nat) (hL : Ksl w (.slice vo l.length vc) l) (hbl : l.length ≤ 4398046510990) (hbig : 65536 < l.length) : Calls Tryd.prog 10 #[.agg (gvrow (.slice vo l.length vc) m n i), .agg (irow .u8 k)] w fun e w' => e = .returned (.bool true) ∧ Below w.heap.size w w' := by
  have db : decide ((l.length : Int) ≥ 65536) = true := by simp; omega
  have dbn : decide (65536 ≤ l.length) = true := by simp; omega
  have de : decide ((l.length : Int) = 65536) = false := by simp; omega
  have den : ((l.length : Int) == 65536) = false := by simp; omega
  have rp0 := hp2_0 w (.cells (gvrow (.slice vo l.length vc) m n i) 60) (.cells (irow .u8 k) 24)
  have rp1 := hp2_1 w (.cells (gvrow (.slice vo l.length vc) m n i) 60) (.cells (irow .u8 k) 24)
  have hw : Below w.heap.size w ((w.alloc (.cells (gvrow (.slice vo l.length vc) m n i) 60)).alloc (.cells (irow .u8 k) 24)) := (((Below.refl _ _).alloc (Nat.le_refl _) _).alloc (by simp) _)
  go_enter Tryd.func10, Tryd.ntmps10
  iterate 9 go_step
  generalize ((w.alloc (.cells (gvrow (.slice vo l.length vc) m n i) 60)).alloc (.cells (irow .u8 k) 24)) = w0 at *
  go_wp2_with (fail)
  have k0 : w0.cell? ⟨w.heap.size, 0, none⟩ = some (.slice vo l.length vc) := cell_of rp0 rfl
  have k1 : w0.cell? ⟨w.heap.size, 1, none⟩ = some (.int .i64 m) := cell_of rp0 rfl
  have k2 : w0.cell? ⟨w.heap.size, 2, none⟩ = some (.int .i64 n) := cell_of rp0 rfl
  have hb : Below w0.heap.size w0 w0.drew := below_drN (Below.refl _ _) 1
  replace rp0 := keep hb rp0
  replace rp1 := keep hb rp1
  replace k0 := keepc hb k0
  replace k1 := keepc hb k1
  replace k2 := keepc hb k2
  replace hw := Below.after hw hb
  clear hb
  refine wp_region_noPanic ?_
  refine wp_region_held (S := fun W_ => W_.cell? ⟨w.heap.size, 0, none⟩ = some (.slice vo l.length vc) ∧ W_.cell? ⟨w.heap.size, 1, none⟩ = some (.int .i64 m) ∧ W_.cell? ⟨w.heap.size, 2, none⟩ = some (.int .i64 n)) (by kernel_rfl) ?_
  change wpAnyH _ _ _ _ _ _ _ _ (World.drew _)
  generalize w0.drew = wd96 at *
  refine wpAnyH_take (i := 0) (v := ?v97) rfl (by kernel_rfl) (by kernel_rfl) (by kernel_rfl) (fun _ _ _ h => h) (Or.inl ⟨by rfl, ?y97⟩) (⟨k0, k1, k2⟩) ?r97
  case y97 =>
    intro w_ hS_
    go_simp
    try with_reducible rfl
  simp only [Act.put, List.getElem_toArray, List.getElem_cons_zero, List.setIfInBounds_toArray, List.set_cons_succ, List.set_cons_zero]
  refine wpAnyH_take (i := 1) (v := .slice vo l.length vc) rfl (by kernel_rfl) (by kernel_rfl) (by kernel_rfl) (fun _ _ _ h => h) (Or.inl ⟨by rfl, ?y98⟩) (⟨k0, k1, k2⟩) ?r98
  case y98 =>
    intro w_ hS_
    obtain ⟨q0, q1, q2⟩ := hS_
    go_simp
    try with_reducible rfl
  simp only [Act.put, List.getElem_toArray, List.getElem_cons_succ, List.getElem_cons_zero, List.setIfInBounds_toArray, List.set_cons_succ, List.set_cons_zero]
  refine wpAnyH_take (i := 2) (v := ?v99) rfl (by kernel_rfl) (by kernel_rfl) (by kernel_rfl) (fun _ _ _ h => h) (Or.inl ⟨by rfl, ?y99⟩) (⟨k0, k1, k2⟩) ?r99
  case y99 =>
    intro w_ hS_
    go_simp
    try with_reducible rfl
  simp only [Act.put, List.getElem_toArray, List.getElem_cons_succ, List.getElem_cons_zero, List.setIfInBounds_toArray, List.set_cons_succ, List.set_cons_zero]
  refine wpAnyH_take (i := 3) (v := .int .i64 m) rfl (by kernel_rfl) (by kernel_rfl) (by kernel_rfl) (fun _ _ _ h => h) (Or.inl ⟨by rfl, ?y100⟩) (⟨k0, k1, k2⟩) ?r100
  case y100 =>
    intro w_ hS_
    obtain ⟨q0, q1, q2⟩ := hS_
    go_simp
    try with_reducible rfl
  simp only [Act.put, List.getElem_toArray, List.getElem_cons_succ, List.getElem_cons_zero, List.setIfInBounds_toArray, List.set_cons_succ, List.set_cons_zero]
  refine wpAnyH_take (i := 4) (v := ?v101) rfl (by kernel_rfl) (by kernel_rfl) (by kernel_rfl) (fun _ _ _ h => h) (Or.inl ⟨by rfl, ?y101⟩) (⟨k0, k1, k2⟩) ?r101
  case y101 =>
    intro w_ hS_
    go_simp
    try with_reducible rfl
  simp only [Act.put, List.getElem_toArray, List.getElem_cons_succ, List.getElem_cons_zero, List.setIfInBounds_toArray, List.set_cons_succ, List.set_cons_zero]
  refine wpAnyH_take (i := 5) (v := .int .i64 n) rfl (by kernel_rfl) (by kernel_rfl) (by kernel_rfl) (fun _ _ _ h => h) (Or.inl ⟨by rfl, ?y102⟩) (⟨k0, k1, k2⟩) ?r102
  case y102 =>
    intro w_ hS_
    obtain ⟨q0, q1, q2⟩ := hS_
    go_simp
    try with_reducible rfl
  simp only [Act.put, List.getElem_toArray, List.getElem_cons_succ, List.getElem_cons_zero, List.setIfInBounds_toArray, List.set_cons_succ, List.set_cons_zero]
  refine wpAnyH_take (i := 6) (v := ?v103) rfl (by kernel_rfl) (by kernel_rfl) (by kernel_rfl) (fun _ _ _ h => h) (Or.inl ⟨by rfl, ?y103⟩) (⟨k0, k1, k2⟩) ?r103
  case y103 =>
    intro w_ hS_
    go_simp
    try with_reducible rfl
  simp only [Act.put, List.getElem_toArray, List.getElem_cons_succ, List.getElem_cons_zero, List.setIfInBounds_toArray, List.set_cons_succ, List.set_cons_zero]
  refine wpAnyH_take (i := 7) (v := ?v104) rfl (by kernel_rfl) (by kernel_rfl) (by kernel_rfl) (fun _ _ _ h => h) (Or.inl ⟨by rfl, ?y104⟩) (⟨k0, k1, k2⟩) ?r104
  case y104 =>
    intro w_ hS_
    go_simp
    try with_reducible rfl
  simp only [Act.put, List.getElem_toArray, List.getElem_cons_succ, List.getElem_cons_zero, List.setIfInBounds_toArray, List.set_cons_succ, List.set_cons_zero]
  refine wpAnyH_take (i := 8) (v := ?v105) rfl (by kernel_rfl) (by kernel_rfl) (by kernel_rfl) (fun _ _ _ h => h) (Or.inl ⟨by rfl, ?y105⟩) (⟨k0, k1, k2⟩) ?r105
  case y105 =>
    intro w_ hS_
    go_simp
    try with_reducible rfl
  simp only [Act.put, List.getElem_toArray, List.getElem_cons_succ, List.getElem_cons_zero, List.setIfInBounds_toArray, List.set_cons_succ, List.set_cons_zero]
  refine wpAnyH_done (by kernel_rfl) ?_ _
  refine NoPanic.normal ?_
  clear k0 k1 k2
  have hO : OwnK (wd96.alloc (.cells #[] 24)) wd96.heap.size (.slice (some ⟨wd96.heap.size, 0, none⟩) 0 0) [] := OwnK.empty wd96 (Nat.le_refl _)
  have hs1 := hw.size
  have hb1 : Below wd96.heap.size wd96 (wd96.alloc (.cells #[] 24)) := (Below.refl _ _).alloc (Nat.le_refl _) _
  go_wp2_with (at_builtin; refine wpList_append_Ks rfl (.tmp 31) (.tmp 32) rfl wd96.heap.size _ [] rfl hO _ l rfl (hL.keep (Below.after hw hb1)) (by simp only [List.length_nil]; omega) hb1.size ?_)
  intro vc_ wc_ hC hgr _
  have hb : Below wd96.heap.size wd96 wc_ := hb1.grown hgr hb1.size (fun k e => (hO.lt k e).1)
  clear hO hgr hb1
  replace rp0 := keep hb rp0
  replace rp1 := keep hb rp1
  replace hw := Below.after hw hb
  clear hb
  replace hC : OwnK wc_ wd96.heap.size vc_ l := hC
  replace hC := hC.ksl hL.ok (by omega)
  obtain ⟨co, cc, ec, _, _⟩ := hC.slc
  subst ec
  go_wp2_with (fail)
  refine (a_From_no l _ _ hC hbig).mono ?_
  rintro e_ w3 ⟨rfl, hb⟩
  replace rp0 := keep hb rp0
  replace rp1 := keep hb rp1
  replace hw := Below.after hw hb
  clear hb
  go_wp2_with (fail)
  go_ret
  exact ⟨rfl, hw⟩
set_option maxRecDepth 100000 in
set_option maxHeartbeats 8000000 in
theorem only_full (l : List (List Int)) (k : List Int) (_hk : Ky k) (m n i : Int) (w : World) (vo : Option Addr) (vc : Nat) (hL : Ksl w (.slice vo l.length vc) l) (he : l.length = 65536) : Calls Tryd.prog 10 #[.agg (gvrow (.slice vo l.length vc) m n i), .agg (irow .u8 k)] w fun e w' => e = .returned (.bool true) ∧ Below w.heap.size w w' := by
  have hle : l.length ≤ 65536 := by omega
  have db : decide ((l.length : Int) ≥ 65536) = true := by simp; omega
  have dbn : decide (65536 ≤ l.length) = true := by simp; omega
  have de : decide ((l.length : Int) = 65536) = true := by simp; omega
  have den : ((l.length : Int) == 65536) = true := by simp; omega
  have he' := hide he
  clear he
  have rp0 := hp2_0 w (.cells (gvrow (.slice vo l.length vc) m n i) 60) (.cells (irow .u8 k) 24)
  have rp1 := hp2_1 w (.cells (gvrow (.slice vo l.length vc) m n i) 60) (.cells (irow .u8 k) 24)
  have hw : Below w.heap.size w ((w.alloc (.cells (gvrow (.slice vo l.length vc) m n i) 60)).alloc (.cells (irow .u8 k) 24)) := (((Below.refl _ _).alloc (Nat.le_refl _) _).alloc (by simp) _)
  go_enter Tryd.func10, Tryd.ntmps10
  iterate 9 go_step
  generalize ((w.alloc (.cells (gvrow (.slice vo l.length vc) m n i) 60)).alloc (.cells (irow .u8 k) 24)) = w0 at *
  go_wp2_with (fail)
  have k0 : w0.cell? ⟨w.heap.size, 0, none⟩ = some (.slice vo l.length vc) := cell_of rp0 rfl
  have k1 : w0.cell? ⟨w.heap.size, 1, none⟩ = some (.int .i64 m) := cell_of rp0 rfl
  have k2 : w0.cell? ⟨w.heap.size, 2, none⟩ = some (.int .i64 n) := cell_of rp0 rfl
  have hb : Below w0.heap.size w0 w0.drew := below_drN (Below.refl _ _) 1
  replace rp0 := keep hb rp0
  replace rp1 := keep hb rp1
  replace k0 := keepc hb k0
  replace k1 := keepc hb k1
  replace k2 := keepc hb k2
  replace hw := Below.after hw hb
  clear hb
  refine wp_region_noPanic ?_
  refine wp_region_held (S := fun W_ => W_.cell? ⟨w.heap.size, 0, none⟩ = some (.slice vo l.length vc) ∧ W_.cell? ⟨w.heap.size, 1, none⟩ = some (.int .i64 m) ∧ W_.cell? ⟨w.heap.size, 2, none⟩ = some (.int .i64 n)) (by kernel_rfl) ?_
  change wpAnyH _ _ _ _ _ _ _ _ (World.drew _)
  generalize w0.drew = wd106 at *
  refine wpAnyH_take (i := 0) (v := ?v107) rfl (by kernel_rfl) (by kernel_rfl) (by kernel_rfl) (fun _ _ _ h => h) (Or.inl ⟨by rfl, ?y107⟩) (⟨k0, k1, k2⟩) ?r107
  case y107 =>
    intro w_ hS_
    go_simp
    try with_reducible rfl
  simp only [Act.put, List.getElem_toArray, List.getElem_cons_zero, List.setIfInBounds_toArray, List.set_cons_succ, List.set_cons_zero]
  refine wpAnyH_take (i := 1) (v := .slice vo l.length vc) rfl (by kernel_rfl) (by kernel_rfl) (by kernel_rfl) (fun _ _ _ h => h) (Or.inl ⟨by rfl, ?y108⟩) (⟨k0, k1, k2⟩) ?r108
  case y108 =>
    intro w_ hS_
    obtain ⟨q0, q1, q2⟩ := hS_
    go_simp
    try with_reducible rfl
  simp only [Act.put, List.getElem_toArray, List.getElem_cons_succ, List.getElem_cons_zero, List.setIfInBounds_toArray, List.set_cons_succ, List.set_cons_zero]
  refine wpAnyH_take (i := 2) (v := ?v109) rfl (by kernel_rfl) (by kernel_rfl) (by kernel_rfl) (fun _ _ _ h => h) (Or.inl ⟨by rfl, ?y109⟩) (⟨k0, k1, k2⟩) ?r109
  case y109 =>
    intro w_ hS_
    go_simp
    try with_reducible rfl
  simp only [Act.put, List.getElem_toArray, List.getElem_cons_succ, List.getElem_cons_zero, List.setIfInBounds_toArray, List.set_cons_succ, List.set_cons_zero]
  refine wpAnyH_take (i := 3) (v := .int .i64 m) rfl (by kernel_rfl) (by kernel_rfl) (by kernel_rfl) (fun _ _ _ h => h) (Or.inl ⟨by rfl, ?y110⟩) (⟨k0, k1, k2⟩) ?r110
  case y110 =>
    intro w_ hS_
    obtain ⟨q0, q1, q2⟩ := hS_
    go_simp
    try with_reducible rfl
  simp only [Act.put, List.getElem_toArray, List.getElem_cons_succ, List.getElem_cons_zero, List.setIfInBounds_toArray, List.set_cons_succ, List.set_cons_zero]
  refine wpAnyH_take (i := 4) (v := ?v111) rfl (by kernel_rfl) (by kernel_rfl) (by kernel_rfl) (fun _ _ _ h => h) (Or.inl ⟨by rfl, ?y111⟩) (⟨k0, k1, k2⟩) ?r111
  case y111 =>
    intro w_ hS_
    go_simp
    try with_reducible rfl
  simp only [Act.put, List.getElem_toArray, List.getElem_cons_succ, List.getElem_cons_zero, List.setIfInBounds_toArray, List.set_cons_succ, List.set_cons_zero]
  refine wpAnyH_take (i := 5) (v := .int .i64 n) rfl (by kernel_rfl) (by kernel_rfl) (by kernel_rfl) (fun _ _ _ h => h) (Or.inl ⟨by rfl, ?y112⟩) (⟨k0, k1, k2⟩) ?r112
  case y112 =>
    intro w_ hS_
    obtain ⟨q0, q1, q2⟩ := hS_
    go_simp
    try with_reducible rfl
  simp only [Act.put, List.getElem_toArray, List.getElem_cons_succ, List.getElem_cons_zero, List.setIfInBounds_toArray, List.set_cons_succ, List.set_cons_zero]
  refine wpAnyH_take (i := 6) (v := ?v113) rfl (by kernel_rfl) (by kernel_rfl) (by kernel_rfl) (fun _ _ _ h => h) (Or.inl ⟨by rfl, ?y113⟩) (⟨k0, k1, k2⟩) ?r113
  case y113 =>
    intro w_ hS_
    go_simp
    try with_reducible rfl
  simp only [Act.put, List.getElem_toArray, List.getElem_cons_succ, List.getElem_cons_zero, List.setIfInBounds_toArray, List.set_cons_succ, List.set_cons_zero]
  refine wpAnyH_take (i := 7) (v := ?v114) rfl (by kernel_rfl) (by kernel_rfl) (by kernel_rfl) (fun _ _ _ h => h) (Or.inl ⟨by rfl, ?y114⟩) (⟨k0, k1, k2⟩) ?r114
  case y114 =>
    intro w_ hS_
    go_simp
    try with_reducible rfl
  simp only [Act.put, List.getElem_toArray, List.getElem_cons_succ, List.getElem_cons_zero, List.setIfInBounds_toArray, List.set_cons_succ, List.set_cons_zero]
  refine wpAnyH_take (i := 8) (v := ?v115) rfl (by kernel_rfl) (by kernel_rfl) (by kernel_rfl) (fun _ _ _ h => h) (Or.inl ⟨by rfl, ?y115⟩) (⟨k0, k1, k2⟩) ?r115
  case y115 =>
    intro w_ hS_
    go_simp
    try with_reducible rfl
  simp only [Act.put, List.getElem_toArray, List.getElem_cons_succ, List.getElem_cons_zero, List.setIfInBounds_toArray, List.set_cons_succ, List.set_cons_zero]
  refine wpAnyH_done (by kernel_rfl) ?_ _
  refine NoPanic.normal ?_
  clear k0 k1 k2
  have hO : OwnK (wd106.alloc (.cells #[] 24)) wd106.heap.size (.slice (some ⟨wd106.heap.size, 0, none⟩) 0 0) [] := OwnK.empty wd106 (Nat.le_refl _)
  have hs1 := hw.size
  have hb1 : Below wd106.heap.size wd106 (wd106.alloc (.cells #[] 24)) := (Below.refl _ _).alloc (Nat.le_refl _) _
  go_wp2_with (at_builtin; refine wpList_append_Ks rfl (.tmp 31) (.tmp 32) rfl wd106.heap.size _ [] rfl hO _ l rfl (hL.keep (Below.after hw hb1)) (by simp only [List.length_nil]; omega) hb1.size ?_)
  intro vc_ wc_ hC hgr _
  have hb : Below wd106.heap.size wd106 wc_ := hb1.grown hgr hb1.size (fun k e => (hO.lt k e).1)
  clear hO hgr hb1
  replace rp0 := keep hb rp0
  replace rp1 := keep hb rp1
  replace hw := Below.after hw hb
  clear hb
  replace hC : OwnK wc_ wd106.heap.size vc_ l := hC
  replace hC := hC.ksl hL.ok (by omega)
  obtain ⟨co, cc, ec, _, _⟩ := hC.slc
  subst ec
  go_wp2_with (fail)
  have lp1 := lt_of_row rp1
  refine (a_From l _ _ hC hle).mono ?_
  rintro e_ w3 ⟨_, g, rfl, lv, rfl, hG, hb⟩
  clear hC
  have hbw := hw.size
  replace rp0 := keep hb rp0
  replace rp1 := keep hb rp1
  replace hw := Below.after hw hb
  clear hb
  clear hG
  go_wp2_with (fail)
  go_ret
  exact ⟨rfl, hw⟩
theorem below_weak {B C : Nat} {w w' : World} (h : Below C w w') (hB : B ≤ C) : Below B w w' := ⟨h.os, h.tape, h.output, h.size, fun k hk => h.block k (by omega)⟩
/-- A list of one's own, laid behind the log, stays where the log grows. -/
theorem OwnK.ap {W W' : World} {b c g : Nat} {u v : Value} {p : List (List Int)} (h : OwnK W c u p) (hf : ApF W W' b g v) (hg : g < c) (hv : ∀ j, v.ownBlock = some j → j < c) : OwnK W' c u p := by
  refine h.move fun j o e hj => ?_
  have := h.lt j e
  exact (hf.2 j this.2 (by omega) (fun e2 => by have := hv j e2; omega)).trans hj
theorem row_ap {W W' : World} {b c g : Nat} {v : Value} {o : Obj} (hf : ApF W W' b g v) {j : Nat} (hj : W.heap[j]? = some o) (h1 : j < b ∨ c ≤ j) (hb : b ≤ g) (hvb : ∀ k, v.ownBlock = some k → b ≤ k) (hg : g < c) (hv : ∀ k, v.ownBlock = some k → k < c) : W'.heap[j]? = some o :=
  (hf.2 j (lt_of_row hj) (by omega) (fun e => by have := hv j e; have := hvb j e; omega)).trans hj
set_option maxRecDepth 100000 in
set_option maxHeartbeats 8000000 in
theorem only_beyond (l : List (List Int)) (k : List Int) (hk : Ky k) (m n i : Int) (w : World) (vo : Option Addr) (vc : Nat) (hL : Ksl w (.slice vo l.length vc) l) (hlt : l.length < 65536) (hn : (l.length : Int) < n) {R : List Int} (hR : R.length = 32) (hS : Sta w) (hK : Kon w) (cR : (∀ W b g u ls, ls = l → Sta W → Kon W → LogS W b g u ls → Calls Tryd.prog 33 #[.pointer (some ⟨g, 0, none⟩), .int .i64 n] W fun e w' => e = .returned (.tuple #[.agg (irow .u8 R), .int .i64 210]) ∧ Below W.heap.size W w')) (cP : (∀ W b g u ls, ls = l → Sta W → Kon W → LogS W b g u ls → Calls Tryd.prog 35 #[.pointer (some ⟨g, 0, none⟩), .int .i64 m, .int .i64 n] W fun e w' => ∃ v', e = .returned (.tuple #[v', .int .i64 210]) ∧ OwnK w' W.heap.size v' [] ∧ Below W.heap.size W w')) (cQ : (∀ W b g u ls, ls = l → Sta W → Kon W → LogS W b g u ls → Calls Tryd.prog 34 #[.pointer (some ⟨g, 0, none⟩), .int .i64 m, .int .i64 n] W fun e w' => ∃ v', e = .returned (.tuple #[v', .int .i64 210]) ∧ OwnK w' W.heap.size v' [] ∧ Below W.heap.size W w')) : Calls Tryd.prog 10 #[.agg (gvrow (.slice vo l.length vc) m n i), .agg (irow .u8 k)] w fun e w' => e = .returned (.bool true) ∧ Below w.heap.size w w' := by
  have hle : l.length ≤ 65536 := by omega
  have db : decide ((l.length : Int) ≥ 65536) = false := by simp; omega
  have dbn : decide (65536 ≤ l.length) = false := by simp; omega
  have ell : ((l ++ [k]).length : Int) = (l.length : Int) + 1 := by simp
  have dn : decide (n > (l.length : Int)) = true := by simp; omega
  have rp0 := hp2_0 w (.cells (gvrow (.slice vo l.length vc) m n i) 60) (.cells (irow .u8 k) 24)
  have rp1 := hp2_1 w (.cells (gvrow (.slice vo l.length vc) m n i) 60) (.cells (irow .u8 k) 24)
  have hw : Below w.heap.size w ((w.alloc (.cells (gvrow (.slice vo l.length vc) m n i) 60)).alloc (.cells (irow .u8 k) 24)) := (((Below.refl _ _).alloc (Nat.le_refl _) _).alloc (by simp) _)
  go_enter Tryd.func10, Tryd.ntmps10
  iterate 9 go_step
  generalize ((w.alloc (.cells (gvrow (.slice vo l.length vc) m n i) 60)).alloc (.cells (irow .u8 k) 24)) = w0 at *
  go_wp2_with (fail)
  have k0 : w0.cell? ⟨w.heap.size, 0, none⟩ = some (.slice vo l.length vc) := cell_of rp0 rfl
  have k1 : w0.cell? ⟨w.heap.size, 1, none⟩ = some (.int .i64 m) := cell_of rp0 rfl
  have k2 : w0.cell? ⟨w.heap.size, 2, none⟩ = some (.int .i64 n) := cell_of rp0 rfl
  have hb : Below w0.heap.size w0 w0.drew := below_drN (Below.refl _ _) 1
  replace rp0 := keep hb rp0
  replace rp1 := keep hb rp1
  replace k0 := keepc hb k0
  replace k1 := keepc hb k1
  replace k2 := keepc hb k2
  replace hw := Below.after hw hb
  clear hb
  refine wp_region_noPanic ?_
  refine wp_region_held (S := fun W_ => W_.cell? ⟨w.heap.size, 0, none⟩ = some (.slice vo l.length vc) ∧ W_.cell? ⟨w.heap.size, 1, none⟩ = some (.int .i64 m) ∧ W_.cell? ⟨w.heap.size, 2, none⟩ = some (.int .i64 n)) (by kernel_rfl) ?_
  change wpAnyH _ _ _ _ _ _ _ _ (World.drew _)
  generalize w0.drew = wd116 at *
  refine wpAnyH_take (i := 0) (v := ?v117) rfl (by kernel_rfl) (by kernel_rfl) (by kernel_rfl) (fun _ _ _ h => h) (Or.inl ⟨by rfl, ?y117⟩) (⟨k0, k1, k2⟩) ?r117
  case y117 =>
    intro w_ hS_
    go_simp
    try with_reducible rfl
  simp only [Act.put, List.getElem_toArray, List.getElem_cons_zero, List.setIfInBounds_toArray, List.set_cons_succ, List.set_cons_zero]
  refine wpAnyH_take (i := 1) (v := .slice vo l.length vc) rfl (by kernel_rfl) (by kernel_rfl) (by kernel_rfl) (fun _ _ _ h => h) (Or.inl ⟨by rfl, ?y118⟩) (⟨k0, k1, k2⟩) ?r118
  case y118 =>
    intro w_ hS_
    obtain ⟨q0, q1, q2⟩ := hS_
    go_simp
    try with_reducible rfl
  simp only [Act.put, List.getElem_toArray, List.getElem_cons_succ, List.getElem_cons_zero, List.setIfInBounds_toArray, List.set_cons_succ, List.set_cons_zero]
  refine wpAnyH_take (i := 2) (v := ?v119) rfl (by kernel_rfl) (by kernel_rfl) (by kernel_rfl) (fun _ _ _ h => h) (Or.inl ⟨by rfl, ?y119⟩) (⟨k0, k1, k2⟩) ?r119
  case y119 =>
    intro w_ hS_
    go_simp
    try with_reducible rfl
  simp only [Act.put, List.getElem_toArray, List.getElem_cons_succ, List.getElem_cons_zero, List.setIfInBounds_toArray, List.set_cons_succ, List.set_cons_zero]
  refine wpAnyH_take (i := 3) (v := .int .i64 m) rfl (by kernel_rfl) (by kernel_rfl) (by kernel_rfl) (fun _ _ _ h => h) (Or.inl ⟨by rfl, ?y120⟩) (⟨k0, k1, k2⟩) ?r120
  case y120 =>
    intro w_ hS_
    obtain ⟨q0, q1, q2⟩ := hS_
    go_simp
    try with_reducible rfl
  simp only [Act.put, List.getElem_toArray, List.getElem_cons_succ, List.getElem_cons_zero, List.setIfInBounds_toArray, List.set_cons_succ, List.set_cons_zero]
  refine wpAnyH_take (i := 4) (v := ?v121) rfl (by kernel_rfl) (by kernel_rfl) (by kernel_rfl) (fun _ _ _ h => h) (Or.inl ⟨by rfl, ?y121⟩) (⟨k0, k1, k2⟩) ?r121
  case y121 =>
    intro w_ hS_
    go_simp
    try with_reducible rfl
  simp only [Act.put, List.getElem_toArray, List.getElem_cons_succ, List.getElem_cons_zero, List.setIfInBounds_toArray, List.set_cons_succ, List.set_cons_zero]
  refine wpAnyH_take (i := 5) (v := .int .i64 n) rfl (by kernel_rfl) (by kernel_rfl) (by kernel_rfl) (fun _ _ _ h => h) (Or.inl ⟨by rfl, ?y122⟩) (⟨k0, k1, k2⟩) ?r122
  case y122 =>
    intro w_ hS_
    obtain ⟨q0, q1, q2⟩ := hS_
    go_simp
    try with_reducible rfl
  simp only [Act.put, List.getElem_toArray, List.getElem_cons_succ, List.getElem_cons_zero, List.setIfInBounds_toArray, List.set_cons_succ, List.set_cons_zero]
  refine wpAnyH_take (i := 6) (v := ?v123) rfl (by kernel_rfl) (by kernel_rfl) (by kernel_rfl) (fun _ _ _ h => h) (Or.inl ⟨by rfl, ?y123⟩) (⟨k0, k1, k2⟩) ?r123
  case y123 =>
    intro w_ hS_
    go_simp
    try with_reducible rfl
  simp only [Act.put, List.getElem_toArray, List.getElem_cons_succ, List.getElem_cons_zero, List.setIfInBounds_toArray, List.set_cons_succ, List.set_cons_zero]
  refine wpAnyH_take (i := 7) (v := ?v124) rfl (by kernel_rfl) (by kernel_rfl) (by kernel_rfl) (fun _ _ _ h => h) (Or.inl ⟨by rfl, ?y124⟩) (⟨k0, k1, k2⟩) ?r124
  case y124 =>
    intro w_ hS_
    go_simp
    try with_reducible rfl
  simp only [Act.put, List.getElem_toArray, List.getElem_cons_succ, List.getElem_cons_zero, List.setIfInBounds_toArray, List.set_cons_succ, List.set_cons_zero]
  refine wpAnyH_take (i := 8) (v := ?v125) rfl (by kernel_rfl) (by kernel_rfl) (by kernel_rfl) (fun _ _ _ h => h) (Or.inl ⟨by rfl, ?y125⟩) (⟨k0, k1, k2⟩) ?r125
  case y125 =>
    intro w_ hS_
    go_simp
    try with_reducible rfl
  simp only [Act.put, List.getElem_toArray, List.getElem_cons_succ, List.getElem_cons_zero, List.setIfInBounds_toArray, List.set_cons_succ, List.set_cons_zero]
  refine wpAnyH_done (by kernel_rfl) ?_ _
  refine NoPanic.normal ?_
  clear k0 k1 k2
  have hO : OwnK (wd116.alloc (.cells #[] 24)) wd116.heap.size (.slice (some ⟨wd116.heap.size, 0, none⟩) 0 0) [] := OwnK.empty wd116 (Nat.le_refl _)
  have hs1 := hw.size
  have hb1 : Below wd116.heap.size wd116 (wd116.alloc (.cells #[] 24)) := (Below.refl _ _).alloc (Nat.le_refl _) _
  go_wp2_with (at_builtin; refine wpList_append_Ks rfl (.tmp 31) (.tmp 32) rfl wd116.heap.size _ [] rfl hO _ l rfl (hL.keep (Below.after hw hb1)) (by simp only [List.length_nil]; omega) hb1.size ?_)
  intro vc_ wc_ hC hgr _
  have hb : Below wd116.heap.size wd116 wc_ := hb1.grown hgr hb1.size (fun k e => (hO.lt k e).1)
  clear hO hgr hb1
  replace rp0 := keep hb rp0
  replace rp1 := keep hb rp1
  replace hw := Below.after hw hb
  clear hb
  replace hC : OwnK wc_ wd116.heap.size vc_ l := hC
  replace hC := hC.ksl hL.ok (by omega)
  obtain ⟨co, cc, ec, _, _⟩ := hC.slc
  subst ec
  go_wp2_with (fail)
  have lp1 := lt_of_row rp1
  refine (a_From l _ _ hC hle).mono ?_
  rintro e_ w3 ⟨_, g, rfl, lv, rfl, hG, hb⟩
  clear hC
  have hbw := hw.size
  replace rp0 := keep hb rp0
  replace rp1 := keep hb rp1
  replace hw := Below.after hw hb
  clear hb
  go_wp2_with (fail)
  refine (cR _ _ _ _ _ rfl (hS.below hw) (hK.below hw) hG).mono ?_
  rintro e_ w4 ⟨rfl, hb⟩
  replace rp0 := keep hb rp0
  replace rp1 := keep hb rp1
  replace hG := hG.keep hb
  replace hw := Below.after hw hb
  clear hb
  have hvl := hG.2.1.lt
  have hgl := lt_of_row hG.1
  go_wp2_with (first | (refine wpList_store_row rfl 24 _ _ rfl (w4.heap.size) (irow .u8 R) rfl rfl 24 (irow .u8 (zr 32)) (hp1_0 w4 _) (infok8 _ hR) (((irow_size _ _).trans (zr_len 32)).trans ((irow_size _ _).trans hR).symm) (irow_one8 _) ?_; rw [setRow_alloc_new _ _ _ _ _ _ (by simp)]; refine wpList_stay ?_) | fail)
  unfold WpStay
  try simp only [Act.put]
  have rl10 : (w4.alloc (.cells (irow .u8 R) 24)).heap[w4.heap.size]? = some (.cells (irow .u8 R) 24 (0, 0)) := hp1_0 w4 _
  have hb : Below w4.heap.size w4 (w4.alloc (.cells (irow .u8 R) 24)) := ((Below.refl _ _).alloc (Nat.le_refl _) _)
  generalize (w4.alloc (.cells (irow .u8 R) 24)) = w5 at *
  have lt_g10_0 := lt_of_row rp0
  have lt_g10_1 := lt_of_row rp1
  have sz_g10 := hw.size
  replace rp0 := keep hb rp0
  replace rp1 := keep hb rp1
  replace hG := hG.keep hb
  replace hw := Below.after hw hb
  clear hb
  generalize w4.heap.size = g10 at *
  clear w4
  have l10 := lt_of_row rl10
  go_wp2_with (fail)
  have hsp := w5.heap.size
  clear hsp
  have hszp : w5.heap.size ≤ w5.heap.size := Nat.le_refl _
  refine (cP _ _ _ _ _ rfl (hS.below hw) (hK.below hw) hG).mono ?_
  rintro e_ wp ⟨pv, rfl, hp, hb⟩
  have hbbp := hb.size
  replace rp0 := keep hb rp0
  replace rp1 := keep hb rp1
  replace rl10 := keep hb rl10
  replace hG := hG.keep hb
  replace hw := Below.after hw hb
  clear hb
  obtain ⟨po, pc, ep, _, _⟩ := hp.slc
  subst ep
  go_wp2_with (fail)
  have hsq := wp.heap.size
  clear hsq
  have hszq : wp.heap.size ≤ wp.heap.size := Nat.le_refl _
  refine (cQ _ _ _ _ _ rfl (hS.below hw) (hK.below hw) hG).mono ?_
  rintro e_ wq ⟨qv, rfl, hq, hb⟩
  have hbbq := hb.size
  replace rp0 := keep hb rp0
  replace rp1 := keep hb rp1
  replace rl10 := keep hb rl10
  replace hG := hG.keep hb
  replace hp := hp.keep hb
  replace hw := Below.after hw hb
  clear hb
  obtain ⟨qo, qc, eq, _, _⟩ := hq.slc
  subst eq
  go_wp2_with (first | (refine wpList_load_part rfl 24 _ rfl (w.heap.size + 1) 0 rfl 24 (irow .u8 k) (0, 0) (irow .u8 k) _ rp1 (all_rowe _) Tryd.underlying24 rfl (infok8 _ hk.1) ?_) | (refine wpList_load_part rfl 24 _ rfl (g10) 0 rfl 24 (irow .u8 R) (0, 0) (irow .u8 R) _ rl10 (all_rowe _) Tryd.underlying24 rfl (infok8 _ hR) ?_) | fail)
  have hvb := fun j e => (hG.2.1.lt j e).1
  have hbg := hG.2.2.1
  have hw5 := hw.size
  refine (a_Append l k hk _ _ g _ hG hlt).mono ?_
  rintro e_ wz ⟨rfl, lv', hG', hNx, hAp⟩
  replace hp := hp.ap hAp (by omega) (fun j e => by have := (hvl j e).2; omega)
  replace hq := hq.ap hAp (by omega) (fun j e => by have := (hvl j e).2; omega)
  have lt10 := lt_of_row rl10
  replace rl10 := row_ap (c := g10) hAp rl10 (by omega) hbg hvb (by omega) (fun j e => by have := (hvl j e).2; omega)
  replace rp1 := row_ap (c := g10) hAp rp1 (by omega) hbg hvb (by omega) (fun j e => by have := (hvl j e).2; omega)
  replace hw := hw.trans (below_weak hAp.1 (by omega))
  clear hG hNx hAp hvl hvb
  have hG := hG'
  clear hG'
  go_wp2_with (fail)
  refine (a_Len _ _ _ g _ hG).mono ?_
  rintro e_ wl ⟨rfl, hb⟩
  replace rp1 := keep hb rp1
  replace rl10 := keep hb rl10
  replace hG := hG.keep hb
  replace hp := hp.keep hb
  replace hq := hq.keep hb
  replace hw := Below.after hw hb
  clear hb
  rw [ell]
  go_wp2_with (fail)
  go_ret
  exact ⟨rfl, hw⟩
set_option maxRecDepth 100000 in
set_option maxHeartbeats 8000000 in
theorem only_go (l : List (List Int)) (k : List Int) (hk : Ky k) (m n i : Int) (w : World) (vo : Option Addr) (vc : Nat) (hL : Ksl w (.slice vo l.length vc) l) (hlt : l.length < 65536) (hn : ¬ (l.length : Int) < n) {R : List Int} {P Q : List (List Int)} {eR eP eQ : Int} (hR : R.length = 32) (hPo : Kok P) (hQo : Kok Q) (hPl : P.length ≤ 17) (hQl : Q.length ≤ 17) (hS : Sta w) (hK : Kon w) (cR : (∀ W b g u ls, (ls = l ∨ ls = l ++ [k]) → Sta W → Kon W → LogS W b g u ls → Calls Tryd.prog 33 #[.pointer (some ⟨g, 0, none⟩), .int .i64 n] W fun e w' => e = .returned (.tuple #[.agg (irow .u8 R), .int .i64 eR]) ∧ Below W.heap.size W w')) (cP : (∀ W b g u ls, (ls = l ∨ ls = l ++ [k]) → Sta W → Kon W → LogS W b g u ls → Calls Tryd.prog 35 #[.pointer (some ⟨g, 0, none⟩), .int .i64 m, .int .i64 n] W fun e w' => ∃ v', e = .returned (.tuple #[v', .int .i64 eP]) ∧ OwnK w' W.heap.size v' P ∧ Below W.heap.size W w')) (cQ : (∀ W b g u ls, (ls = l ∨ ls = l ++ [k]) → Sta W → Kon W → LogS W b g u ls → Calls Tryd.prog 34 #[.pointer (some ⟨g, 0, none⟩), .int .i64 m, .int .i64 n] W fun e w' => ∃ v', e = .returned (.tuple #[v', .int .i64 eQ]) ∧ OwnK w' W.heap.size v' Q ∧ Below W.heap.size W w')) : Calls Tryd.prog 10 #[.agg (gvrow (.slice vo l.length vc) m n i), .agg (irow .u8 k)] w fun e w' => e = .returned (.bool true) ∧ Below w.heap.size w w' := by
  have hle : l.length ≤ 65536 := by omega
  have db : decide ((l.length : Int) ≥ 65536) = false := by simp; omega
  have dbn : decide (65536 ≤ l.length) = false := by simp; omega
  have ell : ((l ++ [k]).length : Int) = (l.length : Int) + 1 := by simp
  have dn : decide (n > (l.length : Int)) = false := by simp; omega
  have dR : decide (eR = eR) = true := by simp
  have dP : decide (eP = eP) = true := by simp
  have dQ : decide (eQ = eQ) = true := by simp
  have rp0 := hp2_0 w (.cells (gvrow (.slice vo l.length vc) m n i) 60) (.cells (irow .u8 k) 24)
  have rp1 := hp2_1 w (.cells (gvrow (.slice vo l.length vc) m n i) 60) (.cells (irow .u8 k) 24)
  have hw : Below w.heap.size w ((w.alloc (.cells (gvrow (.slice vo l.length vc) m n i) 60)).alloc (.cells (irow .u8 k) 24)) := (((Below.refl _ _).alloc (Nat.le_refl _) _).alloc (by simp) _)
  go_enter Tryd.func10, Tryd.ntmps10
  iterate 9 go_step
  generalize ((w.alloc (.cells (gvrow (.slice vo l.length vc) m n i) 60)).alloc (.cells (irow .u8 k) 24)) = w0 at *
  go_wp2_with (fail)
  have k0 : w0.cell? ⟨w.heap.size, 0, none⟩ = some (.slice vo l.length vc) := cell_of rp0 rfl
  have k1 : w0.cell? ⟨w.heap.size, 1, none⟩ = some (.int .i64 m) := cell_of rp0 rfl
  have k2 : w0.cell? ⟨w.heap.size, 2, none⟩ = some (.int .i64 n) := cell_of rp0 rfl
  have hb : Below w0.heap.size w0 w0.drew := below_drN (Below.refl _ _) 1
  replace rp0 := keep hb rp0
  replace rp1 := keep hb rp1
  replace k0 := keepc hb k0
  replace k1 := keepc hb k1
  replace k2 := keepc hb k2
  replace hw := Below.after hw hb
  clear hb
  refine wp_region_noPanic ?_
  refine wp_region_held (S := fun W_ => W_.cell? ⟨w.heap.size, 0, none⟩ = some (.slice vo l.length vc) ∧ W_.cell? ⟨w.heap.size, 1, none⟩ = some (.int .i64 m) ∧ W_.cell? ⟨w.heap.size, 2, none⟩ = some (.int .i64 n)) (by kernel_rfl) ?_
  change wpAnyH _ _ _ _ _ _ _ _ (World.drew _)
  generalize w0.drew = wd126 at *
  refine wpAnyH_take (i := 0) (v := ?v127) rfl (by kernel_rfl) (by kernel_rfl) (by kernel_rfl) (fun _ _ _ h => h) (Or.inl ⟨by rfl, ?y127⟩) (⟨k0, k1, k2⟩) ?r127
  case y127 =>
    intro w_ hS_
    go_simp
    try with_reducible rfl
  simp only [Act.put, List.getElem_toArray, List.getElem_cons_zero, List.setIfInBounds_toArray, List.set_cons_succ, List.set_cons_zero]
  refine wpAnyH_take (i := 1) (v := .slice vo l.length vc) rfl (by kernel_rfl) (by kernel_rfl) (by kernel_rfl) (fun _ _ _ h => h) (Or.inl ⟨by rfl, ?y128⟩) (⟨k0, k1, k2⟩) ?r128
  case y128 =>
    intro w_ hS_
    obtain ⟨q0, q1, q2⟩ := hS_
    go_simp
    try with_reducible rfl
  simp only [Act.put, List.getElem_toArray, List.getElem_cons_succ, List.getElem_cons_zero, List.setIfInBounds_toArray, List.set_cons_succ, List.set_cons_zero]
  refine wpAnyH_take (i := 2) (v := ?v129) rfl (by kernel_rfl) (by kernel_rfl) (by kernel_rfl) (fun _ _ _ h => h) (Or.inl ⟨by rfl, ?y129⟩) (⟨k0, k1, k2⟩) ?r129
  case y129 =>
    intro w_ hS_
    go_simp
    try with_reducible rfl
  simp only [Act.put, List.getElem_toArray, List.getElem_cons_succ, List.getElem_cons_zero, List.setIfInBounds_toArray, List.set_cons_succ, List.set_cons_zero]
  refine wpAnyH_take (i := 3) (v := .int .i64 m) rfl (by kernel_rfl) (by kernel_rfl) (by kernel_rfl) (fun _ _ _ h => h) (Or.inl ⟨by rfl, ?y130⟩) (⟨k0, k1, k2⟩) ?r130
  case y130 =>
    intro w_ hS_
    obtain ⟨q0, q1, q2⟩ := hS_
    go_simp
    try with_reducible rfl
  simp only [Act.put, List.getElem_toArray, List.getElem_cons_succ, List.getElem_cons_zero, List.setIfInBounds_toArray, List.set_cons_succ, List.set_cons_zero]
  refine wpAnyH_take (i := 4) (v := ?v131) rfl (by kernel_rfl) (by kernel_rfl) (by kernel_rfl) (fun _ _ _ h => h) (Or.inl ⟨by rfl, ?y131⟩) (⟨k0, k1, k2⟩) ?r131
  case y131 =>
    intro w_ hS_
    go_simp
    try with_reducible rfl
  simp only [Act.put, List.getElem_toArray, List.getElem_cons_succ, List.getElem_cons_zero, List.setIfInBounds_toArray, List.set_cons_succ, List.set_cons_zero]
  refine wpAnyH_take (i := 5) (v := .int .i64 n) rfl (by kernel_rfl) (by kernel_rfl) (by kernel_rfl) (fun _ _ _ h => h) (Or.inl ⟨by rfl, ?y132⟩) (⟨k0, k1, k2⟩) ?r132
  case y132 =>
    intro w_ hS_
    obtain ⟨q0, q1, q2⟩ := hS_
    go_simp
    try with_reducible rfl
  simp only [Act.put, List.getElem_toArray, List.getElem_cons_succ, List.getElem_cons_zero, List.setIfInBounds_toArray, List.set_cons_succ, List.set_cons_zero]
  refine wpAnyH_take (i := 6) (v := ?v133) rfl (by kernel_rfl) (by kernel_rfl) (by kernel_rfl) (fun _ _ _ h => h) (Or.inl ⟨by rfl, ?y133⟩) (⟨k0, k1, k2⟩) ?r133
  case y133 =>
    intro w_ hS_
    go_simp
    try with_reducible rfl
  simp only [Act.put, List.getElem_toArray, List.getElem_cons_succ, List.getElem_cons_zero, List.setIfInBounds_toArray, List.set_cons_succ, List.set_cons_zero]
  refine wpAnyH_take (i := 7) (v := ?v134) rfl (by kernel_rfl) (by kernel_rfl) (by kernel_rfl) (fun _ _ _ h => h) (Or.inl ⟨by rfl, ?y134⟩) (⟨k0, k1, k2⟩) ?r134
  case y134 =>
    intro w_ hS_
    go_simp
    try with_reducible rfl
  simp only [Act.put, List.getElem_toArray, List.getElem_cons_succ, List.getElem_cons_zero, List.setIfInBounds_toArray, List.set_cons_succ, List.set_cons_zero]
  refine wpAnyH_take (i := 8) (v := ?v135) rfl (by kernel_rfl) (by kernel_rfl) (by kernel_rfl) (fun _ _ _ h => h) (Or.inl ⟨by rfl, ?y135⟩) (⟨k0, k1, k2⟩) ?r135
  case y135 =>
    intro w_ hS_
    go_simp
    try with_reducible rfl
  simp only [Act.put, List.getElem_toArray, List.getElem_cons_succ, List.getElem_cons_zero, List.setIfInBounds_toArray, List.set_cons_succ, List.set_cons_zero]
  refine wpAnyH_done (by kernel_rfl) ?_ _
  refine NoPanic.normal ?_
  clear k0 k1 k2
  have hO : OwnK (wd126.alloc (.cells #[] 24)) wd126.heap.size (.slice (some ⟨wd126.heap.size, 0, none⟩) 0 0) [] := OwnK.empty wd126 (Nat.le_refl _)
  have hs1 := hw.size
  have hb1 : Below wd126.heap.size wd126 (wd126.alloc (.cells #[] 24)) := (Below.refl _ _).alloc (Nat.le_refl _) _
  go_wp2_with (at_builtin; refine wpList_append_Ks rfl (.tmp 31) (.tmp 32) rfl wd126.heap.size _ [] rfl hO _ l rfl (hL.keep (Below.after hw hb1)) (by simp only [List.length_nil]; omega) hb1.size ?_)
  intro vc_ wc_ hC hgr _
  have hb : Below wd126.heap.size wd126 wc_ := hb1.grown hgr hb1.size (fun k e => (hO.lt k e).1)
  clear hO hgr hb1
  replace rp0 := keep hb rp0
  replace rp1 := keep hb rp1
  replace hw := Below.after hw hb
  clear hb
  replace hC : OwnK wc_ wd126.heap.size vc_ l := hC
  replace hC := hC.ksl hL.ok (by omega)
  obtain ⟨co, cc, ec, _, _⟩ := hC.slc
  subst ec
  go_wp2_with (fail)
  have lp1 := lt_of_row rp1
  refine (a_From l _ _ hC hle).mono ?_
  rintro e_ w3 ⟨_, g, rfl, lv, rfl, hG, hb⟩
  clear hC
  have hbw := hw.size
  replace rp0 := keep hb rp0
  replace rp1 := keep hb rp1
  replace hw := Below.after hw hb
  clear hb
  go_wp2_with (fail)
  refine (cR _ _ _ _ _ (.inl rfl) (hS.below hw) (hK.below hw) hG).mono ?_
  rintro e_ w4 ⟨rfl, hb⟩
  replace rp0 := keep hb rp0
  replace rp1 := keep hb rp1
  replace hG := hG.keep hb
  replace hw := Below.after hw hb
  clear hb
  have hvl := hG.2.1.lt
  have hgl := lt_of_row hG.1
  go_wp2_with (first | (refine wpList_store_row rfl 24 _ _ rfl (w4.heap.size) (irow .u8 R) rfl rfl 24 (irow .u8 (zr 32)) (hp1_0 w4 _) (infok8 _ hR) (((irow_size _ _).trans (zr_len 32)).trans ((irow_size _ _).trans hR).symm) (irow_one8 _) ?_; rw [setRow_alloc_new _ _ _ _ _ _ (by simp)]; refine wpList_stay ?_) | fail)
  unfold WpStay
  try simp only [Act.put]
  have rl10 : (w4.alloc (.cells (irow .u8 R) 24)).heap[w4.heap.size]? = some (.cells (irow .u8 R) 24 (0, 0)) := hp1_0 w4 _
  have hb : Below w4.heap.size w4 (w4.alloc (.cells (irow .u8 R) 24)) := ((Below.refl _ _).alloc (Nat.le_refl _) _)
  generalize (w4.alloc (.cells (irow .u8 R) 24)) = w5 at *
  have lt_g10_0 := lt_of_row rp0
  have lt_g10_1 := lt_of_row rp1
  have sz_g10 := hw.size
  replace rp0 := keep hb rp0
  replace rp1 := keep hb rp1
  replace hG := hG.keep hb
  replace hw := Below.after hw hb
  clear hb
  generalize w4.heap.size = g10 at *
  clear w4
  have l10 := lt_of_row rl10
  go_wp2_with (fail)
  have hsp := w5.heap.size
  clear hsp
  have hszp : w5.heap.size ≤ w5.heap.size := Nat.le_refl _
  refine (cP _ _ _ _ _ (.inl rfl) (hS.below hw) (hK.below hw) hG).mono ?_
  rintro e_ wp ⟨pv, rfl, hp, hb⟩
  have hbbp := hb.size
  replace rp0 := keep hb rp0
  replace rp1 := keep hb rp1
  replace rl10 := keep hb rl10
  replace hG := hG.keep hb
  replace hw := Below.after hw hb
  clear hb
  obtain ⟨po, pc, ep, _, _⟩ := hp.slc
  subst ep
  go_wp2_with (fail)
  have hsq := wp.heap.size
  clear hsq
  have hszq : wp.heap.size ≤ wp.heap.size := Nat.le_refl _
  refine (cQ _ _ _ _ _ (.inl rfl) (hS.below hw) (hK.below hw) hG).mono ?_
  rintro e_ wq ⟨qv, rfl, hq, hb⟩
  have hbbq := hb.size
  replace rp0 := keep hb rp0
  replace rp1 := keep hb rp1
  replace rl10 := keep hb rl10
  replace hG := hG.keep hb
  replace hp := hp.keep hb
  replace hw := Below.after hw hb
  clear hb
  obtain ⟨qo, qc, eq, _, _⟩ := hq.slc
  subst eq
  go_wp2_with (first | (refine wpList_load_part rfl 24 _ rfl (w.heap.size + 1) 0 rfl 24 (irow .u8 k) (0, 0) (irow .u8 k) _ rp1 (all_rowe _) Tryd.underlying24 rfl (infok8 _ hk.1) ?_) | (refine wpList_load_part rfl 24 _ rfl (g10) 0 rfl 24 (irow .u8 R) (0, 0) (irow .u8 R) _ rl10 (all_rowe _) Tryd.underlying24 rfl (infok8 _ hR) ?_) | fail)
  have hvb := fun j e => (hG.2.1.lt j e).1
  have hbg := hG.2.2.1
  have hw5 := hw.size
  refine (a_Append l k hk _ _ g _ hG hlt).mono ?_
  rintro e_ wz ⟨rfl, lv', hG', hNx, hAp⟩
  replace hp := hp.ap hAp (by omega) (fun j e => by have := (hvl j e).2; omega)
  replace hq := hq.ap hAp (by omega) (fun j e => by have := (hvl j e).2; omega)
  have lt10 := lt_of_row rl10
  replace rl10 := row_ap (c := g10) hAp rl10 (by omega) hbg hvb (by omega) (fun j e => by have := (hvl j e).2; omega)
  replace rp1 := row_ap (c := g10) hAp rp1 (by omega) hbg hvb (by omega) (fun j e => by have := (hvl j e).2; omega)
  replace hw := hw.trans (below_weak hAp.1 (by omega))
  clear hG hNx hAp hvl hvb
  have hG := hG'
  clear hG'
  go_wp2_with (fail)
  refine (a_Len _ _ _ g _ hG).mono ?_
  rintro e_ wl ⟨rfl, hb⟩
  replace rp1 := keep hb rp1
  replace rl10 := keep hb rl10
  replace hG := hG.keep hb
  replace hp := hp.keep hb
  replace hq := hq.keep hb
  replace hw := Below.after hw hb
  clear hb
  rw [ell]
  go_wp2_with (fail)
  have hpk := hp.ksl hPo (by omega)
  have hqk := hq.ksl hQo (by omega)
  clear hp hq
  refine (cR _ _ _ _ _ (.inr rfl) (hS.below hw) (hK.below hw) hG).mono ?_
  rintro e_ x1 ⟨rfl, hb⟩
  replace rp1 := keep hb rp1
  replace rl10 := keep hb rl10
  replace hG := hG.keep hb
  replace hpk := hpk.keep hb
  replace hqk := hqk.keep hb
  replace hw := Below.after hw hb
  clear hb
  go_wp2_with (first | (refine wpList_store_row rfl 24 _ _ rfl (x1.heap.size) (irow .u8 R) rfl rfl 24 (irow .u8 (zr 32)) (hp1_0 x1 _) (infok8 _ hR) (((irow_size _ _).trans (zr_len 32)).trans ((irow_size _ _).trans hR).symm) (irow_one8 _) ?_; rw [setRow_alloc_new _ _ _ _ _ _ (by simp)]; refine wpList_stay ?_) | fail)
  unfold WpStay
  try simp only [Act.put]
  have rl18 : (x1.alloc (.cells (irow .u8 R) 24)).heap[x1.heap.size]? = some (.cells (irow .u8 R) 24 (0, 0)) := hp1_0 x1 _
  have hb : Below x1.heap.size x1 (x1.alloc (.cells (irow .u8 R) 24)) := ((Below.refl _ _).alloc (Nat.le_refl _) _)
  generalize (x1.alloc (.cells (irow .u8 R) 24)) = x2 at *
  have lt_g18_0 := lt_of_row rp1
  have lt_g18_1 := lt_of_row rl10
  have sz_g18 := hw.size
  replace rp1 := keep hb rp1
  replace rl10 := keep hb rl10
  replace hG := hG.keep hb
  replace hpk := hpk.keep hb
  replace hqk := hqk.keep hb
  replace hw := Below.after hw hb
  clear hb
  generalize x1.heap.size = g18 at *
  clear x1
  go_wp2_with (fail)
  refine (cP _ _ _ _ _ (.inr rfl) (hS.below hw) (hK.below hw) hG).mono ?_
  rintro e_ xr ⟨rv, rfl, hr, hb⟩
  replace rp1 := keep hb rp1
  replace rl10 := keep hb rl10
  replace rl18 := keep hb rl18
  replace hG := hG.keep hb
  replace hpk := hpk.keep hb
  replace hqk := hqk.keep hb
  replace hw := Below.after hw hb
  clear hb
  replace hr := hr.ksl hPo (by omega)
  obtain ⟨ro, rc, er, _, _⟩ := hr.slc
  subst er
  go_wp2_with (fail)
  refine (cQ _ _ _ _ _ (.inr rfl) (hS.below hw) (hK.below hw) hG).mono ?_
  rintro e_ xs ⟨sv, rfl, hs, hb⟩
  replace rp1 := keep hb rp1
  replace rl10 := keep hb rl10
  replace rl18 := keep hb rl18
  replace hG := hG.keep hb
  replace hpk := hpk.keep hb
  replace hqk := hqk.keep hb
  replace hr := hr.keep hb
  replace hw := Below.after hw hb
  clear hb
  replace hs := hs.ksl hQo (by omega)
  obtain ⟨so, sc, es, _, _⟩ := hs.slc
  subst es
  have eRR := eqKs R hR
  go_wp2_with (first | (refine wpList_load_part rfl 24 _ rfl (w.heap.size + 1) 0 rfl 24 (irow .u8 k) (0, 0) (irow .u8 k) _ rp1 (all_rowe _) Tryd.underlying24 rfl (infok8 _ hk.1) ?_) | (refine wpList_load_part rfl 24 _ rfl (g10) 0 rfl 24 (irow .u8 R) (0, 0) (irow .u8 R) _ rl10 (all_rowe _) Tryd.underlying24 rfl (infok8 _ hR) ?_) | (refine wpList_load_part rfl 24 _ rfl (g18) 0 rfl 24 (irow .u8 R) (0, 0) (irow .u8 R) _ rl18 (all_rowe _) Tryd.underlying24 rfl (infok8 _ hR) ?_) | fail)
  refine (l_keys _ _ _ _ hpk hr).mono ?_
  rintro e_ y1 ⟨rfl, hb⟩
  replace rp1 := keep hb rp1
  replace rl10 := keep hb rl10
  replace rl18 := keep hb rl18
  replace hG := hG.keep hb
  replace hpk := hpk.keep hb
  replace hqk := hqk.keep hb
  replace hr := hr.keep hb
  replace hs := hs.keep hb
  replace hw := Below.after hw hb
  clear hb
  go_wp2_with (first | (refine wpList_load_part rfl 24 _ rfl (w.heap.size + 1) 0 rfl 24 (irow .u8 k) (0, 0) (irow .u8 k) _ rp1 (all_rowe _) Tryd.underlying24 rfl (infok8 _ hk.1) ?_) | (refine wpList_load_part rfl 24 _ rfl (g10) 0 rfl 24 (irow .u8 R) (0, 0) (irow .u8 R) _ rl10 (all_rowe _) Tryd.underlying24 rfl (infok8 _ hR) ?_) | (refine wpList_load_part rfl 24 _ rfl (g18) 0 rfl 24 (irow .u8 R) (0, 0) (irow .u8 R) _ rl18 (all_rowe _) Tryd.underlying24 rfl (infok8 _ hR) ?_) | fail)
  refine (l_keys _ _ _ _ hqk hs).mono ?_
  rintro e_ y2 ⟨rfl, hb⟩
  replace rp1 := keep hb rp1
  replace rl10 := keep hb rl10
  replace rl18 := keep hb rl18
  replace hG := hG.keep hb
  replace hpk := hpk.keep hb
  replace hqk := hqk.keep hb
  replace hr := hr.keep hb
  replace hs := hs.keep hb
  replace hw := Below.after hw hb
  clear hb
  go_wp2_with (first | (refine wpList_load_part rfl 24 _ rfl (w.heap.size + 1) 0 rfl 24 (irow .u8 k) (0, 0) (irow .u8 k) _ rp1 (all_rowe _) Tryd.underlying24 rfl (infok8 _ hk.1) ?_) | (refine wpList_load_part rfl 24 _ rfl (g10) 0 rfl 24 (irow .u8 R) (0, 0) (irow .u8 R) _ rl10 (all_rowe _) Tryd.underlying24 rfl (infok8 _ hR) ?_) | (refine wpList_load_part rfl 24 _ rfl (g18) 0 rfl 24 (irow .u8 R) (0, 0) (irow .u8 R) _ rl18 (all_rowe _) Tryd.underlying24 rfl (infok8 _ hR) ?_) | fail)
  go_ret
  exact ⟨rfl, hw⟩
theorem only_any (l : List (List Int)) (k : List Int) (m n i : Int) (w : World) (v : Value) (hk : Ky k) (hS : Sta w) (hK : Kon w) (hL : Ksl w v l) (hbl : l.length ≤ 4398046510990) : Calls Tryd.prog 10 #[.agg (gvrow v m n i), .agg (irow .u8 k)] w fun e w' => e = .returned (.bool true) ∧ Below w.heap.size w w' := by
  obtain ⟨vo, vc, rfl, hvc, hz⟩ := hL.slc
  by_cases hbig : 65536 < l.length
  · exact only_big l k hk m n i w vo vc hL hbl hbig
  by_cases he : l.length = 65536
  · exact only_full l k hk m n i w vo vc hL he
  have hlt : l.length < 65536 := by omega
  have cG0 : ∀ (W : World) (b g : Nat) (u : Value) (ls : List (List Int)), LogS W b g u ls → (n < 0 ∨ (ls.length : Int) < n) → Calls Tryd.prog 33 #[.pointer (some ⟨g, 0, none⟩), .int .i64 n] W fun e w' => e = .returned (.tuple #[.agg (irow .u8 (zr 32)), .int .i64 210]) ∧ Below W.heap.size W w' := fun W b g u ls h3 h => a_LRoot_no ls W b g u h3 n h
  have cP0 : ∀ (W : World) (b g : Nat) (u : Value) (ls : List (List Int)), LogS W b g u ls → (n < 1 ∨ (ls.length : Int) < n ∨ m < 0 ∨ n ≤ m) → Calls Tryd.prog 35 #[.pointer (some ⟨g, 0, none⟩), .int .i64 m, .int .i64 n] W fun e w' => ∃ v', e = .returned (.tuple #[v', .int .i64 210]) ∧ OwnK w' W.heap.size v' [] ∧ Below W.heap.size W w' := fun W b g u ls h3 h => (a_LPath_no ls W b g u h3 m n h).mono fun _ _ ⟨q1, q2⟩ => ⟨_, q1, OwnK.nil _ _, q2⟩
  have cQ0 : ∀ (W : World) (b g : Nat) (u : Value) (ls : List (List Int)), LogS W b g u ls → ((ls.length : Int) < n ∨ m < 0 ∨ n < m) → Calls Tryd.prog 34 #[.pointer (some ⟨g, 0, none⟩), .int .i64 m, .int .i64 n] W fun e w' => ∃ v', e = .returned (.tuple #[v', .int .i64 210]) ∧ OwnK w' W.heap.size v' [] ∧ Below W.heap.size W w' := fun W b g u ls h3 h => (a_LGrow_no ls W b g u h3 m n h).mono fun _ _ ⟨q1, q2⟩ => ⟨_, q1, OwnK.nil _ _, q2⟩
  by_cases hn : (l.length : Int) < n
  · exact only_beyond l k hk m n i w vo vc hL hlt hn (zr_len 32) hS hK (fun W b g u ls e h1 h2 h3 => by subst e; exact cG0 W b g u ls h3 (.inr hn)) (fun W b g u ls e h1 h2 h3 => by subst e; exact cP0 W b g u ls h3 (by omega)) (fun W b g u ls e h1 h2 h3 => by subst e; exact cQ0 W b g u ls h3 (by omega))
  have hll : ∀ ls, (ls = l ∨ ls = l ++ [k]) → l.length ≤ ls.length := fun ls h => by rcases h with rfl | rfl <;> simp
  have htk : ∀ ls (N : Nat), (ls = l ∨ ls = l ++ [k]) → N ≤ l.length → ls.take N = l.take N := fun ls N h hN => by
    rcases h with rfl | rfl
    · rfl
    · rw [List.take_append_of_le_length hN]
  by_cases hn0 : n < 0
  · refine only_go l k hk m n i w vo vc hL hlt hn (R := zr 32) (P := []) (Q := []) (eR := 210) (eP := 210) (eQ := 210) (zr_len 32) Kok.nil Kok.nil (by simp) (by simp) hS hK (fun W b g u ls e h1 h2 h3 => cG0 W b g u ls h3 (.inl hn0)) (fun W b g u ls e h1 h2 h3 => cP0 W b g u ls h3 (by omega)) (fun W b g u ls e h1 h2 h3 => cQ0 W b g u ls h3 (by omega))
  obtain ⟨N, rfl⟩ := Int.eq_ofNat_of_zero_le (show 0 ≤ n by omega)
  have hN : N ≤ l.length := by omega
  have hln : (l.take N).length = N := by rw [List.length_take]; omega
  have cR1 : ∀ (W : World) (b g : Nat) (u : Value) (ls : List (List Int)), (ls = l ∨ ls = l ++ [k]) → Sta W → Kon W → LogS W b g u ls → Calls Tryd.prog 33 #[.pointer (some ⟨g, 0, none⟩), .int .i64 (N : Int)] W fun e w' => e = .returned (.tuple #[.agg (irow .u8 (rt sumL (l.take N))), .int .i64 0]) ∧ Below W.heap.size W w' := fun W b g u ls e h1 h2 h3 => by
    have h := a_LRoot ls W b g u h3 h1 h2 N (by have := hll ls e; omega)
    rw [htk ls N e hN] at h
    exact h
  have kN := Ky.rt (hL.ok.take N)
  by_cases hm : m < 0 ∨ (N : Int) < m
  · exact only_go l k hk m _ i w vo vc hL hlt hn (P := []) (Q := []) (eP := 210) (eQ := 210) kN.1 Kok.nil Kok.nil (by simp) (by simp) hS hK cR1 (fun W b g u ls e h1 h2 h3 => cP0 W b g u ls h3 (by omega)) (fun W b g u ls e h1 h2 h3 => cQ0 W b g u ls h3 (by omega))
  obtain ⟨M, rfl⟩ := Int.eq_ofNat_of_zero_le (show 0 ≤ m by omega)
  have hMN : M ≤ N := by omega
  have cQ1 : ∀ (W : World) (b g : Nat) (u : Value) (ls : List (List Int)), (ls = l ∨ ls = l ++ [k]) → Sta W → Kon W → LogS W b g u ls → Calls Tryd.prog 34 #[.pointer (some ⟨g, 0, none⟩), .int .i64 (M : Int), .int .i64 (N : Int)] W fun e w' => ∃ v', e = .returned (.tuple #[v', .int .i64 0]) ∧ OwnK w' W.heap.size v' (grL (l.take N) M) ∧ Below W.heap.size W w' := fun W b g u ls e h1 h2 h3 => by
    have h := a_LGrow ls W b g u h3 h1 h2 M N hMN (by have := hll ls e; omega)
    rw [htk ls N e hN] at h
    exact h
  by_cases hM : M = N
  · exact only_go l k hk _ _ i w vo vc hL hlt hn (P := []) (eP := 210) kN.1 Kok.nil (grL_ok (hL.ok.take N) M) (by simp) (grL_len (by omega)) hS hK cR1 (fun W b g u ls e h1 h2 h3 => cP0 W b g u ls h3 (by omega)) cQ1
  · exact only_go l k hk _ _ i w vo vc hL hlt hn kN.1 (pth_ok _ _ M rfl (hL.ok.take N)) (grL_ok (hL.ok.take N) M) (Nat.le_trans (pth_le (by omega)) (by omega)) (grL_len (by omega)) hS hK cR1 (fun W b g u ls e h1 h2 h3 => by
      have h := a_LPath ls W b g u h3 h1 h2 M N (by omega) (by have := hll ls e; omega)
      rw [htk ls N e hN] at h
      exact h) cQ1
end Go.Proofs.YtgfeacnhdlgpoaaDoor
